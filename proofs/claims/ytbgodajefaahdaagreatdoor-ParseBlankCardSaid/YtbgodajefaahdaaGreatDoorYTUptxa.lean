/-
  Parts of this proof: Lines. The contracts of slices.Equal at its types. The contract of the reference's sameLaw. The contracts of the reference's Same and Check . The contracts of the reference's sameTexts, Same.
-/
import Derived.Test.YtbgodajefaahdaaGreatDoorYQMathxa
import Derived.Test.YtbgodajefaahdaaGreatDoorYTSzS
import Derived.Test.YtbgodajefaahdaaGreatDoorYEBasexa
import Derived.Test.YtbgodajefaahdaaGreatDoorYQClo
open List renaming getElem?_eq_getElem->ae,take_of_length_le->af
open Go.Proofs.Tryz renaming prog->ag
open Nat renaming le_refl->ah,lt_or_ge->ai,zero_le->aj
open Go.Lib renaming hid->U
open Go renaming World->ak
set_option linter.unusedVariables false
open Go.Lib (hid)
namespace Go.Proofs.YtbgodajefaahdaaGreatDoor
namespace Ps
open Lx (Tk cz mM pX opn fK mP fT su fin eP fI uJ vV)
set_option maxHeartbeats 1000000
theorem aqZ (x:Tk) (n d:Nat):mP x (n+d)=down d (mP x n):=by unfold mP down;simp
theorem ao_ (d:Int) (a:List Tk):opn (a.map (down d))=opn a:=by
 unfold opn;rw[List.getLast?_map]
 cases a.getLast? <;> rfl
theorem aa8 (a:List Tk) (n d:Nat):fK (a.map (down d)) (n+d)=(fK a n).map (down d):=by
 unfold fK;rw[ao_]
 split
 · rw[List.map_append];simp[down]
 · rfl
theorem Ki (d:Nat):∀(k:Nat) (l:List UInt8) (a:List Tk) (n:Nat),l.length<=k->cz l (a.map (down d)) (n+d)=⟨(cz l a n).a.map (down d),(cz l a n).n+d,(cz l a n).bad⟩
 | 0,l,a,n,h=>by
  have:l=[]:=List.length_eq_zero_iff.1 (by omega);subst this;rw[mM,mM]
 | k+1,[],a,n,h=>by rw[mM,mM]
 | k+1,c::t,a,n,h=>by
  have ht:t.length<=k:=by simpa using h
  rw[pX c t,pX c t];by_cases g1:c=32∨c=9
  · rw[if_pos g1,if_pos g1];exact Ki d k t a n ht
  rw[if_neg g1,if_neg g1];by_cases g2:c=35
  · rw[if_pos g2,if_pos g2];have:=O_ (t:=t) g2;exact Ki d k _ a n (by rw[List.length_drop,List.length_cons];omega)
  rw[if_neg g2,if_neg g2];by_cases g3:c=10
  · rw[if_pos g3,if_pos g3,aa8,show n+d+1=n+1+d by omega];exact Ki d k t _ _ ht
  rw[if_neg g3,if_neg g3]
  cases g4:fT (c::t) with
  | none=>rfl
  | some y=>
   obtain⟨x,m⟩:=y;have:=su g4
   show cz ((c::t).drop m) (a.map (down d)++[mP x (n+d)]) (n+d)=_
   rw[aqZ,show a.map (down (d:Int))++[down d (mP x n)]=(a++[mP x n]).map (down d) by simp];exact Ki d k _ _ n (by rw[List.length_drop,List.length_cons];omega)
theorem al8 (d:Nat) {a:List Tk} {n:Nat} {b c:Bool}:fin ⟨a.map (down d),n+d,b⟩=(fin ⟨a,n,c⟩).map (down d):=by
 unfold fin;rw[List.map_append]
 show fK (a.map (down d)) (n+d)++_=_
 rw[aa8];simp[down]
def Gs (n:Int):Int:=if 0<n then n+2 else n
theorem aeA {α:Type} {z:α} {m:P α} {c:α->Int} {s s':List UInt8} (hs:s.length<=20000) (hs':s'.length<=20000) (he:cz s' [] 1=cz s [] 3) (hn:∀u,fI s=0->run m (eP s)=.no u->Gd u):jS z m c s'=((jS z m c s).1,Gs (jS z m c s).2.1,(jS z m c s).2.2):=by
 have hd:=Ki 2 s.length s [] 1 (ah _);have he2:cz s' [] 1=⟨(cz s [] 1).a.map (down 2),(cz s [] 1).n+2,(cz s [] 1).bad⟩:=he.trans hd
 cases hb:(cz s [] 1).bad with
 | true=>
  have b2:(cz s' [] 1).bad=true:=by rw[he2];exact hb
  obtain⟨-,h2,h3⟩:=vV (by omega) hb;obtain⟨-,h5,h6⟩:=vV (by omega) b2;have h8:=(GJ s.length s [] 1 (ah _)).1;rw[G7 (s:=s) (by rw[h3];decide),G7 (s:=s') (by rw[h6];decide),h2,h3,h5,h6,he2];unfold Gs;simp only;rw[if_pos (by omega)];rfl
 | false=>
  have b2:(cz s' [] 1).bad=false:=by rw[he2];exact hb
  obtain⟨h1,h2,h3⟩:=uJ (by omega) hb;obtain⟨h4,h5,h6⟩:=uJ (by omega) b2;have h7:eP s'=(eP s).map (down 2):=by
   rw[h4,h1,he2];exact al8 2
  have h8:=aqz 2 m (eP s);rw[← h7] at h8
  cases hr:run m (eP s) with
  | ok x u=>
   rw[hr] at h8;by_cases hc:c x=0
   · rw[G8 h3 hr hc,G8 h6 h8 hc];rfl
   · rw[G6 h3 hr hc,G6 h6 h8 hc];rfl
  | no u=>
   rw[hr] at h8;rw[Dm h3 hr,Dm h6 h8];obtain⟨r,hu⟩:=ach (hn u h3 hr);have hmem:Ps.hd u∈eP s:=((Hd m (eP s)).2 u hr).subset (by rw[hu];exact List.mem_cons_self);have hp:=afs h3 _ hmem;unfold Gs;simp only;rw[if_pos (by omega)];rw[hu];rfl
end Ps
namespace Md
open Go.RowKit
set_option maxHeartbeats 2000000
theorem al0 (x y:Val) (w:ak):(Op.equalIn 10000 93 (.agg (lZ x)) (.agg (lZ y))).run ag w=.ok (uQ x y) w:=by
 unfold lZ uQ
 go_simp
 by_cases h0:x.nm.toList=y.nm.toList <;> by_cases h1:x.ty=y.ty <;> by_cases h2:x.n=y.n <;> simp[← mo,dG, *]
theorem alV (x y:dQ) (w:ak):(Op.equalIn 10000 177 (.agg (zf x)) (.agg (zf y))).run ag w=.ok (wH x y) w:=by
 unfold zf wH
 go_simp
 by_cases h0:x.t=y.t <;> by_cases h1:x.u=y.u <;> simp[dG, *]
theorem alY (x y:iI) (w:ak):(Op.equalIn 10000 114 (.agg (lD x)) (.agg (lD y))).run ag w=.ok (Dv x y) w:=by
 unfold lD Dv
 go_simp
 by_cases h0:x.nm.toList=y.nm.toList <;> by_cases h1:x.rm=y.rm <;> by_cases h2:x.po=y.po <;> simp[← mo,dG, *]
theorem alU (x y:iF) (w:ak):(Op.equalIn 10000 116 (.agg (lC x)) (.agg (lC y))).run ag w=.ok (Ce x y) w:=by
 unfold lC Ce
 go_simp
 by_cases h0:x.nm.toList=y.nm.toList <;> by_cases h1:x.ln=y.ln <;> by_cases h2:x.sp=y.sp <;> simp[← mo,dG, *]
theorem alW (x y:d_) (w:ak):(Op.equalIn 10000 179 (.agg (gI x)) (.agg (gI y))).run ag w=.ok (tY x y) w:=by
 unfold gI tY
 go_simp
 by_cases h0:x.nm.toList=y.nm.toList <;> by_cases h1:x.ty=y.ty <;> simp[← mo,dG, *]
theorem alX (x y:gz) (w:ak):(Op.equalIn 10000 73 (.agg (oN x)) (.agg (oN y))).run ag w=.ok (CL x y) w:=by
 unfold oN CL
 go_simp
 by_cases h0:x.fr.toList=y.fr.toList <;> by_cases h1:x.tt.toList=y.tt.toList <;> by_cases h2:x.de=y.de <;> simp[← mo,dG, *]
theorem alZ (x y:gU) (w:ak):(Op.equalIn 10000 181 (.agg (iw x)) (.agg (iw y))).run ag w=.ok (xD x y) w:=by
 unfold iw xD
 go_simp
 by_cases h0:x.co=y.co <;> by_cases h1:x.wh.toList=y.wh.toList <;> by_cases h2:x.nm.toList=y.nm.toList <;> simp[← mo,dG, *]
end Md
namespace Md
open Go.RowKit
open Ex (Lo Gives iB)
set_option maxHeartbeats 4000000
theorem X8 {p:Prop} (h:p:=by
 clear hlm kM hm hm2 h1;go_enter Tryz.func50,Tryz.ntmps50;go_wp2_with fail;go_ret;exact⟨by rw[HN.out];rfl,bl⟩
 ):p:=h
set_option maxRecDepth 100000 in
theorem aqb (x y:Lw) (P Q:rR) (w:ak) (hx:oL (Lo w.heap.size) w x P) (hy:oL (Lo w.heap.size) w y Q):Calls ag 50 #[.agg (fo x P),.agg (fo y Q)] w (Gives (.bool (vF x y)) w):=by
 have HH:=U hx.ts;have qm:=U hy.ts;obtain⟨hlm,hm⟩:=hx.ts.len;obtain⟨kM,hm2⟩:=hy.ts.len;obtain⟨l,hlx⟩:∃l,x.ts=l:=⟨_,rfl⟩
 obtain⟨l2,Ez⟩:∃l,y.ts=l:=⟨_,rfl⟩
 obtain⟨m,hmx⟩:∃m,P.Bw=m:=⟨_,rfl⟩
 obtain⟨m2,AF⟩:∃m,Q.Bw=m:=⟨_,rfl⟩
 have FX:=rq (w:=w) 127 127 (fo x P) (fo y Q);have c1:(fo x P)[1]?=some (.slice P.Dz m P.Fv):=by rw[Jb,hmx]
 have c2:(fo y Q)[1]?=some (.slice Q.Dz m2 Q.Fv):=by rw[Jb,AF]
 rw[hmx,hlx] at HH hlm;rw[hmx] at hm;rw[AF,Ez] at qm kM;rw[AF] at hm2;have HL:=U hlm;have HL2:=U kM;have HB:=U (show vF x y=(dF x.nm y.nm&&dC xD l l2&&dG x.tt y.tt) by unfold vF;rw[hlx,Ez]);have FK:Hid (∀W,Below ((w.alloc (.cells (fo x P) 127)).alloc (.cells (fo y Q) 127)).heap.size ((w.alloc (.cells (fo x P) 127)).alloc (.cells (fo y Q) 127)) W->W.cell? ⟨w.heap.size,0,none⟩=some (.string x.nm)/\W.cell? ⟨w.heap.size,1,none⟩=some (.slice P.Dz m P.Fv)/\W.cell? ⟨w.heap.size,2,none⟩=some (.int .i64 x.tt)/\W.cell? ⟨w.heap.size+1,0,none⟩=some (.string y.nm)/\W.cell? ⟨w.heap.size+1,1,none⟩=some (.slice Q.Dz m2 Q.Fv)/\W.cell? ⟨w.heap.size+1,2,none⟩=some (.int .i64 y.tt)):=U fun W hb=>by
  have q:=FX.out W hb;exact⟨q.1.get (Ec x P),q.1.get c1,q.1.get (Ga x P),q.2.get (Ec y Q),q.2.get c2,q.2.get (Ga y Q)⟩
 have t3:(m:Int)<=9223372036854775807:=by omega
 obtain⟨g0,g1,g2,g3,g4,g5⟩:=FK.out ((w.alloc (.cells (fo x P) 127)).alloc (.cells (fo y Q) 127)) (Below.refl _ _);have z0:(x.nm.toList==y.nm.toList)=dF x.nm y.nm:=mo _ _;clear hx hy c1 c2 hlx Ez hmx AF
 cases h1:dF x.nm y.nm
 · have HN:Hid (vF x y=false):=U (by rw[HB.out,h1];rfl);rw[h1] at z0;exact X8
 rw[h1] at z0;by_cases h2:x.tt=y.tt;rotate_left 1
 · have HN:Hid (vF x y=false):=U (by rw[HB.out,show dG x.tt y.tt=false from decide_eq_false h2,Bool.and_false]);have u1:(x.tt==y.tt)=false:=beq_eq_false_iff_ne.2 h2;have u2:(x.tt != y.tt)=true:=bne_iff_ne.2 h2;exact X8
 have u1:(x.tt==y.tt)=true:=beq_iff_eq.2 h2;have u2:(x.tt != y.tt)=false:=by rw[bne,u1];rfl
 by_cases hmm:m=m2;rotate_left 1
 · have HN:Hid (vF x y=false):=U (by rw[HB.out,r_ (f:=xD) (l:=l) (m:=l2) (by omega),Bool.and_false];rfl);have u3:((m:Int)==(m2:Int))=false:=beq_eq_false_iff_ne.2 (by omega);have u4:((m:Int) != (m2:Int))=true:=bne_iff_ne.2 (by omega);have u5:(m==m2)=false:=beq_eq_false_iff_ne.2 hmm;have u6:(m != m2)=true:=bne_iff_ne.2 hmm;exact X8
 subst hmm;have HE:Hid (vF x y=dC xD l l2):=U (by rw[HB.out,h1,show dG x.tt y.tt=true from decide_eq_true h2,Bool.and_true,Bool.true_and]);clear hlm hm kM hm2 h1;obtain⟨kk,hkk⟩:∃n:Nat,3=n:=⟨_,rfl⟩
 have hsz:∀w,(sizeOf 181).run ag w=.ok kk w:=fun w=>by rw[Tryz.sizeOf181,hkk]
 have HKK:=U hkk;clear hkk;go_enter Tryz.func50,Tryz.ntmps50;go_wp2_with fail;clear g0 g1 g2 g3 g4 g5;go_loopw [5] (fun i wr=>∃k:Nat,k<=m/\i=.int .i64 (k:Nat)/\Hid (Below ((w.alloc (.cells (fo x P) 127)).alloc (.cells (fo y Q) 127)).heap.size ((w.alloc (.cells (fo x P) 127)).alloc (.cells (fo y Q) 127)) wr)/\Hid (dC xD (l.take k) (l2.take k)=true)) (fun i _=>m-(intOf i).toNat)
 case atStart=>exact⟨0,aj _,rfl,U bl,U rfl⟩
 case round=>
  obtain⟨k,hk,rfl,HW,HA⟩:=hrel;have k0:(0:Int)<=(k:Int):=by omega
  obtain⟨g0,g1,g2,g3,g4,g5⟩:=FK.out wr HW.out;clear g0 g2 g3 g5;rcases ai k m with h|h
  · have k1:(k:Int)<(m:Int):=by omega
    have hkl:k<l.length:=by rw[HL.out];exact h
    have dM:k<l2.length:=by rw[HL2.out];exact h
    have HX:=U (ae hkl);have dV:=U (ae dM);have hbw:Below w.heap.size w wr:=by have bU:=HW.out;exact bl
    obtain⟨b,o,hp,gD,hG,hcell⟩:=(HH.out.below jw.map hbw).rows (by omega);obtain⟨c,hcs,hat,hR⟩:=hcell.out k hkl;obtain⟨b2,o2,hp2,pV,hG2,hcell2⟩:=(qm.out.below jw.map hbw).rows (by omega);obtain⟨d,hcs2,cK,hR2⟩:=hcell2.out k dM;rw[hp] at g1;rw[hp2] at g4;have hcsz:c.size=kk:=by rw[hcs,HKK.out]
    have sF:d.size=kk:=by rw[hcs2,HKK.out]
    have bt:Big 181 c.size:=by rw[hcs];exact Sj
    have eH:Big 181 d.size:=by rw[hcs2];exact Sj
    have ld1:=fun n=>At.dW (w:=wr.drewN n) (hat.at HKK.out) hcsz;have lI:=fun n=>At.kg (w:=wr.drewN n) (hat.at HKK.out) bt;have nD:=fun n=>At.kN (w:=wr.drewN n) (hat.at HKK.out) bt;have sJ:=fun n=>At.dW (w:=wr.drewN n) (cK.at HKK.out) sF;have OU:=fun n=>At.kg (w:=wr.drewN n) (cK.at HKK.out) eH;have UI:=fun n=>At.kN (w:=wr.drewN n) (cK.at HKK.out) eH;have heq:∀W,(Op.equalIn 10000 181 (.agg c) (.agg d)).run ag W=.ok (xD l[k] l2[k]) W:=fun W=>by rw[hR,hR2];exact alZ _ _ W
    obtain⟨x1,hx⟩:∃x,l[k]=x:=⟨_,rfl⟩
    obtain⟨y1,hy⟩:∃y,l2[k]=y:=⟨_,rfl⟩
    rw[hx] at HX heq;rw[hy] at dV heq;clear bt eH hx hy;clear hcell hcs hat hR hkl hcell2 hcs2 cK hR2 dM hbw
    cases hr:xD x1 y1
    · have H:=U (pU HX.out dV.out hr);rw[hr] at heq;clear hr;go_wp2_with fail
      try (go_quiet (fail);go_wp2_with fail)
      go_ret;exact⟨by rw[HE.out];exact iB H.out.symm,by have bU:=HW.out;exact bl⟩
    · have H:=U (vk HX.out dV.out HA.out hr);rw[hr] at heq;clear hr;go_wp2_with fail
      try (go_quiet (fail);go_wp2_with fail)
      go_roundw
      case rel=>exact⟨k+1,by omega,by go_num,U (by have bU:=HW.out;exact bl),H⟩
      case measure=>simp[intOf];omega
  · obtain rfl:m=k:=by omega
    have HT:=U (show dC xD l l2=true by have h1:=HA.out;rwa [af (by rw[HL.out];exact ah _),af (by rw[HL2.out];exact ah _)] at h1);go_wp2_with fail;go_ret;exact⟨by rw[HE.out];exact iB HT.out.symm,by have bU:=HW.out;exact bl⟩
end Md
namespace Md
open Go.RowKit
open Sm (Dt kQ G9 Ints)
open Ex (Lo Gives)
set_option maxHeartbeats 4000000
theorem aeD {G H:Nat->Prop} {w:ak} (d e:Dt) (vp:Option Addr) (vm vc:Nat) (wp:Option Addr) (wm wc:Nat) (Fx:Option Addr) (Lv Lt:Nat) (wp':Option Addr) (LK LH:Nat) (h1:Ints G w d.vs vp vm) (h2:Ints G w d.ws wp wm) (h3:Ints H w e.vs Fx Lv) (h4:Ints H w e.ws wp' LK):Calls ag 22 #[dv d vp vm vc wp wm wc,dv e Fx Lv Lt wp' LK LH] w (Gives (.bool (kQ d e)) w):=by
 have h:=Di.Fb d.op d.a d.b d.n vp d.vs.length vc wp d.ws.length wc _ _ e.op e.a e.b e.n Fx e.vs.length Lt wp' e.ws.length LH _ _ w h1.row h2.row h3.row h4.row;rw[G9,h1.1,h2.1,h3.1,h4.1] at h;exact h
theorem QW {p:Prop} (h:p:=by
 clear hlm kM hm hm2 h1 HB;go_enter Tryz.func47,Tryz.ntmps47;go_wp2_with fail;go_ret;exact⟨by rw[HN.out];rfl,bl⟩
 ):p:=h
set_option maxRecDepth 100000 in
theorem aqo (x y:dm) (P Q:eO) (w:ak) (hx:m_ (Lo w.heap.size) w x P) (hy:m_ (Lo w.heap.size) w y Q):Calls ag 47 #[.agg (dI x P),.agg (dI y Q)] w (Gives (.bool (rG x y)) w):=by
 have HX:=U hx.Ay;have HY:=U hy.Ay;have HH:=U hx.sh;have qm:=U hy.sh;obtain⟨hlm,hm⟩:=hx.sh.len;obtain⟨kM,hm2⟩:=hy.sh.len;obtain⟨l,hlx⟩:∃l,x.sh=l:=⟨_,rfl⟩
 obtain⟨l2,Ez⟩:∃l,y.sh=l:=⟨_,rfl⟩
 obtain⟨m,hmx⟩:∃m,P.Bq=m:=⟨_,rfl⟩
 obtain⟨m2,AF⟩:∃m,Q.Bq=m:=⟨_,rfl⟩
 have FX:=rq (w:=w) 111 111 (dI x P) (dI y Q);have c1:(dI x P)[2]?=some (.slice P.yE m P.zR):=by rw[Jc,hmx]
 have c2:(dI y Q)[2]?=some (.slice Q.yE m2 Q.zR):=by rw[Jc,AF]
 rw[hmx,hlx] at HH hlm;rw[hmx] at hm;rw[AF,Ez] at qm kM;rw[AF] at hm2;have HL:=U hlm;have HL2:=U kM;obtain⟨b2,h2⟩:∃b,kQ x.up y.up=b:=⟨_,rfl⟩
 obtain⟨b3,h3⟩:∃b,kQ x.dn y.dn=b:=⟨_,rfl⟩
 have C1:=U (fun W (hW:Below w.heap.size w W)=>(show Calls ag 22 #[.agg #[.int .i64 x.up.op,.int .i64 x.up.a,.int .i64 x.up.b,.int .i64 x.up.n,.slice P.tu P.sZ P.vX,.slice P.tF P.tC P.vY],.agg #[.int .i64 y.up.op,.int .i64 y.up.a,.int .i64 y.up.b,.int .i64 y.up.n,.slice Q.tu Q.sZ Q.vX,.slice Q.tF Q.tC Q.vY]] W (Gives (.bool b2) W) by rw[← h2];exact aeD x.up y.up _ _ _ _ _ _ _ _ _ _ _ _ (HX.out.on hW).uv (HX.out.on hW).uw (HY.out.on hW).uv (HY.out.on hW).uw));have C2:=U (fun W (hW:Below w.heap.size w W)=>(show Calls ag 22 #[.agg #[.int .i64 x.dn.op,.int .i64 x.dn.a,.int .i64 x.dn.b,.int .i64 x.dn.n,.slice P.rW P.rV P.u_,.slice P.rY P.rX P.ve],.agg #[.int .i64 y.dn.op,.int .i64 y.dn.a,.int .i64 y.dn.b,.int .i64 y.dn.n,.slice Q.rW Q.rV Q.u_,.slice Q.rY Q.rX Q.ve]] W (Gives (.bool b3) W) by rw[← h3];exact aeD x.dn y.dn _ _ _ _ _ _ _ _ _ _ _ _ (HX.out.on hW).dv (HX.out.on hW).dw (HY.out.on hW).dv (HY.out.on hW).dw));have HB:=U (show rG x y=(dF x.nm y.nm&&dG x.un y.un&&dC wH l l2&&dG x.cy y.cy&&(dF x.fs y.fs&&b2&&b3)) by unfold rG Cr;rw[hlx,Ez,h2,h3]);have t3:(m:Int)<=9223372036854775807:=by omega
 have FK:Hid (∀W,Below ((w.alloc (.cells (dI x P) 111)).alloc (.cells (dI y Q) 111)).heap.size ((w.alloc (.cells (dI x P) 111)).alloc (.cells (dI y Q) 111)) W->W.cell? ⟨w.heap.size,2,none⟩=some (.slice P.yE m P.zR)/\W.cell? ⟨w.heap.size+1,2,none⟩=some (.slice Q.yE m2 Q.zR)):=U fun W hb=>by
  have q:=FX.out W hb;exact⟨q.1.get c1,q.2.get c2⟩
 have q:=FX.out ((w.alloc (.cells (dI x P) 111)).alloc (.cells (dI y Q) 111)) (Below.refl _ _);have g0:=q.1.get (Gf x P);have g1:=q.1.get (Np x P);have g2:=q.1.get c1;have g3:=q.1.get (Jd x P);have g4:=q.1.get (Nz x P);have k0:=q.2.get (Gf y Q);have k1:=q.2.get (Np y Q);have k2:=q.2.get c2;have k3:=q.2.get (Jd y Q);have k4:=q.2.get (Nz y Q);clear q;have z0:(x.nm.toList==y.nm.toList)=dF x.nm y.nm:=mo _ _;have y0:(x.fs.toList==y.fs.toList)=dF x.fs y.fs:=mo _ _;clear hx hy c1 c2 hlx Ez hmx AF h2 h3
 cases h1:dF x.nm y.nm
 · have HN:Hid (rG x y=false):=U (by rw[HB.out,h1];rfl);rw[h1] at z0;exact QW
 rw[h1] at z0;by_cases h2:x.un=y.un;rotate_left 1
 · have HN:Hid (rG x y=false):=U (by rw[HB.out,show dG x.un y.un=false from decide_eq_false h2];simp);have u1:(x.un==y.un)=false:=beq_eq_false_iff_ne.2 h2;have u2:(x.un != y.un)=true:=bne_iff_ne.2 h2;exact QW
 have u1:(x.un==y.un)=true:=beq_iff_eq.2 h2;have u2:(x.un != y.un)=false:=by rw[bne,u1];rfl
 by_cases hmm:m=m2;rotate_left 1
 · have HN:Hid (rG x y=false):=U (by rw[HB.out,r_ (f:=wH) (l:=l) (m:=l2) (by omega)];simp);have u3:((m:Int)==(m2:Int))=false:=beq_eq_false_iff_ne.2 (by omega);have u4:((m:Int) != (m2:Int))=true:=bne_iff_ne.2 (by omega);have u5:(m==m2)=false:=beq_eq_false_iff_ne.2 hmm;have u6:(m != m2)=true:=bne_iff_ne.2 hmm;exact QW
 subst hmm;by_cases h3:x.cy=y.cy;rotate_left 1
 · have HN:Hid (rG x y=false):=U (by rw[HB.out,show dG x.cy y.cy=false from decide_eq_false h3];simp);have u3:(x.cy==y.cy)=false:=beq_eq_false_iff_ne.2 h3;have u4:(x.cy != y.cy)=true:=bne_iff_ne.2 h3;exact QW
 have u3:(x.cy==y.cy)=true:=beq_iff_eq.2 h3;have u4:(x.cy != y.cy)=false:=by rw[bne,u3];rfl
 cases h4:dF x.fs y.fs
 · have HN:Hid (rG x y=false):=U (by rw[HB.out,h4];simp);rw[h4] at y0;clear hlm kM hm hm2 h1 HB h4;go_enter Tryz.func47,Tryz.ntmps47;go_wp2_with fail;go_ret;exact⟨by rw[HN.out];rfl,bl⟩
 rw[h4] at y0;have HE:Hid (rG x y=(dC wH l l2&&(b2&&b3))):=U (by rw[HB.out,h1,h4,show dG x.un y.un=true from decide_eq_true h2,show dG x.cy y.cy=true from decide_eq_true h3];simp);clear hlm hm kM hm2 h1 h4 HB;obtain⟨kk,hkk⟩:∃n:Nat,2=n:=⟨_,rfl⟩
 have hsz:∀w,(sizeOf 177).run ag w=.ok kk w:=fun w=>by rw[Tryz.sizeOf177,hkk]
 have HKK:=U hkk;clear hkk;go_enter Tryz.func47,Tryz.ntmps47;go_wp2_with fail;clear g0 g1 g2 g3 g4 k0 k1 k2 k3 k4;go_loopw [5] (fun i wr=>∃k:Nat,k<=m/\i=.int .i64 (k:Nat)/\Hid (Below ((w.alloc (.cells (dI x P) 111)).alloc (.cells (dI y Q) 111)).heap.size ((w.alloc (.cells (dI x P) 111)).alloc (.cells (dI y Q) 111)) wr)/\Hid (dC wH (l.take k) (l2.take k)=true)) (fun i _=>m-(intOf i).toNat)
 case atStart=>exact⟨0,aj _,rfl,U bl,U rfl⟩
 case round=>
  obtain⟨k,hk,rfl,HW,HA⟩:=hrel;have k0:(0:Int)<=(k:Int):=by omega
  rcases ai k m with h|h
  · obtain⟨g1,g4⟩:=FK.out wr HW.out;have k1:(k:Int)<(m:Int):=by omega
    have hkl:k<l.length:=by rw[HL.out];exact h
    have dM:k<l2.length:=by rw[HL2.out];exact h
    have BR:=U (ae hkl);have dV:=U (ae dM);have hbw:Below w.heap.size w wr:=by have bU:=HW.out;exact bl
    obtain⟨b,o,hp,gD,hG,hcell⟩:=(HH.out.below iU.map hbw).rows (by omega);obtain⟨c,hcs,hat,hR⟩:=hcell.out k hkl;obtain⟨b2',o2,hp2,pV,hG2,hcell2⟩:=(qm.out.below iU.map hbw).rows (by omega);obtain⟨d,hcs2,cK,hR2⟩:=hcell2.out k dM;rw[hp] at g1;rw[hp2] at g4;have hcsz:c.size=kk:=by rw[hcs,HKK.out]
    have sF:d.size=kk:=by rw[hcs2,HKK.out]
    have bt:Big 177 c.size:=by rw[hcs];exact ZF
    have eH:Big 177 d.size:=by rw[hcs2];exact ZF
    have ld1:=fun n=>At.dW (w:=wr.drewN n) (hat.at HKK.out) hcsz;have lI:=fun n=>At.kg (w:=wr.drewN n) (hat.at HKK.out) bt;have nD:=fun n=>At.kN (w:=wr.drewN n) (hat.at HKK.out) bt;have sJ:=fun n=>At.dW (w:=wr.drewN n) (cK.at HKK.out) sF;have OU:=fun n=>At.kg (w:=wr.drewN n) (cK.at HKK.out) eH;have UI:=fun n=>At.kN (w:=wr.drewN n) (cK.at HKK.out) eH;have heq:∀W,(Op.equalIn 10000 177 (.agg c) (.agg d)).run ag W=.ok (wH l[k] l2[k]) W:=fun W=>by rw[hR,hR2];exact alV _ _ W
    obtain⟨x1,hx⟩:∃x,l[k]=x:=⟨_,rfl⟩
    obtain⟨y1,hy⟩:∃y,l2[k]=y:=⟨_,rfl⟩
    rw[hx] at BR heq;rw[hy] at dV heq;clear bt eH hx hy;clear hcell hcs hat hR hkl hcell2 hcs2 cK hR2 dM hbw
    cases hr:wH x1 y1
    · have H:=U (pU BR.out dV.out hr);rw[hr] at heq;clear hr;go_wp2_with fail
      try (go_quiet (fail);go_wp2_with fail)
      go_ret;exact⟨by rw[HE.out,H.out];rfl,by have bU:=HW.out;exact bl⟩
    · have H:=U (vk BR.out dV.out HA.out hr);rw[hr] at heq;clear hr;go_wp2_with fail
      try (go_quiet (fail);go_wp2_with fail)
      go_roundw
      case rel=>exact⟨k+1,by omega,by go_num,U (by have bU:=HW.out;exact bl),H⟩
      case measure=>simp[intOf];omega
  · obtain rfl:m=k:=by omega
    have HT:=U (show rG x y=(b2&&b3) by rw[HE.out,show dC wH l l2=true by have h1:=HA.out;rwa [af (by rw[HL.out];exact ah _),af (by rw[HL2.out];exact ah _)] at h1];rfl);have eY:Hid (Below w.heap.size w wr):=U (by have bU:=HW.out;exact bl);obtain⟨g1,g4⟩:=FK.out wr HW.out;have q:=FX.out wr HW.out;have p5:=q.1.get (NA x P);have r5:=q.2.get (NA y Q);have p6:=q.1.get (NB x P);have r6:=q.2.get (NB y Q);have p7:=q.1.get (NC x P);have r7:=q.2.get (NC y Q);have p8:=q.1.get (ND x P);have r8:=q.2.get (ND y Q);have p9:=q.1.get (NF x P);have r9:=q.2.get (NF y Q);have oF:=q.1.get (Nq x P);have jC:=q.2.get (Nq y Q);clear q;go_wp2_with fail;refine(C1.out _ eY.out).mono ?_;rintro e v2 ⟨rfl,hb2⟩
    cases b2 with
    | false=>
     go_wp2_with fail;go_ret;exact⟨by rw[HT.out];rfl,by have bU:=eY.out;exact bl⟩
    | true=>
     have Yv:Hid (Below w.heap.size w v2):=U (by have bU:=eY.out;exact bl);have q:=FX.out v2 (by have bU:=HW.out;exact bl);clear p5 r5 p6 r6 p7 r7 p8 r8 p9 r9 oF jC;have C_:=q.1.get (Nr x P);have rF:=q.2.get (Nr y Q);have EP:=q.1.get (Ns x P);have Dl:=q.2.get (Ns y Q);have Po:=q.1.get (Nt x P);have Be:=q.2.get (Nt y Q);have p14:=q.1.get (Nv x P);have r14:=q.2.get (Nv y Q);have p15:=q.1.get (Nw x P);have r15:=q.2.get (Nw y Q);have p16:=q.1.get (Ny x P);have r16:=q.2.get (Ny y Q);clear q;go_wp2_with fail;refine(C2.out _ Yv.out).mono ?_;rintro e v3 ⟨rfl,hb3⟩;go_wp2_with fail;go_ret;exact⟨by rw[HT.out];simp,by have bU:=Yv.out;exact bl⟩
end Md
namespace Md
open Go.RowKit
open Ex (Lo Gives iB)
set_option maxHeartbeats 2000000
theorem Ya {p:Prop} (h:p:=by
 clear hr;go_wp2_with fail
 go_quiet (fail)
 go_wp2_with fail;go_roundw
 case rel=>exact⟨k+1,by omega,by go_num,U (by have bU:=HW.out;exact bl),H⟩
 case measure=>simp[intOf];omega
 ):p:=h
theorem Yb {p:Prop} (h:p:=by
 clear hr;go_wp2_with fail
 go_quiet (fail)
 go_wp2_with fail;go_ret;exact⟨iB H.out.symm,by have bU:=HW.out;exact bl⟩
 ):p:=h
set_option maxRecDepth 100000 in
theorem aeI {l l2:List d_} {p p2:Option Addr} {m m2 c c2:Nat} {w:ak} (hl:Hid (Rw 2 dH (Lo w.heap.size) w l p m)) (hl2:Hid (Rw 2 dH (Lo w.heap.size) w l2 p2 m2)) :
 Calls ag 48 #[.slice p m c,.slice p2 m2 c2] w (Gives (.bool (dC tY l l2)) w):=by
 obtain⟨hlm,hm⟩:=hl.out.len;obtain⟨kM,hm2⟩:=hl2.out.len;have HL:=U hlm;have HL2:=U kM;have t3:(m:Int)<=9223372036854775807:=by omega
 by_cases hmm:m=m2;rotate_left 1
 · have HN:=U (r_ (f:=tY) (l:=l) (m:=l2) (by omega));have u1:((m:Int)==(m2:Int))=false:=beq_eq_false_iff_ne.2 (by omega);have u2:((m:Int) != (m2:Int))=true:=bne_iff_ne.2 (by omega);have u3:(m==m2)=false:=beq_eq_false_iff_ne.2 hmm;have u4:(m != m2)=true:=bne_iff_ne.2 hmm;clear hlm hm kM hm2 t3;go_enter Tryz.func48,Tryz.ntmps48;go_wp2_with fail;go_ret;exact⟨by rw[HN.out];rfl,bl⟩
 subst hmm;clear hlm hm kM hm2;obtain⟨kk,hkk⟩:∃n:Nat,2=n:=⟨_,rfl⟩
 have hsz:∀w,(sizeOf 179).run ag w=.ok kk w:=fun w=>by rw[Tryz.sizeOf179,hkk]
 have HKK:=U hkk;clear hkk;go_enter Tryz.func48,Tryz.ntmps48;go_wp2_with fail;go_loopw [5] (fun i wr=>∃k:Nat,k<=m/\i=.int .i64 (k:Nat)/\Hid (Below w.heap.size w wr)/\Hid (dC tY (l.take k) (l2.take k)=true)) (fun i _=>m-(intOf i).toNat)
 case atStart=>exact⟨0,aj _,rfl,U (Below.refl _ _),U rfl⟩
 case round=>
  obtain⟨k,hk,rfl,HW,HA⟩:=hrel;have k0:(0:Int)<=(k:Int):=by omega
  rcases ai k m with h|h
  · have k1:(k:Int)<(m:Int):=by omega
    have hkl:k<l.length:=by rw[HL.out];exact h
    have dM:k<l2.length:=by rw[HL2.out];exact h
    have HX:=U (ae hkl);have dV:=U (ae dM);obtain⟨b,o,rfl,gD,hG,hcell⟩:=(hl.out.below dH.map HW.out).rows (by omega);obtain⟨c,hcs,hat,hR⟩:=hcell.out k hkl;obtain⟨b2,o2,rfl,pV,hG2,hcell2⟩:=(hl2.out.below dH.map HW.out).rows (by omega);obtain⟨d,hcs2,cK,hR2⟩:=hcell2.out k dM;have hcsz:c.size=kk:=by rw[hcs,HKK.out]
    have sF:d.size=kk:=by rw[hcs2,HKK.out]
    have bt:Big 179 c.size:=by rw[hcs];exact Sg
    have eH:Big 179 d.size:=by rw[hcs2];exact Sg
    have ld1:=fun n=>At.dW (w:=wr.drewN n) (hat.at HKK.out) hcsz;have lI:=fun n=>At.kg (w:=wr.drewN n) (hat.at HKK.out) bt;have nD:=fun n=>At.kN (w:=wr.drewN n) (hat.at HKK.out) bt;have sJ:=fun n=>At.dW (w:=wr.drewN n) (cK.at HKK.out) sF;have OU:=fun n=>At.kg (w:=wr.drewN n) (cK.at HKK.out) eH;have UI:=fun n=>At.kN (w:=wr.drewN n) (cK.at HKK.out) eH;have heq:∀W,(Op.equalIn 10000 179 (.agg c) (.agg d)).run ag W=.ok (tY l[k] l2[k]) W:=fun W=>by rw[hR,hR2];exact alW _ _ W
    obtain⟨x,hx⟩:∃x,l[k]=x:=⟨_,rfl⟩
    obtain⟨y,hy⟩:∃y,l2[k]=y:=⟨_,rfl⟩
    rw[hx] at HX heq;rw[hy] at dV heq;clear bt eH hx hy;clear hcell hcs hat hR hkl hcell2 hcs2 cK hR2 dM
    cases hr:tY x y
    · have H:=U (pU HX.out dV.out hr);rw[hr] at heq;exact Yb
    · have H:=U (vk HX.out dV.out HA.out hr);rw[hr] at heq;exact Ya
  · obtain rfl:m=k:=by omega
    have HT:=U (show dC tY l l2=true by have h1:=HA.out;rwa [af (by rw[HL.out];exact ah _),af (by rw[HL2.out];exact ah _)] at h1);go_wp2_with fail;go_ret;exact⟨iB HT.out.symm,HW.out⟩
set_option maxRecDepth 100000 in
theorem aeJ {l l2:List Val} {p p2:Option Addr} {m m2 c c2:Nat} {w:ak} (hl:Hid (Rw 3 fV (Lo w.heap.size) w l p m)) (hl2:Hid (Rw 3 fV (Lo w.heap.size) w l2 p2 m2)) :
 Calls ag 19 #[.slice p m c,.slice p2 m2 c2] w (Gives (.bool (dC uQ l l2)) w):=by
 obtain⟨hlm,hm⟩:=hl.out.len;obtain⟨kM,hm2⟩:=hl2.out.len;have HL:=U hlm;have HL2:=U kM;have t3:(m:Int)<=9223372036854775807:=by omega
 by_cases hmm:m=m2;rotate_left 1
 · have HN:=U (r_ (f:=uQ) (l:=l) (m:=l2) (by omega));have u1:((m:Int)==(m2:Int))=false:=beq_eq_false_iff_ne.2 (by omega);have u2:((m:Int) != (m2:Int))=true:=bne_iff_ne.2 (by omega);have u3:(m==m2)=false:=beq_eq_false_iff_ne.2 hmm;have u4:(m != m2)=true:=bne_iff_ne.2 hmm;clear hlm hm kM hm2 t3;go_enter Tryz.func19,Tryz.ntmps19;go_wp2_with fail;go_ret;exact⟨by rw[HN.out];rfl,bl⟩
 subst hmm;clear hlm hm kM hm2;obtain⟨kk,hkk⟩:∃n:Nat,3=n:=⟨_,rfl⟩
 have hsz:∀w,(sizeOf 93).run ag w=.ok kk w:=fun w=>by rw[Tryz.sizeOf93,hkk]
 have HKK:=U hkk;clear hkk;go_enter Tryz.func19,Tryz.ntmps19;go_wp2_with fail;go_loopw [5] (fun i wr=>∃k:Nat,k<=m/\i=.int .i64 (k:Nat)/\Hid (Below w.heap.size w wr)/\Hid (dC uQ (l.take k) (l2.take k)=true)) (fun i _=>m-(intOf i).toNat)
 case atStart=>exact⟨0,aj _,rfl,U (Below.refl _ _),U rfl⟩
 case round=>
  obtain⟨k,hk,rfl,HW,HA⟩:=hrel;have k0:(0:Int)<=(k:Int):=by omega
  rcases ai k m with h|h
  · have k1:(k:Int)<(m:Int):=by omega
    have hkl:k<l.length:=by rw[HL.out];exact h
    have dM:k<l2.length:=by rw[HL2.out];exact h
    have HX:=U (ae hkl);have dV:=U (ae dM);obtain⟨b,o,rfl,gD,hG,hcell⟩:=(hl.out.below fV.map HW.out).rows (by omega);obtain⟨c,hcs,hat,hR⟩:=hcell.out k hkl;obtain⟨b2,o2,rfl,pV,hG2,hcell2⟩:=(hl2.out.below fV.map HW.out).rows (by omega);obtain⟨d,hcs2,cK,hR2⟩:=hcell2.out k dM;have hcsz:c.size=kk:=by rw[hcs,HKK.out]
    have sF:d.size=kk:=by rw[hcs2,HKK.out]
    have bt:Big 93 c.size:=by rw[hcs];exact M9
    have eH:Big 93 d.size:=by rw[hcs2];exact M9
    have ld1:=fun n=>At.dW (w:=wr.drewN n) (hat.at HKK.out) hcsz;have lI:=fun n=>At.kg (w:=wr.drewN n) (hat.at HKK.out) bt;have nD:=fun n=>At.kN (w:=wr.drewN n) (hat.at HKK.out) bt;have sJ:=fun n=>At.dW (w:=wr.drewN n) (cK.at HKK.out) sF;have OU:=fun n=>At.kg (w:=wr.drewN n) (cK.at HKK.out) eH;have UI:=fun n=>At.kN (w:=wr.drewN n) (cK.at HKK.out) eH;have heq:∀W,(Op.equalIn 10000 93 (.agg c) (.agg d)).run ag W=.ok (uQ l[k] l2[k]) W:=fun W=>by rw[hR,hR2];exact al0 _ _ W
    obtain⟨x,hx⟩:∃x,l[k]=x:=⟨_,rfl⟩
    obtain⟨y,hy⟩:∃y,l2[k]=y:=⟨_,rfl⟩
    rw[hx] at HX heq;rw[hy] at dV heq;clear bt eH hx hy;clear hcell hcs hat hR hkl hcell2 hcs2 cK hR2 dM
    cases hr:uQ x y
    · have H:=U (pU HX.out dV.out hr);rw[hr] at heq;exact Yb
    · have H:=U (vk HX.out dV.out HA.out hr);rw[hr] at heq;exact Ya
  · obtain rfl:m=k:=by omega
    have HT:=U (show dC uQ l l2=true by have h1:=HA.out;rwa [af (by rw[HL.out];exact ah _),af (by rw[HL2.out];exact ah _)] at h1);go_wp2_with fail;go_ret;exact⟨iB HT.out.symm,HW.out⟩
set_option maxRecDepth 100000 in
theorem KI {l l2:List ByteArray} {p p2:Option Addr} {m m2 c c2:Nat} {w:ak} (hl:Hid (Rw 1 dP (Lo w.heap.size) w l p m)) (hl2:Hid (Rw 1 dP (Lo w.heap.size) w l2 p2 m2)) :
 Calls ag 46 #[.slice p m c,.slice p2 m2 c2] w (Gives (.bool (dC dF l l2)) w):=by
 obtain⟨hlm,hm⟩:=hl.out.len;obtain⟨kM,hm2⟩:=hl2.out.len;have HL:=U hlm;have HL2:=U kM;have t3:(m:Int)<=9223372036854775807:=by omega
 by_cases hmm:m=m2;rotate_left 1
 · have HN:=U (r_ (f:=dF) (l:=l) (m:=l2) (by omega));have u1:((m:Int)==(m2:Int))=false:=beq_eq_false_iff_ne.2 (by omega);have u2:((m:Int) != (m2:Int))=true:=bne_iff_ne.2 (by omega);have u3:(m==m2)=false:=beq_eq_false_iff_ne.2 hmm;have u4:(m != m2)=true:=bne_iff_ne.2 hmm;clear hlm hm kM hm2 t3;go_enter Tryz.func46,Tryz.ntmps46;go_wp2_with fail;go_ret;exact⟨by rw[HN.out];rfl,bl⟩
 subst hmm;clear hlm hm kM hm2;go_enter Tryz.func46,Tryz.ntmps46;go_wp2_with fail;go_loopw [5] (fun i wr=>∃k:Nat,k<=m/\i=.int .i64 (k:Nat)/\Hid (Below w.heap.size w wr)/\Hid (dC dF (l.take k) (l2.take k)=true)) (fun i _=>m-(intOf i).toNat)
 case atStart=>exact⟨0,aj _,rfl,U (Below.refl _ _),U rfl⟩
 case round=>
  obtain⟨k,hk,rfl,HW,HA⟩:=hrel;have k0:(0:Int)<=(k:Int):=by omega
  rcases ai k m with h|h
  · have k1:(k:Int)<(m:Int):=by omega
    have hkl:k<l.length:=by rw[HL.out];exact h
    have dM:k<l2.length:=by rw[HL2.out];exact h
    have HX:=U (ae hkl);have dV:=U (ae dM);obtain⟨b,o,rfl,gD,hG,hcell⟩:=(hl.out.below dP.map HW.out).rows (by omega);obtain⟨c,hcs,hat,hR⟩:=hcell.out k hkl;obtain⟨b2,o2,rfl,pV,hG2,hcell2⟩:=(hl2.out.below dP.map HW.out).rows (by omega);obtain⟨d,hcs2,cK,hR2⟩:=hcell2.out k dM;have e1:=hat.get (r:=0) (v:=.string l[k]) (by rw[hR];rfl);have e2:=cK.get (r:=0) (v:=.string l2[k]) (by rw[hR2];rfl);rw[show o+k*1+0=o+k by omega] at e1;rw[show o2+k*1+0=o2+k by omega] at e2;obtain⟨x,hx⟩:∃x,l[k]=x:=⟨_,rfl⟩
    obtain⟨y,hy⟩:∃y,l2[k]=y:=⟨_,rfl⟩
    rw[hx] at HX e1;rw[hy] at dV e2;clear hx hy;clear hcell hcs hat hR hkl hcell2 hcs2 cK hR2 dM
    cases hr:dF x y
    · have H:=U (pU HX.out dV.out hr);have q1:(x.toList==y.toList)=false:=by rw[mo];exact hr
      exact Yb
    · have H:=U (vk HX.out dV.out HA.out hr);have q1:(x.toList==y.toList)=true:=by rw[mo];exact hr
      exact Ya
  · obtain rfl:m=k:=by omega
    have HT:=U (show dC dF l l2=true by have h1:=HA.out;rwa [af (by rw[HL.out];exact ah _),af (by rw[HL2.out];exact ah _)] at h1);go_wp2_with fail;go_ret;exact⟨iB HT.out.symm,HW.out⟩
end Md
end Go.Proofs.YtbgodajefaahdaaGreatDoor
