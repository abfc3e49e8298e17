/-
  Parts of this proof: The contract of the reference's Same of models. What the laws of blanks and of wrong texts ask, . The law of blanks, comments and empty lines ahea.
-/
import Derived.Test.YtbgodajefaahdaaGreatDoorYQRssxa
open Go.Proofs.Tryz renaming prog->ae
open Go.Lib renaming hid->U
open Go.RowKit renaming Below->af,Hid->ak
open List renaming getElem?_eq_getElem->ag,take_of_length_le->ai,length_cons->aj
open Go.World renaming cell?->ah
open Option renaming none->au,some->ay
open Nat renaming le_refl->av
open And renaming intro->ax
set_option linter.unusedVariables false
open Go.Lib (hid)
namespace Go.Proofs.YtbgodajefaahdaaGreatDoor
namespace Md
open Go.RowKit Go.Maps
open Ex (Lo Gives block_lt)
set_option maxHeartbeats 8000000
set_option linter.unusedSimpArgs false
set_option maxRecDepth 100000 in
theorem aqr (x y:dx) (P Q:kS) (w:World) (hx:iG (Lo w.heap.size) w x P) (hy:iG (Lo w.heap.size) w y Q):Calls ae 8 #[.agg (dB x P),.agg (dB y Q)] w (Gives (.bool (vJ x y)) w):=by
 have HX:=U hx;have HY:=U hy;have FX:=rq (w:=w) 27 27 (dB x P) (dB y Q);obtain⟨b0,h0⟩:∃b,dF x.nm y.nm=b:=⟨_,rfl⟩
 obtain⟨b1,h1⟩:∃b,dC uQ x.pa y.pa=b:=⟨_,rfl⟩
 obtain⟨b2,h2⟩:∃b,dC jE x.si y.si=b:=⟨_,rfl⟩
 obtain⟨b3,h3⟩:∃b,dC CL x.li y.li=b:=⟨_,rfl⟩
 have HB:=U (show vJ x y=(b0&&b1&&b2&&b3) by unfold vJ;rw[h0,h1,h2,h3]);have H0:=U h0;have H1:=U h1;have H2:=U h2;have H3:=U h3;have u0:(x.nm.toList==y.nm.toList)=b0:=by rw[mo];exact h0
 clear h0 h1 h2 h3;have C1:=U (fun W (hW:af w.heap.size w W)=>(show Calls ae 19 #[.slice P.pap P.sO P.sN,.slice Q.pap Q.sO Q.sN] W (Gives (.bool b1) W) by rw[← H1.out];exact aeJ (U (HX.out.pa.on fV.map hW)) (U (HY.out.pa.on fV.map hW))));obtain⟨hl2,hm2⟩:=hx.si.len;obtain⟨hk2,hn2⟩:=hy.si.len;have HL2:=U (ax hl2 hm2);have uT:=U (ax hk2 hn2);obtain⟨hl3,ym⟩:=hx.li.len;obtain⟨hk3,JU⟩:=hy.li.len;have Af:=U (ax hl3 ym);have xM:=U (ax hk3 JU);clear hx hy hl2 hm2 hk2 hn2 hl3 ym hk3 JU;have q:=FX.out ((w.alloc (.cells (dB x P) 27)).alloc (.cells (dB y Q) 27)) (Below.refl _ _);have g0:=q.1.get (Gb x P);have TQ:=q.2.get (Gb y Q);have g1:=q.1.get (Gc x P);have TR:=q.2.get (Gc y Q);clear q
 cases b0 with
 | false=>
  go_enter Tryz.func8,Tryz.ntmps8;have HN:=U (show vJ x y=false by rw[HB.out];simp);go_wp2_with fail;go_ret;exact⟨by rw[HN.out];rfl,bl⟩
 | true=>
 go_enter Tryz.func8,Tryz.ntmps8;go_wp2_with fail;clear g0 TQ g1 TR;refine(C1.out _ bl).mono ?_;rintro e v1 ⟨rfl,hb1⟩;have HW1:ak (af ((w.alloc (.cells (dB x P) 27)).alloc (.cells (dB y Q) 27)).heap.size ((w.alloc (.cells (dB x P) 27)).alloc (.cells (dB y Q) 27)) v1):=U bl;have DX:ak (af w.heap.size w v1):=U bl;clear hb1
 cases b1 with
 | false=>
  have HN:=U (show vJ x y=false by rw[HB.out];simp);go_wp2_with fail;go_ret;exact⟨by rw[HN.out];rfl,DX.out⟩
 | true=>
 have q:=FX.out v1 HW1.out;have g2:=q.1.get (Cg x P);have TS:=q.2.get (Cg y Q);have g3:=q.1.get (Ed x P);have TT:=q.2.get (Ed y Q);clear q;by_cases e2:P.ig=Q.ig;rotate_left 1
 · have z2:b2=false:=by rw[← H2.out];exact r_ (by rw[HL2.out.1,uT.out.1];exact e2)
   have HN:=U (show vJ x y=false by rw[HB.out,z2];simp);have w2:((P.ig:Int) != (Q.ig:Int))=true:=bne_iff_ne.2 (by omega);clear z2 e2;go_wp2_with fail;go_ret;exact⟨by rw[HN.out];rfl,DX.out⟩
 have w2b:((P.ig:Int) != (Q.ig:Int))=false:=by rw[bne,show((P.ig:Int)==(Q.ig:Int))=true from beq_iff_eq.2 (by omega)];rfl
 replace e2:=U e2;by_cases e3:P.lim=Q.lim;rotate_left 1
 · have z3:b3=false:=by rw[← H3.out];exact r_ (by rw[Af.out.1,xM.out.1];exact e3)
   have HN:=U (show vJ x y=false by rw[HB.out,z3];simp);have w2:((P.lim:Int) != (Q.lim:Int))=true:=bne_iff_ne.2 (by omega);clear z3 e3;go_wp2_with fail;go_ret;exact⟨by rw[HN.out];rfl,DX.out⟩
 have w3b:((P.lim:Int) != (Q.lim:Int))=false:=by rw[bne,show((P.lim:Int)==(Q.lim:Int))=true from beq_iff_eq.2 (by omega)];rfl
 replace e3:=U e3;go_wp2_with fail;clear g2 TS w2b g3 TT w3b;have HR:=U (show vJ x y=(b2&&(b3)) by rw[HB.out];simp only[Bool.true_and,Bool.and_true,Bool.and_assoc]);clear HB;go_wp2_with fail;obtain⟨oV,Ew⟩:∃n:Nat,13=n:=⟨_,rfl⟩
 have hsz2:∀w,(sizeOf 53).run ae w=.ok oV w:=fun w=>by rw[Tryz.sizeOf53,Ew]
 have Ae:=U Ew;clear Ew;go_loopw [5] (fun i wr=>∃k:Nat,k<=P.ig/\i=.int .i64 (k:Nat)/\ak (af ((w.alloc (.cells (dB x P) 27)).alloc (.cells (dB y Q) 27)).heap.size ((w.alloc (.cells (dB x P) 27)).alloc (.cells (dB y Q) 27)) wr)/\ak (dC jE (x.si.take k) (y.si.take k)=true)) (fun i _=>P.ig-(intOf i).toNat)
 case atStart=>exact⟨0,Nat.zero_le _,rfl,U (by have h1:=HW1.out;exact bl),U rfl⟩
 case round=>
  obtain⟨k,hk,rfl,HW,HA⟩:=hrel;have k0:(0:Int)<=(k:Int):=by omega
  have k3:(P.ig:Int)<=9223372036854775807:=by have h2:=HL2.out.2;omega
  have hbw:af w.heap.size w wr:=by have h1:=HW.out;exact bl
  have eY:=U hbw;have q:=FX.out wr HW.out;have g1:=q.1.get (Cg x P);have g2:=q.2.get (Cg y Q);clear q;rcases Nat.lt_or_ge k P.ig with h|h
  · have k1:(k:Int)<(P.ig:Int):=by omega
    have k2:(k:Int)<(Q.ig:Int):=by have h2:=e2.out;omega
    have hkl:k<x.si.length:=by rw[HL2.out.1];exact h
    have dM:k<y.si.length:=by rw[uT.out.1];omega
    obtain⟨b,o,hp,gD,hG,hcell⟩:=(HX.out.si.on gH.map hbw).rows (by omega);obtain⟨c,hcs,hat,hR⟩:=hcell.out k hkl;obtain⟨bb,o2,hp2,pV,hG2,hcell2⟩:=(HY.out.si.on gH.map hbw).rows (by omega);obtain⟨d,hcs2,cK,hR2⟩:=hcell2.out k dM;obtain⟨x1,hx1⟩:∃z,x.si[k]=z:=⟨_,rfl⟩
    obtain⟨y1,hy1⟩:∃z,y.si[k]=z:=⟨_,rfl⟩
    have jv:=U (show x.si[k]?=ay x1 by rw[← hx1];exact ag hkl);have kI:=U (show y.si[k]?=ay y1 by rw[← hy1];exact ag dM);rw[hx1] at hR;rw[hy1] at hR2;rw[hp] at g1;rw[hp2] at g2;obtain⟨r,hr⟩:∃r,jE x1 y1=r:=⟨_,rfl⟩
    obtain⟨P1,rfl,hP1⟩:=hR;obtain⟨Q1,rfl,gJ⟩:=hR2;have C:=U (fun W (hW:af wr.heap.size wr W)=>(show Calls ae 20 #[.agg (bX x1 P1),.agg (bX y1 Q1)] W (Gives (.bool r) W) by rw[← hr];exact aqw x1 y1 P1 Q1 W (hP1.on hW) (gJ.on hW)));have FR:ak (∀W,af wr.heap.size wr W->W.cell? ⟨w.heap.size,2,au⟩=ay (.slice (ay ⟨b,o,au⟩) P.ig P.qg)/\W.cell? ⟨w.heap.size+1,2,au⟩=ay (.slice (ay ⟨bb,o2,au⟩) Q.ig Q.qg)/\(loadCellsFrom ⟨b,o+k*oV,au⟩ 0 oV #[]).run ae W=.ok (bX x1 P1) W/\(loadCellsFrom ⟨bb,o2+k*oV,au⟩ 0 oV #[]).run ae W=.ok (bX y1 Q1) W):=U fun W hW=>⟨(hW.cell (p:=⟨w.heap.size,2,au⟩) (block_lt g1)).trans g1,(hW.cell (p:=⟨w.heap.size+1,2,au⟩) (block_lt g2)).trans g2,((hat.on hW hG).at Ae.out).dW (by rw[hcs];exact Ae.out),((cK.on hW hG2).at Ae.out).dW (by rw[hcs2];exact Ae.out)⟩
    clear hp hp2 hx1 hy1 hcell hcs hat hkl hcell2 hcs2 cK dM hbw hP1 gJ gD hG pV hG2;go_wp2_with fail;clear g1 g2;go_region_held3 (fun W=>W.cell? ⟨w.heap.size,2,au⟩=ay (.slice (ay ⟨b,o,au⟩) P.ig P.qg)/\W.cell? ⟨w.heap.size+1,2,au⟩=ay (.slice (ay ⟨bb,o2,au⟩) Q.ig Q.qg)/\(loadCellsFrom ⟨b,o+k*oV,au⟩ 0 oV #[]).run ae W=.ok (bX x1 P1) W/\(loadCellsFrom ⟨bb,o2+k*oV,au⟩ 0 oV #[]).run ae W=.ok (bX y1 Q1) W) (first|(refine FR.out _ ?_;exact bl;done)|(go_keep;done)) (first
     | (go_at_call 20;refine(C.out _ bl).mono ?_;rintro e vc ⟨rfl,hbc⟩))
    all_goals
     have BM:=U hbc;clear hbc;cases r
     · have Hn:=U (show b2=false by rw[← H2.out];exact pU jv.out kI.out hr);have HN:=U (show vJ x y=false by rw[HR.out,Hn.out];try simp);clear hr;go_wp2_with fail;go_ret;exact⟨by rw[HN.out];rfl,by have h1:=eY.out;have h2:=BM.out;exact bl⟩
     · have Hy:=U (vk jv.out kI.out HA.out hr);clear hr;go_wp2_with fail;go_roundw
       case rel=>first|exact⟨k+1,by omega,by go_num,U (by have h1:=HW.out;have h2:=BM.out;exact bl),Hy⟩|((repeat apply Exists.intro);refine ax ?_ rfl;exact⟨k+1,by omega,by go_num,U (by have h1:=HW.out;have h2:=BM.out;exact bl),Hy⟩)
       case measure=>simp[intOf];omega
  · clear k3;obtain rfl:k=P.ig:=by omega
    have hb:b2=true:=by rw[← H2.out];have h1:=HA.out;rwa [ai (by rw[HL2.out.1];exact av _),ai (by rw[uT.out.1];have h2:=e2.out;omega)] at h1
    subst hb;rw[Bool.true_and] at HR;have HG2:=HW;go_wp2_with fail;clear g1 g2 hk k0 h hbw eY HA HW;obtain⟨EF,Ey⟩:∃n:Nat,3=n:=⟨_,rfl⟩
    have am8:∀w,(sizeOf 73).run ae w=.ok EF w:=fun w=>by rw[Tryz.sizeOf73,Ey]
    have qo:=U Ey;clear Ey;go_loopw [6] (fun i wr=>∃k:Nat,k<=P.lim/\i=.int .i64 (k:Nat)/\ak (af ((w.alloc (.cells (dB x P) 27)).alloc (.cells (dB y Q) 27)).heap.size ((w.alloc (.cells (dB x P) 27)).alloc (.cells (dB y Q) 27)) wr)/\ak (dC CL (x.li.take k) (y.li.take k)=true)) (fun i _=>P.lim-(intOf i).toNat)
    case atStart=>exact⟨0,Nat.zero_le _,rfl,U (by have h1:=HG2.out;exact bl),U rfl⟩
    case round=>
     obtain⟨k,hk,rfl,HW,HA⟩:=hrel;have k0:(0:Int)<=(k:Int):=by omega
     have k3:(P.lim:Int)<=9223372036854775807:=by have h2:=Af.out.2;omega
     have hbw:af w.heap.size w wr:=by have h1:=HW.out;exact bl
     have eY:=U hbw;have q:=FX.out wr HW.out;have g1:=q.1.get (Ed x P);have g2:=q.2.get (Ed y Q);clear q;rcases Nat.lt_or_ge k P.lim with h|h
     · have k1:(k:Int)<(P.lim:Int):=by omega
       have k2:(k:Int)<(Q.lim:Int):=by have h2:=e3.out;omega
       have hkl:k<x.li.length:=by rw[Af.out.1];exact h
       have dM:k<y.li.length:=by rw[xM.out.1];omega
       obtain⟨b,o,hp,gD,hG,hcell⟩:=(HX.out.li.on ng.map hbw).rows (by omega);obtain⟨c,hcs,hat,hR⟩:=hcell.out k hkl;obtain⟨bb,o2,hp2,pV,hG2,hcell2⟩:=(HY.out.li.on ng.map hbw).rows (by omega);obtain⟨d,hcs2,cK,hR2⟩:=hcell2.out k dM;obtain⟨x1,hx1⟩:∃z,x.li[k]=z:=⟨_,rfl⟩
       obtain⟨y1,hy1⟩:∃z,y.li[k]=z:=⟨_,rfl⟩
       have jv:=U (show x.li[k]?=ay x1 by rw[← hx1];exact ag hkl);have kI:=U (show y.li[k]?=ay y1 by rw[← hy1];exact ag dM);rw[hx1] at hR;rw[hy1] at hR2;rw[hp] at g1;rw[hp2] at g2;obtain⟨r,hr⟩:∃r,CL x1 y1=r:=⟨_,rfl⟩
       have hcsz:c.size=EF:=by rw[hcs,qo.out]
       have sF:d.size=EF:=by rw[hcs2,qo.out]
       have bt:Big 73 c.size:=by rw[hcs];exact Si
       have eH:Big 73 d.size:=by rw[hcs2];exact Si
       have ld0:=fun n=>At.dW (w:=wr.drewN n) (hat.at qo.out) hcsz;have le0:=fun n=>At.dW (w:=wr.drewN n) (cK.at qo.out) sF;have ld1:=fun n=>At.kg (w:=wr.drewN n) (hat.at qo.out) bt;have le1:=fun n=>At.kg (w:=wr.drewN n) (cK.at qo.out) eH;have lI:=fun n=>At.kN (w:=wr.drewN n) (hat.at qo.out) bt;have le2:=fun n=>At.kN (w:=wr.drewN n) (cK.at qo.out) eH;have heq:∀W,(Op.equalIn 10000 73 (.agg c) (.agg d)).run ae W=.ok r W:=fun W=>by rw[hR,hR2,← hr];exact alX _ _ W
       clear hp hp2 bt eH hx1 hy1 hcell hcs hat hR hkl hcell2 hcs2 cK hR2 dM hbw;cases r
       · have Hn:=U (show b3=false by rw[← H3.out];exact pU jv.out kI.out hr);have HN:=U (show vJ x y=false by rw[HR.out,Hn.out];try simp);clear hr;go_wp2_with fail
         try (go_quiet (fail);go_wp2_with fail)
         go_ret;exact⟨by rw[HN.out];rfl,by have h1:=eY.out;exact bl⟩
       · have Hy:=U (vk jv.out kI.out HA.out hr);clear hr;go_wp2_with fail
         try (go_quiet (fail);go_wp2_with fail)
         go_roundw
         case rel=>first|exact⟨k+1,by omega,by go_num,U (by have h1:=HW.out;exact bl),Hy⟩|((repeat apply Exists.intro);refine ax ?_ rfl;exact⟨k+1,by omega,by go_num,U (by have h1:=HW.out;exact bl),Hy⟩)
         case measure=>simp[intOf];omega
     · clear k3;obtain rfl:k=P.lim:=by omega
       have hb:b3=true:=by rw[← H3.out];have h1:=HA.out;rwa [ai (by rw[Af.out.1];exact av _),ai (by rw[xM.out.1];have h2:=e3.out;omega)] at h1
       subst hb;go_wp2_with fail;go_ret;exact⟨by rw[HR.out];rfl,hbw⟩
end Md
namespace Ps
open Lx (bs eG Sr cz OY CJ OX dz f_)
open Sm (St)
open Md (dx oZ)
abbrev Db:ByteArray:=⟨#[10,32,9,35,32,101,110,100,10]⟩
abbrev Dc:ByteArray:=⟨#[35,32,40,10,10]⟩
theorem anZ (l:List UInt8):cz (10::32::9::35::32::101::110::100::10::l) [] 1=cz l [] 3:=by
 rw[CJ,OX (.inl rfl),OX (.inr rfl),OY,show dz f_ (35::32::101::110::100::10::l)=5 from rfl];exact CJ
theorem an0 (l:List UInt8):cz (35::32::40::10::10::l) [] 1=cz l [] 3:=by
 rw[OY,show dz f_ (35::32::40::10::10::l)=3 from rfl]
 show cz (10::10::l) [] 1=_
 rw[CJ];exact CJ
theorem ala {s:ByteArray} (hs:s.size<=4000) {m:dx} {l e:Int} (h:kY (bs s)=(m,l,e)):kY (bs (Db++s))=(m,Gs l,e):=by
 have hb:bs (Db++s)=10::32::9::35::32::101::110::100::10::bs s:=by rw[Sr];rfl
 have hg:=aeA (z:=nM) (m:=vK) (c:=oZ) (s:=bs s) (s':=bs (Db++s)) (by rw[eG];omega) (by rw[hb];simp only[aj,eG];omega) (by rw[hb];exact anZ _) (fun u h0 hr=>UO (Az h0).1 hr);have e0:jS nM vK oZ (bs s)=(m,l,e):=h;rw[e0] at hg;exact hg
theorem alb {s:ByteArray} (hs:s.size<=4000) {m:List St} {l e:Int} (h:kZ (bs s)=(m,l,e)):kZ (bs (Dc++s))=(m,Gs l,e):=by
 have hb:bs (Dc++s)=35::32::40::10::10::bs s:=by rw[Sr];rfl
 have hg:=aeA (z:=[]) (m:=vM) (c:=Sm.iY) (s:=bs s) (s':=bs (Dc++s)) (by rw[eG];omega) (by rw[hb];simp only[aj,eG];omega) (by rw[hb];exact an0 _) (fun u h0 hr=>U1 (Az h0).1 hr);have e0:jS [] vM Sm.iY (bs s)=(m,l,e):=h;rw[e0] at hg;exact hg
theorem aex (p s:ByteArray):(p++s).size=p.size+s.size:=ByteArray.size_append
end Ps
namespace Ps
open Ps.P (bd)
open Go.RowKit
open Lx (Tk bs eG cz mM pX fK fT mP su dz f_ fI eP mW vV uJ)
open Ex (Gives Lo)
open Sm (St oK VE)
open Md (dx iG kS adX)
set_option maxHeartbeats 4000000
theorem mH {p:Prop} (h:p:=by omega):p:=h
theorem Kj:∀(k:Nat) (l:List UInt8) (a:List Tk) (n:Nat),l.length<=k->(cz l a n).n<=n+l.length
 | 0,l,a,n,h=>by
  have:l=[]:=List.length_eq_zero_iff.1 mH;subst this;rw[mM];exact av _
 | k+1,[],a,n,h=>by rw[mM];exact av _
 | k+1,c::t,a,n,h=>by
  have ht:t.length<=k:=by simpa using h
  rw[pX c t,aj];by_cases g1:c=32∨c=9
  · rw[if_pos g1];have:=Kj k t a n ht;omega
  rw[if_neg g1];by_cases g2:c=35
  · rw[if_pos g2];have hn:=O_ (t:=t) g2;have hd:((c::t).drop (dz f_ (c::t))).length<=t.length:=by rw[List.length_drop,aj];omega
    have:=Kj k ((c::t).drop (dz f_ (c::t))) a n mH;omega
  rw[if_neg g2];by_cases g3:c=10
  · rw[if_pos g3];have:=Kj k t (fK a n) (n+1) ht;omega
  rw[if_neg g3]
  cases g4:fT (c::t) with
  | none=>show n<=_;omega
  | some y=>
   obtain⟨x,m⟩:=y;have:=su g4;have hd:((c::t).drop m).length<=t.length:=by rw[List.length_drop,aj];omega
   have:=Kj k ((c::t).drop m) (a++[mP x n]) n mH
   show(cz ((c::t).drop m) (a++[mP x n]) n).n<=_
   omega
theorem aeB {α:Type} {z:α} {m:P α} {c:α->Int} {s:List UInt8} (hs:s.length<=20000) (hn:∀u,fI s=0->run m (eP s)=.no u->Gd u):(jS z m c s).2.1<=30000:=by
 by_cases h0:fI s=0
 · cases hr:run m (eP s) with
   | ok x u=>
    by_cases hx:c x=0
    · rw[G8 h0 hr hx];show(0:Int)<=30000;decide
    · rw[G6 h0 hr hx];show(0:Int)<=30000;decide
   | no u=>
    rw[Dm h0 hr];exact(hn u h0 hr).wf.2.2.2.2.2
 · rw[G7 h0];have hb:(cz s [] 1).bad=true:=by
    cases e:(cz s [] 1).bad with
    | true=>rfl
    | false=>exact absurd (uJ mH e).2.2 h0
   have h1:=(vV mH hb).2.1;have h2:=Kj s.length s [] 1 (av _)
   show(mW s:Int)<=30000
   omega
theorem an3 {s:ByteArray} (hs:s.size<=4000) {m:dx} {l e:Int} (h:kY (bs s)=(m,l,e)):l<=30000:=by
 have hg:=aeB (z:=nM) (m:=vK) (c:=Md.oZ) (s:=bs s) (by rw[eG];omega) (fun u h0 hr=>UO (Az h0).1 hr);have e0:jS nM vK Md.oZ (bs s)=(m,l,e):=h;rw[e0] at hg;exact hg
theorem an4 {s:ByteArray} (hs:s.size<=4000) {m:List St} {l e:Int} (h:kZ (bs s)=(m,l,e)):l<=30000:=by
 have hg:=aeB (z:=[]) (m:=vM) (c:=Sm.iY) (s:=bs s) (by rw[eG];omega) (fun u h0 hr=>U1 (Az h0).1 hr);have e0:jS [] vM Sm.iY (bs s)=(m,l,e):=h;rw[e0] at hg;exact hg
theorem aol {x:dx} {P Q:kS} {w:World} (hx:iG (Lo w.heap.size) w x P) (hy:iG (Lo w.heap.size) w x Q):Calls ae 8 #[.agg #[.string x.nm,.slice P.pap P.sO P.sN,.slice P.rH P.ig P.qg,.slice P.xm P.lim P.yx],.agg #[.string x.nm,.slice Q.pap Q.sO Q.sN,.slice Q.rH Q.ig Q.qg,.slice Q.xm Q.lim Q.yx]] w (Gives (.bool true) w):=by
 have h:=Md.aqr x x P Q w hx hy;rw[adX] at h;exact h
theorem Ab {p:Prop} (h:p:=by have q1:=HB.out;exact bl):p:=h
theorem agX {p:Prop} (h:p:=by
 go_wp2_with fail;refine(Zg _ (HE.out.below Ab)).mono ?_;rintro e' wz ⟨rfl,hbz⟩;have Rk:ak (af w.heap.size w wz):=U Ab;clear hbz;go_wp2_with fail;go_ret;exact⟨rfl,Rk.out⟩
 ):p:=h
set_option maxRecDepth 100000 in
theorem ai5 (s:ByteArray) (w:World) (hs:4000<s.size) (hs':(s.size:Int)<=9223372036854775807) (hE:Nu.Env w):Calls ae 3 #[.string s] w (Gives (.bool true) w):=by
 have HE:=U hE;have HB:ak (af w.heap.size w w):=U (Below.refl _ _);clear hE;have q:decide ((4000:Int)<(s.size:Int))=true:=decide_eq_true mH;clear hs;go_enter Tryz.func3,Tryz.ntmps3;exact agX
theorem Q8 {p:Prop} (h:p:=by
 have HB:ak (af w.heap.size w w):=U (Below.refl _ _);go_enter Tryz.func3,Tryz.ntmps3;go_wp2_with fail;refine(zy HQ.out _ HE.out (by have:=HZ.out;omega)).mono ?_;rintro e' w1 ⟨b1,P1,rfl,k1⟩;have K1:ak (∀W,af w1.heap.size w1 W->iG (Lo W.heap.size) W m P1):=U fun W hW=>(k1.all).on hW;have A1:=Md.far (w:=w1) 27 (Md.dB m P1);replace HB:ak (af w.heap.size w w1):=U bl;dsimp only [Md.dB] at A1 ⊢;clear k1;go_wp2_with fail;refine(zy ME.out _ (HE.out.below Ab) (by have:=HZ.out;rw[aex];have:Db.size=9:=rfl;omega)).mono ?_;rintro e' w2 ⟨b2,P2,rfl,k2⟩;have K2:ak (∀W,af w2.heap.size w2 W->iG (Lo W.heap.size) W m P2):=U fun W hW=>(k2.all).on hW;have A2:=Md.far (w:=w2) 27 (Md.dB m P2);replace HB:ak (af w.heap.size w w2):=U Ab;have J1:=U (fun W (hb:af w2.heap.size w2 W)=>A1.out W bl);have J2:=U (fun W (hb:af w2.heap.size w2 W)=>K1.out W bl);dsimp only [Md.dB] at A2 ⊢;clear k2 A1 K1 b1 b2;go_wp2_with fail;refine(Fs HX.out _ (HE.out.below Ab) (by have:=HZ.out;omega)).mono ?_;rintro e' w3 ⟨b3,p3,m3,c3,rfl,k3⟩;have K3:ak (∀W,af w3.heap.size w3 W->oK W x p3 m3):=U fun W hW=>(k3.all).on hW;replace HB:ak (af w.heap.size w w3):=U Ab;have A3:=U (fun W (hb:af w3.heap.size w3 W)=>A2.out W bl);have J3:=U (fun W (hb:af w3.heap.size w3 W)=>J1.out W bl);have J4:=U (fun W (hb:af w3.heap.size w3 W)=>J2.out W bl);have J5:=U (fun W (hb:af w3.heap.size w3 W)=>K2.out W bl);clear k3 A2 J1 J2 K2 b3;go_wp2_with fail;refine(Fs dV.out _ (HE.out.below Ab) (by have:=HZ.out;rw[aex];have:Dc.size=5:=rfl;omega)).mono ?_;rintro e' w4 ⟨b4,p4,m4,c4,rfl,k4⟩;have K4:ak (∀W,af w4.heap.size w4 W->oK W x p4 m4):=U fun W hW=>(k4.all).on hW;have J6:=U (fun W (hb:af w4.heap.size w4 W)=>K3.out W bl);replace HB:ak (af w.heap.size w w4):=U Ab;have d1:=J3.out w4 b4;have d2:=A3.out w4 b4;have o1:=U (J4.out w4 b4);have o2:=U (J5.out w4 b4);have y0:ah w4 ⟨w1.heap.size,0,au⟩=ay (.string m.nm):=d1.get rfl;have y1:ah w4 ⟨w1.heap.size,1,au⟩=ay (.slice P1.pap P1.sO P1.sN):=d1.get rfl;have y2:ah w4 ⟨w1.heap.size,2,au⟩=ay (.slice P1.rH P1.ig P1.qg):=d1.get rfl;have y3:ah w4 ⟨w1.heap.size,3,au⟩=ay (.slice P1.xm P1.lim P1.yx):=d1.get rfl;have z0:ah w4 ⟨w2.heap.size,0,au⟩=ay (.string m.nm):=d2.get rfl;have z1:ah w4 ⟨w2.heap.size,1,au⟩=ay (.slice P2.pap P2.sO P2.sN):=d2.get rfl;have z2:ah w4 ⟨w2.heap.size,2,au⟩=ay (.slice P2.rH P2.ig P2.qg):=d2.get rfl;have z3:ah w4 ⟨w2.heap.size,3,au⟩=ay (.slice P2.xm P2.lim P2.yx):=d2.get rfl;clear k4 K3 J3 J4 J5 A3 b4 d1 d2;go_wp2_with fail;clear y0 y1 y2 y3 z0 z1 z2 z3;refine(aol o1.out o2.out).mono ?_;rintro e' w5 ⟨rfl,b5⟩;replace HB:ak (af w.heap.size w w5):=U Ab;have o3:=U (J6.out w5 b5);have o4:=U (K4.out w5 b5);clear b5 o1 o2 J6 K4;go_wp2_with fail;refine(aeG (VE x) o3.out o4.out).mono ?_;rintro e' w6 ⟨rfl,b6⟩;replace HB:ak (af w.heap.size w w6):=U Ab;clear b6 o3 o4;exact agX
 ):p:=h
set_option maxRecDepth 100000 in
theorem ai7 (s:ByteArray) (w:World) (m:dx) (l e:Int) (x:List St) (k d:Int) (HZ:ak (s.size<=4000)) (HE:ak (Nu.Env w)) (HQ:ak (kY (bs s)=(m,l,e))) (HX:ak (kZ (bs s)=(x,k,d))) (ME:ak (kY (bs (Db++s))=(m,l+2,e))) (dV:ak (kZ (bs (Dc++s))=(x,k+2,d)))
 (q:decide ((4000:Int)<(s.size:Int))=false) (q1:(9:Int)+(s.size:Int)<=9223372036854775807) (q2:(5:Int)+(s.size:Int)<=9223372036854775807) (hs':(s.size:Int)<=9223372036854775807) (be:(e==e)=true) (bd:(d==d)=true) (f1:decide (0<l)=true) (f2:IntKind.i64.wrap (l+2)=l+2) (f3:(l+2==l+2)=true) (g1:decide (0<k)=true) (g2:IntKind.i64.wrap (k+2)=k+2) (g3:(k+2==k+2)=true):Calls ae 3 #[.string s] w (Gives (.bool true) w):=by
 exact Q8
set_option maxRecDepth 100000 in
theorem ai6 (s:ByteArray) (w:World) (m:dx) (l e:Int) (x:List St) (k d:Int) (HZ:ak (s.size<=4000)) (HE:ak (Nu.Env w)) (HQ:ak (kY (bs s)=(m,l,e))) (HX:ak (kZ (bs s)=(x,k,d))) (ME:ak (kY (bs (Db++s))=(m,l+2,e))) (dV:ak (kZ (bs (Dc++s))=(x,k,d)))
 (q:decide ((4000:Int)<(s.size:Int))=false) (q1:(9:Int)+(s.size:Int)<=9223372036854775807) (q2:(5:Int)+(s.size:Int)<=9223372036854775807) (hs':(s.size:Int)<=9223372036854775807) (be:(e==e)=true) (bd:(d==d)=true) (f1:decide (0<l)=true) (f2:IntKind.i64.wrap (l+2)=l+2) (f3:(l+2==l+2)=true) (g1:decide (0<k)=false) (g3:(k==k)=true):Calls ae 3 #[.string s] w (Gives (.bool true) w):=by
 exact Q8
set_option maxRecDepth 100000 in
theorem ai4 (s:ByteArray) (w:World) (m:dx) (l e:Int) (x:List St) (k d:Int) (HZ:ak (s.size<=4000)) (HE:ak (Nu.Env w)) (HQ:ak (kY (bs s)=(m,l,e))) (HX:ak (kZ (bs s)=(x,k,d))) (ME:ak (kY (bs (Db++s))=(m,l,e))) (dV:ak (kZ (bs (Dc++s))=(x,k+2,d)))
 (q:decide ((4000:Int)<(s.size:Int))=false) (q1:(9:Int)+(s.size:Int)<=9223372036854775807) (q2:(5:Int)+(s.size:Int)<=9223372036854775807) (hs':(s.size:Int)<=9223372036854775807) (be:(e==e)=true) (bd:(d==d)=true) (f1:decide (0<l)=false) (f3:(l==l)=true) (g1:decide (0<k)=true) (g2:IntKind.i64.wrap (k+2)=k+2) (g3:(k+2==k+2)=true):Calls ae 3 #[.string s] w (Gives (.bool true) w):=by
 exact Q8
set_option maxRecDepth 100000 in
theorem ai3 (s:ByteArray) (w:World) (m:dx) (l e:Int) (x:List St) (k d:Int) (HZ:ak (s.size<=4000)) (HE:ak (Nu.Env w)) (HQ:ak (kY (bs s)=(m,l,e))) (HX:ak (kZ (bs s)=(x,k,d))) (ME:ak (kY (bs (Db++s))=(m,l,e))) (dV:ak (kZ (bs (Dc++s))=(x,k,d)))
 (q:decide ((4000:Int)<(s.size:Int))=false) (q1:(9:Int)+(s.size:Int)<=9223372036854775807) (q2:(5:Int)+(s.size:Int)<=9223372036854775807) (hs':(s.size:Int)<=9223372036854775807) (be:(e==e)=true) (bd:(d==d)=true) (f1:decide (0<l)=false) (f3:(l==l)=true) (g1:decide (0<k)=false) (g3:(k==k)=true):Calls ae 3 #[.string s] w (Gives (.bool true) w):=by
 exact Q8
theorem apr (s:ByteArray) (w:World) (hs:s.size<=140737488355328) (hE:Nu.Env w):Calls ae 3 #[.string s] w (Gives (.bool true) w):=by
 by_cases h1:4000<s.size
 · exact ai5 s w h1 mH hE
 have hz:s.size<=4000:=by omega
 obtain⟨⟨m,l,e⟩,hq⟩:∃q,kY (bs s)=q:=⟨_,rfl⟩
 obtain⟨⟨x,k,d⟩,hx⟩:∃q,kZ (bs s)=q:=⟨_,rfl⟩
 have hq2:=ala hz hq;have hx2:=alb hz hx;have l1:=an3 hz hq;have l2:=an4 hz hx;unfold Gs at hq2 hx2;by_cases g1:0<l
 · rw[if_pos g1] at hq2;have w1:IntKind.i64.wrap (l+2)=l+2:=by rw[IntKind.wrap_i64];omega
   by_cases g2:0<k
   · rw[if_pos g2] at hx2;have w2:IntKind.i64.wrap (k+2)=k+2:=by rw[IntKind.wrap_i64];omega
     exact ai7 s w m l e x k d (U hz) (U hE) (U hq) (U hx) (U hq2) (U hx2) (decide_eq_false mH) mH mH mH (by simp) (by simp) (decide_eq_true g1) w1 (by simp) (decide_eq_true g2) w2 (by simp)
   · rw[if_neg g2] at hx2;exact ai6 s w m l e x k d (U hz) (U hE) (U hq) (U hx) (U hq2) (U hx2) (decide_eq_false mH) mH mH mH (by simp) (by simp) (decide_eq_true g1) w1 (by simp) (decide_eq_false g2) (by simp)
 · rw[if_neg g1] at hq2;by_cases g2:0<k
   · rw[if_pos g2] at hx2;have w2:IntKind.i64.wrap (k+2)=k+2:=by rw[IntKind.wrap_i64];omega
     exact ai4 s w m l e x k d (U hz) (U hE) (U hq) (U hx) (U hq2) (U hx2) (decide_eq_false mH) mH mH mH (by simp) (by simp) (decide_eq_false g1) (by simp) (decide_eq_true g2) w2 (by simp)
   · rw[if_neg g2] at hx2;exact ai3 s w m l e x k d (U hz) (U hE) (U hq) (U hx) (U hq2) (U hx2) (decide_eq_false mH) mH mH mH (by simp) (by simp) (decide_eq_false g1) (by simp) (decide_eq_false g2) (by simp)
end Ps
end Go.Proofs.YtbgodajefaahdaaGreatDoor
