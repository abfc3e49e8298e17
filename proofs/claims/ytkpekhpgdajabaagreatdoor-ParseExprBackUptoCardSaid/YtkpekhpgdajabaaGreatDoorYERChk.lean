/-
  Parts of this proof: The contracts of the reference's check of nodes,. The contract of checkStart and of the closure th. The map of the links that were met. The contract of the closure of checkLinks. The contracts of checkLaw, checkLaws, checkLinks.
-/
import Derived.Test.YtkpekhpgdajabaaGreatDoorYERNo3
import Derived.Test.YtkpekhpgdajabaaGreatDoorYERNo4
import Derived.Test.YtkpekhpgdajabaaGreatDoorYERNo5
import Derived.Test.YtkpekhpgdajabaaGreatDoorYERNo7
open Go.Proofs.Tryz
open Go.Proofs.Tryz renaming prog->ae
open Option renaming some->af,none->aj
open Go renaming World->ag,Calls->au
open Go.RowKit renaming Below->ah
open Nat renaming lt_of_lt_of_le->ai,le_refl->av
open Go.Lib renaming hid->U
open List renaming getElem?_eq_getElem->ak
set_option linter.unusedVariables false
set_option maxRecDepth 100000
set_option maxHeartbeats 4000000
open Go.Lib (hid)
namespace Go.Proofs.YtkpekhpgdajabaaGreatDoor
namespace Ex
open Go.RowKit
theorem amq (cc:Bool) (e:Ex):∀(p:Option Addr) (m c:Nat) (w:ag),In w e p m->Sz e->au ae 22 #[.agg #[.int .i64 e.o,.string e.s,.int .i64 e.n,.slice p m c],.bool cc] w (Gives (.int .i64 (bad cc (pre e))) w):=by
 induction e using Ex.ind with
 | h o s n l ih=>
  intro p m c w h hs;have ih:nu cc l:=ih;simp only[Ex.o,Ex.s,Ex.n];by_cases h1:o<1
  · cases cc
    · exact al4 l ih o h1 s n p m c w h hs
    · exact al5 l ih o h1 s n p m c w h hs
  by_cases Lg:26<o
  · cases cc
    · exact al2 l ih o Lg s n p m c w h hs
    · exact al3 l ih o Lg s n p m c w h hs
  by_cases e1:o=1
  · subst e1;cases cc
    · exact al_ l ih s n p m c w h hs
    · exact ama l ih s n p m c w h hs
  by_cases e2:o=2
  · cases cc
    · exact amf l ih o e2 s n p m c w h hs
    · exact amg l ih o e2 s n p m c w h hs
  by_cases e3:o=3
  · subst e3;cases cc
    · exact amd l ih s n p m c w h hs
    · exact ame l ih s n p m c w h hs
  by_cases e21:o<=21
  · cases cc
    · exact al6 l ih o bT e21 s n p m c w h hs
    · exact al7 l ih o bT e21 s n p m c w h hs
  by_cases e24:o<=24
  · cases cc
    · exact al8 l ih o bT e24 s n p m c w h hs
    · exact al9 l ih o bT e24 s n p m c w h hs
  by_cases e25:o=25
  · subst e25;cases cc
    · exact amb l ih s n p m c w h hs
    · exact amc l ih s n p m c w h hs
  · obtain rfl:o=26:=by omega
    cases cc
    · exact amh l ih s n p m c w h hs
    · exact ami l ih s n p m c w h hs
theorem alB (cc:Bool) (e:Ex) (p:Option Addr) (m c:Nat) (w:ag) (h:In w e p m) (hs:Sz e) (hc:cnt e<=1000000):au ae 10 #[.agg #[.int .i64 e.o,.string e.s,.int .i64 e.n,.slice p m c],.bool cc] w (Gives (.int .i64 (fI cc e)) w):=by
 have HN:=U (fun W hi=>amr e p m c W hi hc);have HD:=U (fun W hi=>alM e p m c W hi hc);have HE:=U (fun W hi=>amq cc e p m c W hi hs);have HH:=U h;have Hm:=PX e;obtain⟨N,hN⟩:∃N,cnt e=N:=⟨_,rfl⟩
 obtain⟨D,hD⟩:∃D,dep e=D:=⟨_,rfl⟩
 obtain⟨V,hV⟩:∃V,bad cc (pre e)=V:=⟨_,rfl⟩
 have HV:=U (show fI cc e=if 60<N then 6 else if 12<D then 11 else V by unfold fI;rw[hN,hD,hV]);rw[HV.out];rw[hN] at HN hc Hm;rw[hD] at HD Hm;rw[hV] at HE;obtain⟨o,s,nn,kl⟩:=e;simp only[Ex.o,Ex.s,Ex.n] at HN HD HE ⊢;clear h hs hN hD hV;by_cases h6:60<N
 · rw[if_pos h6];have t1:decide ((60:Int)<(N:Int))=true:=decide_eq_true bT;have t2:(60:Int)<(N:Int):=by omega
   clear h6 hc Hm;go_enter func10,ntmps10;go_wp2_with fail;refine(HN.out _ (HH.out.on bl)).mono ?_;exact F9
 rw[if_neg h6];have t1:decide ((60:Int)<(N:Int))=false:=decide_eq_false bT;have t2:(N:Int)<=60:=by omega
 by_cases h12:12<D
 · rw[if_pos h12];have t3:decide ((12:Int)<(D:Int))=true:=decide_eq_true bT;have t4:(12:Int)<(D:Int):=by omega
   clear h6 h12 hc Hm;go_enter func10,ntmps10;go_wp2_with fail;refine(HN.out _ (HH.out.on bl)).mono ?_;rintro e w1 ⟨rfl,hb1⟩;obtain⟨x0,x1,x2,x3⟩:dR w1 w.heap.size o s nn p m c:=f_.on hb1;have HW1:Hid (ah w.heap.size w w1):=U bl;clear hb1;go_wp2_with fail;refine(HD.out _ (HH.out.on HW1.out)).mono ?_;rintro e w2 ⟨rfl,hb2⟩;go_wp2_with fail;go_ret;exact⟨rfl,by have bY:=HW1.out;exact bl⟩
 rw[if_neg h12];have t3:decide ((12:Int)<(D:Int))=false:=decide_eq_false bT;have t4:(D:Int)<=12:=by omega
 clear h6 h12 hc Hm;go_enter func10,ntmps10;go_wp2_with fail;refine(HN.out _ (HH.out.on bl)).mono ?_;rintro e w1 ⟨rfl,hb1⟩;have hx1:dR w1 w.heap.size o s nn p m c:=f_.on hb1;have Gq:=U hx1;obtain⟨x0,x1,x2,x3⟩:=hx1;have HW1:Hid (ah w.heap.size w w1):=U bl;clear hb1;go_wp2_with fail;refine(HD.out _ (HH.out.on HW1.out)).mono ?_;rintro e w2 ⟨rfl,hb2⟩;obtain⟨y0,y1,y2,y3⟩:=Gq.out.on hb2;have HW2:Hid (ah w.heap.size w w2):=U (by have bY:=HW1.out;exact bl);clear hb2 x0 x1 x2 x3;go_wp2_with fail;refine(HE.out _ (HH.out.on HW2.out)).mono ?_;rintro e w3 ⟨rfl,hb3⟩;go_wp2_with fail;go_ret;exact⟨rfl,by have bY:=HW2.out;exact bl⟩
theorem Sg (e:Ex) (p:Option Addr) (m c:Nat) (w:ag) (h:In w e p m) (hs:Sz e) (hc:cnt e<=1000000):au ae 4 #[.agg #[.int .i64 e.o,.string e.s,.int .i64 e.n,.slice p m c]] w (Gives (.int .i64 (fI false e)) w):=by
 have H:=U (fun W hi=>alB false e p m c W hi hs hc);have HH:=U h;obtain⟨v,hv⟩:∃v,fI false e=v:=⟨_,rfl⟩
 rw[hv] at H ⊢;obtain⟨o,s,nn,kl⟩:=e;simp only[Ex.o,Ex.s,Ex.n] at H ⊢;clear h hs hc hv;go_enter func4,ntmps4;go_wp2_with fail;refine(H.out _ (HH.out.on bl)).mono ?_;exact F9
end Ex
namespace Md
open Go.RowKit
open Na (fst QC)
open Sm (Ints)
open Ex (Lo Gives take_one)
attribute [local go_sem] afB VS VV VW VY Kg
theorem Qt:∀{a c:List eO} {b d:List Int},a.length=b.length->oP (a++c) (b++d)=(oP a b&&oP c d)
 | [],c,[],d,_=>by simp[oP]
 | x::t,c,y::u,d,h=>by rw[List.cons_append,List.cons_append,oP,oP,Qt (by simpa using h),Bool.and_assoc]
 | [],_,_::_,_,h=>by simp at h
 | _::_,_,[],_,h=>by simp at h
theorem aie {l:List eO} {m:List Int} {k:Nat} {x:eO} {y:Int} (hx:l[k]?=af x) (hy:m[k]?=af y) (h:oP (l.take k) (m.take k)=true) (g:fits x.ty y=true):oP (l.take (k+1)) (m.take (k+1))=true:=by
 obtain⟨hk,-⟩:=List.getElem?_eq_some_iff.1 hx;obtain⟨hj,-⟩:=List.getElem?_eq_some_iff.1 hy;rw[take_one hx,take_one hy,Qt (by rw[List.length_take,List.length_take];omega),h,oP,g];rfl
theorem aid {l:List eO} {m:List Int} {k:Nat} {x:eO} {y:Int} (hx:l[k]?=af x) (hy:m[k]?=af y) (g:fits x.ty y=false):oP l m=false:=by
 obtain⟨hk,e1⟩:=List.getElem?_eq_some_iff.1 hx;obtain⟨hj,e2⟩:=List.getElem?_eq_some_iff.1 hy;have a:=List.take_append_drop k l;have b:=List.take_append_drop k m;rw[List.drop_eq_getElem_cons hk,e1] at a;rw[List.drop_eq_getElem_cons hj,e2] at b;rw[← a,← b,Qt (by rw[List.length_take,List.length_take];omega),oP,g];simp
theorem amv {ro:List fo} {s:ByteArray} (h:0<=vH ro s):∃(j:Nat) (r:fo),vH ro s=(j:Int)/\ro[j]?=af r:=by
 have h1:=QC s (ro.map (·.nm));rw[List.length_map] at h1;have h2:vH ro s=fst (ro.map (·.nm)) s:=rfl;have h3:(vH ro s).toNat<ro.length:=by omega
 exact⟨(vH ro s).toNat,ro[(vH ro s).toNat],by omega,ak h3⟩
theorem anH {ro:List fo} {d:iP} (h:vH ro d.ro<0):xI ro d=5:=by unfold xI;rw[if_pos h]
theorem anI {ro:List fo} {d:iP} {j:Nat} {r:fo} (h:vH ro d.ro=(j:Int)) (hr:ro[j]?=af r):xI ro d=if d.ar.length=r.ps.length then (if oP r.ps d.ar then (if rO d.a&&rO d.e&&rO d.u && !(decide (d.e=0) && !decide (d.u=0)) then 0 else 2) else 2) else 8:=by
 unfold xI;rw[if_neg bT,h,Int.toNat_natCast,hr]
theorem Tw {n:Int} {b:Bool} (h:rO n=b) (w:ag):au ae 130 #[.int .i64 n] w (oI (.bool b) w):=by rw[← h];exact ZB n w
theorem Us {p:Prop} (h:p:=by
 rintro e v2 ⟨rfl,rfl⟩;go_wp2_with fail;go_ret;exact⟨by rw[← Aq.out];rfl,by have bY:=lL.out;exact bl⟩
 ):p:=h
theorem NM {p:Prop} (h:p:=by
 go_wp2_with fail;refine(T1.out _).mono ?_;rintro e v2 ⟨rfl,rfl⟩;go_wp2_with fail;refine(T2.out _).mono ?_;rintro e v2 ⟨rfl,rfl⟩;go_wp2_with fail;refine(T3.out _).mono ?_;exact Us
 ):p:=h
theorem agc (x:cz) (P:eP) (d:iP) (Q:qf) (w:ag) (hx:Rw 4 gU (Lo w.heap.size) w x.ro P.xB P.rV) (hd:nV (Lo w.heap.size) w d Q):au ae 146 #[.agg (b_ x P),.agg (iZ d Q)] w (Gives (.int .i64 (xI x.ro d)) w):=by
 have HX:=U hx;have HD:=U hd;have FX:=wJ (w:=w) 54 219 (b_ x P) (iZ d Q);obtain⟨n13,ji⟩:∃n:Nat,13=n:=⟨_,rfl⟩
 have AR:∀w,(sizeOf 54).run ae w=.ok n13 w:=fun w=>by rw[sizeOf54,ji]
 have BN:=U ji;have ld:=fun W=>((wJ (w:=W) 54 219 (b_ x P) (iZ d Q)).out _ (Below.refl _ _)).1.cell.fZ BN.out;obtain⟨v,hv⟩:∃v,vH x.ro d.ro=v:=⟨_,rfl⟩
 have CR:=U (fun W (hW:ah w.heap.size w W)=>(show au ae 180 #[.agg (b_ x P),.string d.ro] W (Gives (.int .i64 v) W) by rw[← hv];exact Mx x P d.ro W (HX.out.on gU.map hW)));by_cases hv0:v<0
 · rw[anH (by rw[hv];exact hv0)];have t0:=decide_eq_true hv0;clear hx hd ji hv;go_enter func146,ntmps146;go_wp2_with fail;refine(CR.out _ bl).mono ?_;exact Jt
 obtain⟨j,r,hj,hr⟩:=amv (ro:=x.ro) (s:=d.ro) (by rw[hv];omega);rw[hv] at hj;subst hj;rw[anI hv hr];obtain⟨hrl,hrm⟩:=hx.len;obtain⟨hal,Zb⟩:d.ar.length=Q.arm/\Q.arm<=9223372036854775807:=⟨hd.ar.1,hd.ar.2.1⟩
 have hjl:j<x.ro.length:=(List.getElem?_eq_some_iff.1 hr).1;have j0:(0:Int)<=(j:Int):=by omega
 have j1:(j:Int)<(P.rV:Int):=by omega
 have j2:¬(j:Int)<0:=by omega
 obtain⟨b,o,hp,lT,hG,hcell⟩:=HX.out.rows bT;obtain⟨c,hcs,hat,hR⟩:=hcell.out j hjl;have Zn:x.ro[j]=r:=by rw[ak hjl] at hr;exact Option.some.inj hr
 rw[Zn] at hR;obtain⟨PR,rfl,Lj⟩:=hR;have HRO:=U Lj;have FP:Hid (∀W,ah w.heap.size w W->W.cell? ⟨b,o+j*4+1,aj⟩=af (.slice PR.Fj PR.nL PR.Mo)):=U fun W hW=>(hat.on hW hG).get (VP r PR);have Ze:(b_ x P)[10]?=af (.slice (af ⟨b,o,aj⟩) P.rV P.zV):=by rw[Kg,hp]
 have FY:Hid (∀W,ah ((w.alloc (.cells (b_ x P) 54)).alloc (.cells (iZ d Q) 219)).heap.size ((w.alloc (.cells (b_ x P) 54)).alloc (.cells (iZ d Q) 219)) W->W.cell? ⟨w.heap.size,10,aj⟩=af (.slice (af ⟨b,o,aj⟩) P.rV P.zV)/\W.cell? ⟨w.heap.size+1,1,aj⟩=af (.slice Q.El Q.arm Q.OL)/\W.cell? ⟨w.heap.size+1,2,aj⟩=af (.int .i64 d.a)/\W.cell? ⟨w.heap.size+1,3,aj⟩=af (.int .i64 d.e)/\W.cell? ⟨w.heap.size+1,4,aj⟩=af (.int .i64 d.u)):=U fun W hb=>by
  have q:=FX.out W hb;exact⟨q.1.get Ze,q.2.get (VS d Q),q.2.get (VV d Q),q.2.get (VW d Q),q.2.get (VY d Q)⟩
 have hpl:r.ps.length=PR.nL:=Lj.ps.1;have hpm:PR.nL<=9223372036854775807:=Lj.ps.2.1;clear hx hd ji hcell hcs hat Lj hp Zn Ze;by_cases hlen:Q.arm=PR.nL;rotate_left 1
 · rw[if_neg bT];have u1:((Q.arm:Int)==(PR.nL:Int))=false:=beq_eq_false_iff_ne.2 bT;have u2:((Q.arm:Int) != (PR.nL:Int))=true:=bne_iff_ne.2 bT;have u3:(Q.arm==PR.nL)=false:=beq_eq_false_iff_ne.2 hlen;have u4:(Q.arm != PR.nL)=true:=bne_iff_ne.2 hlen;clear hrl hrm hal Zb hjl hpl hpm hr hv lT;go_enter func146,ntmps146;go_wp2_with fail;refine(CR.out _ bl).mono ?_;rintro e v1 ⟨rfl,hb1⟩;obtain⟨q1,q2,q3,q4,q5⟩:=FY.out v1 bl;have q6:=FP.out v1 bl;exact dX
 rw[if_pos bT];obtain⟨V,hV⟩:∃V:Int,(if oP r.ps d.ar then (if rO d.a&&rO d.e&&rO d.u && !(decide (d.e=0) && !decide (d.u=0)) then 0 else 2) else 2)=V:=⟨_,rfl⟩
 rw[hV];have HV:=U hV;clear hV;obtain⟨m,hm⟩:∃m,Q.arm=m:=⟨_,rfl⟩
 have hm2:PR.nL=m:=by omega
 have HAR:Hid (Ints (Lo w.heap.size) w d.ar Q.El m):=U (by rw[← hm];exact HD.out.ar);have HPS:Hid (Rw 2 dE (Lo w.heap.size) w r.ps PR.Fj m):=U (by rw[← hm2];exact HRO.out.ps);have UZ:=U (show d.ar.length=m by omega);have U7:=U (show r.ps.length=m by omega);rw[hm2] at FP;rw[hm] at FY;have m1:(m:Int)<=9223372036854775807:=by omega
 clear hrl hrm hal Zb hjl hpl hpm hr hv lT hlen hm hm2;go_enter func146,ntmps146;go_wp2_with fail;refine(CR.out _ bl).mono ?_;rintro e v1 ⟨rfl,hb1⟩;obtain⟨q1,q2,q3,q4,q5⟩:=FY.out v1 bl;have q6:=FP.out v1 bl;have HB1:=U hb1;go_wp2_with fail;go_loopw [30] (fun i wr=>∃k:Nat,k<=m/\i=.int .i64 (k:Nat)/\Hid (ah v1.heap.size v1 wr)/\Hid (oP (r.ps.take k) (d.ar.take k)=true)) (fun i _=>m-(intOf i).toNat)
 case atStart=>exact⟨0,Nat.zero_le _,rfl,U (Below.refl _ _),U rfl⟩
 case round=>
  obtain⟨k,hk,rfl,HW,HA⟩:=hrel;have lL:Hid (ah w.heap.size w wr):=U qG;have k0:(0:Int)<=(k:Int):=by omega
  clear q1 q2 q3 q4 q5 q6;rcases Nat.lt_or_ge k m with h|h
  · have k1:(k:Int)<(m:Int):=by omega
    have hkl:k<d.ar.length:=by rw[UZ.out];exact h
    have hkp:k<r.ps.length:=by rw[U7.out];exact h
    have Gq:=U (ak hkl);have iG:=U (ak hkp);obtain⟨h1,h2,h3|⟨b1,o1,hp1,g1,l1,c1⟩⟩:=(HAR.out.map lL.out.size fun b g _=>⟨ai g lL.out.size,lL.out.block b g⟩:Ints (Lo wr.heap.size) wr d.ar Q.El m)
    · omega
    obtain⟨b2,o2,hp2,g2,l2,c2⟩:=(HPS.out.below dE.map lL.out).rows bT;obtain⟨f,hfs,hat,hR⟩:=c2.out k hkp;have a0:=c1.out k hkl;obtain⟨n,hn⟩:∃n,d.ar[k]=n:=⟨_,rfl⟩
    obtain⟨y,hy⟩:∃y,r.ps[k]=y:=⟨_,rfl⟩
    rw[hn] at a0 Gq;rw[hy] at hR iG;have a1:=hat.get (r:=1) (v:=.int .i64 y.ty) (by rw[hR];rfl);obtain⟨q,hq⟩:∃q,fits y.ty n=q:=⟨_,rfl⟩
    have CF:=U (fun W=>(show au ae 91 #[.int .i64 y.ty,.int .i64 n] W (oI (.bool q) W) by rw[← hq];exact Yd _ _ W));rw[hp1,hp2]
    cases q with
    | false=>
     have HN:=U (aid iG.out Gq.out hq);clear h1 h2 c1 c2 hfs hat hR hkl hkp hn hy hq g1 g2 hp1 hp2;go_wp2_with fail;refine(CF.out _).mono ?_;rintro e v2 ⟨rfl,rfl⟩;go_wp2_with fail;go_ret;exact⟨by rw[← HV.out,HN.out];rfl,by have bY:=lL.out;exact bl⟩
    | true=>
     have HN:=U (aie iG.out Gq.out HA.out hq);clear h1 h2 c1 c2 hfs hat hR hkl hkp hn hy hq g1 g2;go_wp2_with fail;refine(CF.out _).mono ?_;rintro e v2 ⟨rfl,rfl⟩;exact zzt
  · obtain rfl:m=k:=by omega
    have HT:=U (show oP r.ps d.ar=true by have h1:=HA.out;rwa [List.take_of_length_le (by rw[U7.out];exact av _),List.take_of_length_le (by rw[UZ.out];exact av _)] at h1);obtain⟨t1,h1⟩:∃t,rO d.a=t:=⟨_,rfl⟩
    obtain⟨t2,h2⟩:∃t,rO d.e=t:=⟨_,rfl⟩
    obtain⟨t3,h3⟩:∃t,rO d.u=t:=⟨_,rfl⟩
    have HE:=HV.out;rw[HT.out,h1,h2,h3] at HE;have Aq:=U HE;have T1:=U (fun W=>Tw h1 W);have T2:=U (fun W=>Tw h2 W);have T3:=U (fun W=>Tw h3 W);clear h1 h2 h3 HT HE HV;obtain⟨q1,q2,q3,q4,q5⟩:=FY.out wr qG
    cases t1 with
    | false=>
     go_wp2_with fail;refine(T1.out _).mono ?_;exact Us
    | true=>
     cases t2 with
     | false=>
      go_wp2_with fail;refine(T1.out _).mono ?_;rintro e v2 ⟨rfl,rfl⟩;go_wp2_with fail;refine(T2.out _).mono ?_;exact Us
     | true=>
      cases t3 with
      | false=>
       exact NM
      | true=>
       by_cases he:d.e=0
       · have he1:(d.e==0)=true:=beq_iff_eq.2 he;rw[decide_eq_true he] at Aq;by_cases hu:d.u=0
         · have hu1:(d.u != 0)=false:=by rw[hu];rfl
           rw[decide_eq_true hu] at Aq;clear he hu;exact NM
         · have hu1:(d.u != 0)=true:=bne_iff_ne.2 hu;rw[decide_eq_false hu] at Aq;clear he hu;exact NM
       · have he1:(d.e==0)=false:=beq_eq_false_iff_ne.2 he;rw[decide_eq_false he] at Aq;clear he;exact NM
end Md
namespace Md
open Go.RowKit Go.Maps
open Na (bs fJ)
set_option maxRecDepth 100000
theorem ajP:laidOutB ae=true:=by kernel_rfl
theorem rowP:(156:TypeId)<Tryz.prog.types.size:=of_decide_eq_true dx
theorem aoy:(match Tryz.prog.underlying 156 with|some (.array _ _)|some (.struct _)=>true|_=>false)=true:=by rw[underlying156]
theorem Rn:Keyed ae 156:=Keyed.of_law (deep_law_laid ajP (m:=2) bT rowP dx aoy)
theorem ktP:Tryz.prog.keyType 156=true:=by kernel_rfl
theorem tsP:∃n,Tryz.prog.types.size+1=n+1+1:=⟨Tryz.prog.types.size-1,by have h:(156:Nat)<Tryz.prog.types.size:=rowP;omega⟩
theorem agQ:Tryz.prog.cellsOf 9=1:=by kernel_rfl
theorem WG:Tryz.prog.cellsOf 156=2:=by kernel_rfl
def vD (p:List UInt8×List UInt8):Lit:=.string (keyBytes [.string p.1,.string p.2])
theorem LK {a b:ByteArray} (ha:a.size<=1000000000) (hb:b.size<=1000000000):keyOf ae 156 (.agg #[.string a,.string b])=af (vD (bs a,bs b)):=by
 obtain⟨n,hn⟩:=tsP;have hf:(Value.agg #[.string a,.string b]).formed ae 156=true:=by
  simp[Value.formed,underlying156,WG]
 unfold keyOf;rw[underlying156,ktP,hf,hn];have h1:a.size<=maxLen:=by unfold maxLen;omega
 have h2:b.size<=maxLen:=by unfold maxLen;omega
 simp[Program.keyLits,underlying156,underlying9,WG,agQ,Value.cells,List.range_succ,h1,h2]
 rfl
theorem ajF (p:List UInt8×List UInt8):WideAt.IsKeyLit (vD p):=by unfold vD;simp[WideAt.IsKeyLit]
def Eh (p:List UInt8×List UInt8):Prop:=p.1.length<=1000000000/\p.2.length<=1000000000
theorem ajE {p q:List UInt8×List UInt8} (hp:Eh p) (hq:Eh q) (h:vD p=vD q):p=q:=by
 have e:∀l:List UInt8,bs ⟨l.toArray⟩=l:=fun l=>by unfold bs;simp
 have k1:=LK (a:=⟨p.1.toArray⟩) (b:=⟨p.2.toArray⟩) (by have:=hp.1;show p.1.toArray.size<=_;simpa using this) (by have:=hp.2;show p.2.toArray.size<=_;simpa using this);have k2:=LK (a:=⟨q.1.toArray⟩) (b:=⟨q.2.toArray⟩) (by have:=hq.1;show q.1.toArray.size<=_;simpa using this) (by have:=hq.2;show q.2.toArray.size<=_;simpa using this);rw[e,e] at k1 k2;have h3:=Rn.inj k1 (by rw[k2];show af (vD q)=af (vD p);rw[h]);injection h3 with h3;have h4:=congrArg Array.toList h3;simp only[List.cons.injEq,and_true] at h4;obtain⟨h5,h6⟩:=h4;injection h5 with h5;injection h6 with h6;have g1:=congrArg bs h5;have g2:=congrArg bs h6;rw[e,e] at g1 g2;exact Prod.ext g1 g2
def um (b:Nat) (acc:List (List UInt8×List UInt8)) (w:ag):Prop:=w.ownsMap ae 156 (plainElem ae 4) b acc.length (Da (acc.map vD))/\∀p∈acc,Eh p
theorem um.on {b:Nat} {acc:List (List UInt8×List UInt8)} {w w2:ag} (h:um b acc w) (hb:ah w.heap.size w w2):um b acc w2:=⟨aaS h.1 hb,h.2⟩
theorem um.lt {b:Nat} {acc:List (List UInt8×List UInt8)} {w:ag} (h:um b acc w):b<w.heap.size:=World.ownsMap.lt h.1
theorem ajI (acc:List (List UInt8×List UInt8)):∀k∈acc.map vD,WideAt.IsKeyLit k:=fun k hk=>by obtain⟨y,-,rfl⟩:=List.mem_map.1 hk;exact ajF y
theorem akg {p:List UInt8×List UInt8} {acc:List (List UInt8×List UInt8)} (hp:Eh p) (ha:∀q∈acc,Eh q):vD p∈acc.map vD↔p∈acc:=by
 rw[List.mem_map];constructor
 · rintro⟨y,hy,e⟩;rw[← ajE (ha y hy) hp e];exact hy
 · intro h;exact⟨p,h,rfl⟩
theorem aj9 {w:ag} {b:Nat} {acc:List (List UInt8×List UInt8)} {x y:ByteArray} (h:um b acc w) (hx:x.size<=1000000000) (hy:y.size<=1000000000) :
 (Instr.lookup 154 (.map (af b)) (.agg #[.string x,.string y]) false).run ae w=.ok (.bool (decide ((bs x,bs y)∈acc))) w:=by
 obtain⟨v,ps,hrun,hv⟩:=World.ownsMap.lookup (t:=154) h.1 Rn underlying154 (adH w) (plainElem_bool underlying4 false) (LK hx hy);obtain⟨c,rfl,hc⟩:=aaZ hv;simp only[Prod.mk.injEq] at hc;have:=UU (ajI acc) hc.1;rw[akg ⟨by rw[fJ];exact hx,by rw[fJ];exact hy⟩ h.2] at this;rw[hrun];by_cases g:(bs x,bs y)∈acc
 · rw[decide_eq_true g,this.2 g]
 · rw[decide_eq_false g]
   cases c with
   | true=>exact absurd (this.1 rfl) g
   | false=>rfl
end Md
namespace Md
open Go.RowKit Go.Maps
open Na (bs fJ)
open Ex (Lo Gives block_lt)
attribute [local go_sem] VE VF VG
def aes (b:Nat) (r:Int×List (List UInt8×List UInt8)) (w:ag) (e:Ending) (w':ag):Prop:=e=.returned (.int .i64 r.1)/\um b r.2 w'/\But b w w'
theorem aax {si:List cz} {l:iH} {acc:List (List UInt8×List UInt8)} (h:pz si l.fr<0∨pz si l.tt<0):pG si acc l=(5,acc):=by unfold pG CL;rw[if_pos h];rfl
theorem aj6 {si:List cz} {l:iH} {acc:List (List UInt8×List UInt8)} (h:¬(pz si l.fr<0∨pz si l.tt<0)) (h1:l.fr=l.tt):pG si acc l=(1,acc):=by unfold pG CL;rw[if_neg h,if_pos h1];rfl
theorem aj7 {si:List cz} {l:iH} {acc:List (List UInt8×List UInt8)} (h:¬(pz si l.fr<0∨pz si l.tt<0)) (h1:¬l.fr=l.tt) (h2:iy 1 l.de 1000000000=false):pG si acc l=(2,acc):=by unfold pG CL;rw[if_neg h,if_neg h1,h2];rfl
theorem aj8 {si:List cz} {l:iH} {acc:List (List UInt8×List UInt8)} (h:¬(pz si l.fr<0∨pz si l.tt<0)) (h1:¬l.fr=l.tt) (h2:iy 1 l.de 1000000000=true) (h3:AY l∈acc):pG si acc l=(4,acc):=by unfold pG CL;rw[if_neg h,if_neg h1,h2];simp[h3]
theorem aj5 {si:List cz} {l:iH} {acc:List (List UInt8×List UInt8)} (h:¬(pz si l.fr<0∨pz si l.tt<0)) (h1:¬l.fr=l.tt) (h2:iy 1 l.de 1000000000=true) (h3:¬AY l∈acc):pG si acc l=(0,acc++[AY l]):=by unfold pG CL;rw[if_neg h,if_neg h1,h2];simp[h3]
theorem NN {p:Prop} (h:p:=by
 go_wp2_with fail;go_ret;exact⟨rfl,HS.out.on bl,But.of bl⟩
 ):p:=h
theorem adp {p:Prop} (h:p:=by
 go_enter func96,ntmps96;go_wp2_with fail;refine(S1.out _ bl).mono ?_;rintro e v1 ⟨rfl,hb1⟩;obtain⟨q1,q2,q3,q4,q5,q6,q7⟩:=FY.out v1 bl;go_wp2_with fail;clear q1 q2 q3 q4 q5 q6 q7;refine(S2.out _ bl).mono ?_;rintro e v2 ⟨rfl,hb2⟩;obtain⟨q1,q2,q3,q4,q5,q6,q7⟩:=FY.out v2 bl;exact NN
 ):p:=h
theorem agB (x:iH) (M:dL) (PM:k_) (b B1 B2:Nat) (acc:List (List UInt8×List UInt8)) (w:ag) (hS:um b acc w) (hn:acc.length<=100000) (hx1:x.fr.size<=1000000000) (hx2:x.tt.size<=1000000000)
 (hv:w.cell? ⟨B1,0,aj⟩=af (.map (af b))) (hB2:bU w B2 40 (dS M PM)) (hsi:Rw 13 gK (Lo w.heap.size) w M.si PM.yR PM.xE) :
 au ae 96 #[.agg (qi x),.pointer (af ⟨B2,0,aj⟩),.pointer (af ⟨B1,0,aj⟩)] w (aes b (pG M.si acc x) w):=by
 have HS:=U hS;have HV:=U hv;have HB:=U hB2;have HI:=U hsi;have FX:=wJ (w:=w) 145 156 (qi x) #[.string x.fr,.string x.tt];obtain⟨n4,oo⟩:∃n:Nat,4=n:=⟨_,rfl⟩
 have ai7:∀w,(sizeOf 40).run ae w=.ok n4 w:=fun w=>by rw[sizeOf40,oo]
 have U5:=U oo;have FY:Hid (∀W,ah ((w.alloc (.cells (qi x) 145)).alloc (.cells #[.string x.fr,.string x.tt] 156)).heap.size ((w.alloc (.cells (qi x) 145)).alloc (.cells #[.string x.fr,.string x.tt] 156)) W->W.cell? ⟨w.heap.size,0,aj⟩=af (.string x.fr)/\W.cell? ⟨w.heap.size,1,aj⟩=af (.string x.tt)/\W.cell? ⟨w.heap.size,2,aj⟩=af (.int .i64 x.de)/\W.cell? ⟨w.heap.size+1,0,aj⟩=af (.string x.fr)/\W.cell? ⟨w.heap.size+1,1,aj⟩=af (.string x.tt)/\W.cell? ⟨B1,0,aj⟩=af (.map (af b))/\(loadCellsFrom ⟨B2,0,aj⟩ 0 n4 #[]).run ae W=.ok (dS M PM) W):=U fun W hb=>by
  have q:=FX.out W hb;have hW:ah w.heap.size w W:=bl;exact⟨q.1.get (VE x),q.1.get (VF x),q.1.get (VG x),q.2.get rfl,q.2.get rfl,(hW.cell (p:=⟨B1,0,aj⟩) (block_lt HV.out)).trans HV.out,(HB.out.on hW).cell.fZ U5.out⟩
 have ld:=(HB.out.on (show ah w.heap.size w ((w.alloc (.cells (qi x) 145)).alloc (.cells #[.string x.fr,.string x.tt] 156)) by exact bl)).cell.fZ U5.out;obtain⟨i1,h1⟩:∃v,pz M.si x.fr=v:=⟨_,rfl⟩
 obtain⟨i2,h2⟩:∃v,pz M.si x.tt=v:=⟨_,rfl⟩
 obtain⟨r,hr⟩:∃v,iy 1 x.de 1000000000=v:=⟨_,rfl⟩
 have S1:=U (fun W (hW:ah w.heap.size w W)=>(show au ae 97 #[.agg (dS M PM),.string x.fr] W (Gives (.int .i64 i1) W) by rw[← h1];exact ML M PM x.fr W (HI.out.on gK.map hW)));have S2:=U (fun W (hW:ah w.heap.size w W)=>(show au ae 97 #[.agg (dS M PM),.string x.tt] W (Gives (.int .i64 i2) W) by rw[← h2];exact ML M PM x.tt W (HI.out.on gK.map hW)));have CB:=U (fun W=>BZ hr W);by_cases g1:i1<0
 · rw[aax (.inl (by rw[h1];exact g1))];have d1:=decide_eq_true g1;clear hS hv hB2 hsi oo h1 h2 hr;go_enter func96,ntmps96;go_wp2_with fail;refine(S1.out _ bl).mono ?_;rintro e v1 ⟨rfl,hb1⟩;exact NN
 have d1:=decide_eq_false g1;by_cases g2:i2<0
 · rw[aax (.inr (by rw[h2];exact g2))];have d2:=decide_eq_true g2;clear hS hv hB2 hsi oo h1 h2 hr;exact adp
 have d2:=decide_eq_false g2;have h0:¬(pz M.si x.fr<0∨pz M.si x.tt<0):=by rw[h1,h2];omega
 by_cases g3:x.fr=x.tt
 · rw[aj6 h0 g3];have u3:(x.fr.toList==x.tt.toList)=true:=by rw[Fz];exact decide_eq_true g3
   clear hS hv hB2 hsi oo h1 h2 hr h0 g3;exact adp
 have u3:(x.fr.toList==x.tt.toList)=false:=by rw[Fz];exact decide_eq_false g3
 cases r with
 | false=>
  rw[aj7 h0 g3 hr];clear hS hv hB2 hsi oo h1 h2 hr h0 g3;go_enter func96,ntmps96;go_wp2_with fail;refine(S1.out _ bl).mono ?_;rintro e v1 ⟨rfl,hb1⟩;obtain⟨q1,q2,q3,q4,q5,q6,q7⟩:=FY.out v1 bl;go_wp2_with fail;clear q1 q2 q3 q4 q5 q6 q7;refine(S2.out _ bl).mono ?_;rintro e v2 ⟨rfl,hb2⟩;obtain⟨q1,q2,q3,q4,q5,q6,q7⟩:=FY.out v2 bl;go_wp2_with fail;refine(CB.out _).mono ?_;rintro e v3 ⟨rfl,rfl⟩;exact NN
 | true=>
  have hl:=fun W (hW:um b acc W)=>aj9 hW hx1 hx2;by_cases g4:(bs x.fr,bs x.tt)∈acc
  · rw[aj8 h0 g3 hr g4];rw[decide_eq_true g4] at hl;have Om:=U hl;clear hS hv hB2 hsi oo h1 h2 hr h0 g3 g4 hl;go_enter func96,ntmps96;go_wp2_with fail;refine(S1.out _ bl).mono ?_;rintro e v1 ⟨rfl,hb1⟩;obtain⟨q1,q2,q3,q4,q5,q6,q7⟩:=FY.out v1 bl;go_wp2_with fail;clear q1 q2 q3 q4 q5 q6 q7;refine(S2.out _ bl).mono ?_;rintro e v2 ⟨rfl,hb2⟩;obtain⟨q1,q2,q3,q4,q5,q6,q7⟩:=FY.out v2 bl;have hl:=Om.out v2 (HS.out.on bl);go_wp2_with fail;refine(CB.out _).mono ?_;rintro e v3 ⟨rfl,rfl⟩;exact NN
  · rw[aj5 h0 g3 hr g4];rw[decide_eq_false g4] at hl;have Om:=U hl;have hkey:=LK hx1 hx2;have Ou:Hid (Eh (AY x)):=U ⟨by show(bs x.fr).length<=_;rw[fJ];exact hx1,by show(bs x.tt).length<=_;rw[fJ];exact hx2⟩;clear hS hv hB2 hsi oo h1 h2 hr h0 g3 g4 hl;go_enter func96,ntmps96;go_wp2_with fail;refine(S1.out _ bl).mono ?_;rintro e v1 ⟨rfl,hb1⟩;obtain⟨q1,q2,q3,q4,q5,q6,q7⟩:=FY.out v1 bl;go_wp2_with fail;clear q1 q2 q3 q4 q5 q6 q7;refine(S2.out _ bl).mono ?_;rintro e v2 ⟨rfl,hb2⟩;obtain⟨q1,q2,q3,q4,q5,q6,q7⟩:=FY.out v2 bl;have HS2:=U (HS.out.on (show ah w.heap.size w v2 by exact bl));have hl:=Om.out v2 HS2.out;have HB2:Hid (ah w.heap.size w v2):=U bl;go_wp2_with fail;refine(CB.out _).mono ?_;rintro e v3 ⟨rfl,rfl⟩;go_wp2_with (at_mapUpdate;refine wpList_mapUpdate_own _ rfl _ _ _ 154 rfl 156 4 Rn underlying154 _ b acc.length _ rfl HS2.out.1 Ga _ _ _ rfl rfl hkey _ [] (plainElem_bool underlying4 true) ?_)
    intro w3 hown3 hgrow3;have Gn:=U hown3;rw[UW] at Gn;have HG:=U hgrow3;clear hown3 hgrow3 hl q1 q2 q3 q4 q5 q6 q7;go_wp2_with fail;go_ret;refine⟨rfl,⟨?_,fun p hp=>?_⟩,(But.of HB2.out).trans ⟨HG.out.os,HG.out.tape,HG.out.output,HG.out.size,fun k hk hne=>HG.out.block k hk (fun e=>hne (Option.some.inj e))⟩⟩
    · show World.ownsMap _ _ _ _ b (acc++[AY x]).length (Da ((acc++[AY x]).map vD))
      rw[List.map_append,List.length_append];exact Gn.out
    · rcases List.mem_append.1 hp with hp|hp
      · exact HS2.out.2 p hp
      · rw[List.mem_singleton.1 hp];exact Ou.out
end Md
namespace Md
open Go.RowKit Go.Maps
open Sm (dN rT kG)
open Ex (Lo Gives)
attribute [local go_sem] Ka VH Ph We Wd Pj Pk Pm VJ
theorem adq {p:Prop} (h:p:=by
 clear HE;go_enter func183,ntmps183;go_wp2_with fail;refine(CT.out _ bl (FX.out _ (Below.refl _ _)).1).mono ?_;rintro e v1 ⟨rfl,hb1⟩;have q:=FY.out v1 bl;go_wp2_with fail;refine(CN.out _).mono ?_;rintro e v3 ⟨rfl,rfl⟩;exact dX
 ):p:=h
theorem af5 (hK:uk) (x:cz) (P:eP) (l:Lw) (Q:rD) (w:ag) (hx:iL (Lo w.heap.size) w x P) (hl:oG (Lo w.heap.size) w l Q):au ae 183 #[.agg (b_ x P),.agg (jm l Q)] w (Gives (.int .i64 (yD x l)) w):=by
 have HX:=U hx;have HL:=U hl;have FX:=wJ (w:=w) 54 241 (b_ x P) (jm l Q);obtain⟨hlm,hm⟩:=hl.ts.len;by_cases h0:Q.DL=0
 · rw[show yD x l=7 by unfold yD;rw[if_pos bT]];have d0:((Q.DL:Int)==0)=true:=by rw[h0];rfl
   clear hx hl hlm hm h0;go_enter func183,ntmps183;exact dX
 have d0:((Q.DL:Int)==0)=false:=beq_eq_false_iff_ne.2 bT;obtain⟨v,hv⟩:∃v,A7 (rZ x) 8 l.ts=v:=⟨_,rfl⟩
 obtain⟨r,hr⟩:∃v,iy (-1000000000000) l.tt 1000000000000=v:=⟨_,rfl⟩
 have CT:=U (fun W (hW:ah w.heap.size w W) (hB:bU W w.heap.size 54 (b_ x P))=>(show au ae 207 #[.slice Q.MZ Q.DL Q.TA,.int .i64 8,.func (.func 208) #[] #[.pointer (af ⟨w.heap.size,0,aj⟩)]] W (Gives (.int .i64 v) W) by
  rw[← hv];exact aod hK x P w HX.out HL.out.ts w.heap.size W hW hB))
 have CN:=U (fun W=>(show au ae 129 #[.int .i64 l.tt] W (oI (.bool r) W) by rw[← hr];exact Cw _ W));have HE:Hid (yD x l=dN v (if r then 0 else 2)):=U (by unfold yD;rw[if_neg bT,hv,hr]);clear hx hl hlm hm h0 hv hr hK;by_cases hv0:v=0;rotate_left 1
 · rw[show yD x l=v by rw[HE.out,rT hv0]];have t1:(v != 0)=true:=bne_iff_ne.2 hv0;clear HE;go_enter func183,ntmps183;go_wp2_with fail;refine(CT.out _ bl (FX.out _ (Below.refl _ _)).1).mono ?_;exact Jt
 subst hv0;have FY:Hid (∀W,ah ((w.alloc (.cells (b_ x P) 54)).alloc (.cells (jm l Q) 241)).heap.size ((w.alloc (.cells (b_ x P) 54)).alloc (.cells (jm l Q) 241)) W->W.cell? ⟨w.heap.size+1,2,aj⟩=af (.int .i64 l.tt)):=U fun W hb=>(FX.out W hb).2.get (Ph l Q)
 cases r with
 | false=>
  rw[show yD x l=2 by rw[HE.out,kG];rfl];exact adq
 | true=>
  rw[show yD x l=0 by rw[HE.out,kG];rfl];exact adq
def Oi (w0:ag) (v:Value) (e:Ending) (w':ag):Prop:=e=.returned v/\ah w0.heap.size w0 w'
theorem iL.below {B:Nat} {w w2:ag} (hb:ah B w w2) {x:cz} {P:eP} (h:iL (Lo B) w x P):iL (Lo B) w2 x P:=h.map hb.size fun b g _=>⟨g,hb.block b g⟩
theorem iL.up {B:Nat} {w:ag} (hs:B<=w.heap.size) {x:cz} {P:eP} (h:iL (Lo B) w x P):iL (Lo w.heap.size) w x P:=h.map (av _) fun b g _=>⟨ai g hs,rfl⟩
theorem oG.below {B:Nat} {w w2:ag} (hb:ah B w w2) {x:Lw} {P:rD} (h:oG (Lo B) w x P):oG (Lo B) w2 x P:=h.map hb.size fun b g _=>⟨g,hb.block b g⟩
theorem oG.up {B:Nat} {w:ag} (hs:B<=w.heap.size) {x:Lw} {P:rD} (h:oG (Lo B) w x P):oG (Lo w.heap.size) w x P:=h.map (av _) fun b g _=>⟨ai g hs,rfl⟩
theorem ajR (hK:uk) (x:cz) (P:eP) (w0:ag) (hx:iL (Lo w0.heap.size) w0 x P) (hz:∀l∈x.la,l.nm.size<=9223372036854775807) (b B1 B2:Nat) (hb:w0.heap.size<=b) (h1:B1≠b) (h2:B2≠b) (W:ag)
 (hW:fK w0 b (fun V=>V.cell? ⟨B1,0,aj⟩=af (.map (af b))/\bU V B2 54 (b_ x P)) [] W) :
 au ae 181 #[.slice P.Ii P.lam P.LP,.int .i64 ((32:Nat):Int),.func (.func 182) #[] #[.pointer (af ⟨B1,0,aj⟩),.pointer (af ⟨B2,0,aj⟩)]] W (fun e W2=>e=.returned (.int .i64 (ET x))/\ah w0.heap.size w0 W2):=by
 have hSt:qI b (fun V=>V.cell? ⟨B1,0,aj⟩=af (.map (af b))/\bU V B2 54 (b_ x P)):=fun V V2 h hbt=>⟨wD hbt h.1 h1,h.2.but hbt h2⟩
 refine(ahr (U hx.la) #[] #[.pointer (af ⟨B1,0,aj⟩),.pointer (af ⟨B2,0,aj⟩)] _ (U (fK.fine hb hSt)) (fun a l=>eB a (aas x l)) 32 bT [] (U fun k s l c V hxk hm hg hR hI=>?_) W (U hW)).mono fun e W2 h=>?_
 · rw[OM];obtain⟨Q,rfl,hQ⟩:=hR;have hsh:=zC hm hg;refine(agC l Q b B1 s V hI.tN (by simp at hsh;omega) (hz l (List.mem_of_getElem? hxk)) hI.k.1 h1 B2 (b_ x P) (Pv x P) hI.k.2 h2 (yD x l) (U fun V2 hbt=>?_)).mono fun e W2 h=>hI.step hb hSt h;have hb2:ah w0.heap.size w0 V2:=But.below hI.below hbt hb hI.below.size;have hle:w0.heap.size<=V2.heap.size:=hb2.size;have hv2:ah w0.heap.size V V2:=⟨hbt.os,hbt.tape,hbt.output,hbt.size,fun k hk=>hbt.block k (ai hk hI.below.size) bT⟩
   exact af5 hK x P l Q V2 ((hx.below hb2).up hle) ((hQ.below hv2).up hle)
 · obtain⟨h3,h4⟩:=h;refine⟨?_,h4.below⟩;rw[h3];unfold ET;rw[n_]
theorem IV {w:ag} {n:Nat} (h:w.heap.size=n):il n [] (w.alloc (.map #[] 0)):=by subst h;exact World.ownsMap_made _ _ _ _
theorem alg {w:ag} {n:Nat} (h:w.heap.size=n):um n [] (w.alloc (.map #[] 0)):=by subst h;exact⟨World.ownsMap_made _ _ _ _,fun p hp=>by cases hp⟩
theorem af6 (hK:uk) (x:cz) (P:eP) (w:ag) (hx:iL (Lo w.heap.size) w x P) (hz:∀l∈x.la,l.nm.size<=9223372036854775807):au ae 147 #[.agg (b_ x P)] w (Gives (.int .i64 (ET x)) w):=by
 have FX:=far (w:=w) 54 (b_ x P);have hmm:=@run_makeMap ae;obtain⟨v,hv⟩:∃v,ET x=v:=⟨_,rfl⟩
 have CE:=U (fun W (h1:ah w.heap.size w W) (h2:il (w.heap.size+1) [] W) (h3:W.cell? ⟨w.heap.size+1+1,0,aj⟩=af (.map (af (w.heap.size+1)))) (h4:bU W w.heap.size 54 (b_ x P))=>(show au ae 181 #[.slice P.Ii P.lam P.LP,.int .i64 32,.func (.func 182) #[] #[.pointer (af ⟨w.heap.size+1+1,0,aj⟩),.pointer (af ⟨w.heap.size,0,aj⟩)]] W (Oi w (.int .i64 v)) by
  rw[← hv];exact ajR hK x P w hx hz (w.heap.size+1) (w.heap.size+1+1) w.heap.size bT bT bT W ⟨h1,h2,h3,h4⟩))
 rw[hv];clear hx hv hz hK;go_enter func147,ntmps147;go_wp2_with fail;refine(CE.out _ bl ((IV (w:=w.alloc (.cells (b_ x P) 54)) (n:=w.heap.size+1) cK).on bl) (by go_simp) (FX.out _ bl)).mono ?_;exact Uy
structure JN (w0:ag) (b:Nat) (K:ag->Prop) (acc:List (List UInt8×List UInt8)) (W:ag):Prop where
 below:ah w0.heap.size w0 W
 tN:um b acc W
 k:K W
theorem JN.fine {w0:ag} {b:Nat} {K:ag->Prop} (hb:w0.heap.size<=b) (hK:qI b K):pX w0 (JN w0 b K) where
 below _ _ h:=h.below
 on s W W2 h hW:=⟨h.below.trans (hW.mono h.below.size),h.tN.on hW,hK W W2 h.k (But.of hW)⟩
theorem an0 (si:List cz) (acc:List (List UInt8×List UInt8)) (l:iH):(pG si acc l).2.length<=acc.length+1:=by
 unfold pG;split
 · split <;> simp
 · simp
theorem YQ {si:List cz}:∀{l:List iH} {s:List (List UInt8×List UInt8)},(dJ (pG si) l s).2.length<=s.length+l.length
 | [],s=>by simp[dJ]
 | x::t,s=>by
  have h1:=an0 si s x;rw[dJ]
  split
  · have h2:=YQ (si:=si) (l:=t) (s:=(pG si s x).2);rw[List.length_cons];omega
  · rw[List.length_cons];omega
theorem aj0 (M:dL) (PM:k_) (w0:ag) (hx:jB (Lo w0.heap.size) w0 M PM) (hz:∀l∈M.li,l.fr.size<=1000000000/\l.tt.size<=1000000000) (b B1 B2:Nat) (hb:w0.heap.size<=b) (h1:B1≠b) (h2:B2≠b) (W:ag)
 (hW:JN w0 b (fun V=>V.cell? ⟨B1,0,aj⟩=af (.map (af b))/\bU V B2 40 (dS M PM)) [] W) :
 au ae 95 #[.slice PM.EU PM.lim PM.Io,.int .i64 ((32:Nat):Int),.func (.func 96) #[] #[.pointer (af ⟨B2,0,aj⟩),.pointer (af ⟨B1,0,aj⟩)]] W (fun e W2=>e=.returned (.int .i64 (Iq M))/\ah w0.heap.size w0 W2):=by
 have hSt:qI b (fun V=>V.cell? ⟨B1,0,aj⟩=af (.map (af b))/\bU V B2 40 (dS M PM)):=fun V V2 h hbt=>⟨wD hbt h.1 h1,h.2.but hbt h2⟩
 refine(ahq (U hx.li) #[] #[.pointer (af ⟨B2,0,aj⟩),.pointer (af ⟨B1,0,aj⟩)] _ (U (JN.fine hb hSt)) (pG M.si) 32 bT [] (U fun k s l c V hxk hm hg hR hI=>?_) W (U hW)).mono fun e W2 h=>?_
 · rw[OM,show c=qi l from hR];have hl:=YQ (si:=M.si) (l:=M.li.take k) (s:=[]);rw[hg,List.length_take] at hl;have hle:s.length<=0+min k M.li.length:=hl;have hz2:=hz l (List.mem_of_getElem? hxk);refine(agB l M PM b B1 B2 s V hI.tN bT hz2.1 hz2.2 hI.k.1 hI.k.2 ?_).mono fun e W2 h=>?_
   · exact hx.si.map gK.map hI.below.size fun bb g _=>⟨ai g hI.below.size,hI.below.block bb g⟩
   · exact⟨h.1,⟨But.below hI.below h.2.2 hb hI.below.size,h.2.1,hSt _ _ hI.k h.2.2⟩⟩
 · exact⟨h.1,h.2.below⟩
theorem af7 (M:dL) (PM:k_) (w:ag) (hx:jB (Lo w.heap.size) w M PM) (hz:∀l∈M.li,l.fr.size<=1000000000/\l.tt.size<=1000000000):au ae 57 #[.agg (dS M PM)] w (Gives (.int .i64 (Iq M)) w):=by
 have FX:=far (w:=w) 40 (dS M PM);have hmm:=@run_makeMap ae;obtain⟨v,hv⟩:∃v,Iq M=v:=⟨_,rfl⟩
 have CE:=U (fun W (h1:ah w.heap.size w W) (h2:um (w.heap.size+1) [] W) (h3:W.cell? ⟨w.heap.size+1+1,0,aj⟩=af (.map (af (w.heap.size+1)))) (h4:bU W w.heap.size 40 (dS M PM))=>(show au ae 95 #[.slice PM.EU PM.lim PM.Io,.int .i64 32,.func (.func 96) #[] #[.pointer (af ⟨w.heap.size,0,aj⟩),.pointer (af ⟨w.heap.size+1+1,0,aj⟩)]] W (Oi w (.int .i64 v)) by
  rw[← hv];exact aj0 M PM w hx hz (w.heap.size+1) (w.heap.size+1+1) w.heap.size bT bT bT W ⟨h1,h2,h3,h4⟩))
 rw[hv];clear hx hv hz;go_enter func57,ntmps57;go_wp2_with fail;refine(CE.out _ bl ((alg (w:=w.alloc (.cells (dS M PM) 40)) (n:=w.heap.size+1) cK).on bl) (by go_simp) (FX.out _ bl)).mono ?_;exact Uy
theorem nV.below {B:Nat} {w w2:ag} (hb:ah B w w2) {x:iP} {P:qf} (h:nV (Lo B) w x P):nV (Lo B) w2 x P:=h.map hb.size fun b g _=>⟨g,hb.block b g⟩
theorem nV.up {B:Nat} {w:ag} (hs:B<=w.heap.size) {x:iP} {P:qf} (h:nV (Lo B) w x P):nV (Lo w.heap.size) w x P:=h.map (av _) fun b g _=>⟨ai g hs,rfl⟩
theorem agy (x:cz) (P:eP) (d:iP) (Q:qf) (B:Nat) (w:ag) (hx:Rw 4 gU (Lo w.heap.size) w x.ro P.xB P.rV) (hd:nV (Lo w.heap.size) w d Q) (hB:bU w B 54 (b_ x P)):au ae 145 #[.agg (iZ d Q),.pointer (af ⟨B,0,aj⟩)] w (Gives (.int .i64 (xI x.ro d)) w):=by
 have HX:=U hx;have HD:=U hd;obtain⟨n13,ji⟩:∃n:Nat,13=n:=⟨_,rfl⟩
 have AR:∀w,(sizeOf 54).run ae w=.ok n13 w:=fun w=>by rw[sizeOf54,ji]
 have BN:=U ji;obtain⟨n5,Q0⟩:∃n:Nat,5=n:=⟨_,rfl⟩
 have hsz5:∀w,(sizeOf 219).run ae w=.ok n5 w:=fun w=>by rw[sizeOf219,Q0]
 have ld:=(hB.on (show ah w.heap.size w (w.alloc (.cells (iZ d Q) 219)) by exact bl)).cell.fZ BN.out;have ld5:=fun W=>run_loadCellsFrom_new (P:=ae) W 219 (iZ d Q) n5 (by rw[VZ];exact Q0);obtain⟨V,hV⟩:∃v,xI x.ro d=v:=⟨_,rfl⟩
 have CT:=U (fun W (hW:ah w.heap.size w W)=>(show au ae 146 #[.agg (b_ x P),.agg (iZ d Q)] W (Gives (.int .i64 V) W) by rw[← hV];exact agc x P d Q W (HX.out.on gU.map hW) (HD.out.on hW)));rw[hV];clear hx hd hB ji Q0 hV;go_enter func145,ntmps145;go_wp2_with fail;refine(CT.out _ bl).mono ?_;exact Jt
theorem anK (x:cz) (P:eP) (w0:ag) (hx:iL (Lo w0.heap.size) w0 x P) (B:Nat) (W:ag) (hW:ah w0.heap.size w0 W) (hB:bU W B 54 (b_ x P)) :
 au ae 144 #[.slice P.Bp P.Bo P.DD,.int .i64 ((32:Nat):Int),.func (.func 145) #[] #[.pointer (af ⟨B,0,aj⟩)]] W (fun e W2=>e=.returned (.int .i64 (A7 (xI x.ro) 32 x.ss))/\ah W.heap.size W W2):=by
 have F:pX w0 (fun(_:Unit) V=>ah W.heap.size W V):=⟨fun _ V h=>hW.trans (h.mono hW.size),fun _ V V2 h h2=>h.trans (h2.mono h.size)⟩
 refine(ahu (U hx.ss) #[] #[.pointer (af ⟨B,0,aj⟩)] (fun(_:Unit) V=>ah W.heap.size W V) (U F) (fun _ d=>(xI x.ro d,())) 32 bT () (U fun k s d c V hx2 hm hg hR hI=>?_) W (U (Below.refl _ _))).mono fun e W2 h=>?_
 · rw[Ei];obtain⟨Q,rfl,hQ⟩:=hR;have h0:ah w0.heap.size w0 V:=hW.trans (hI.mono hW.size);exact(agy x P d Q B V (hx.ro.map gU.map h0.size fun b g _=>⟨ai g h0.size,h0.block b g⟩) (hQ.up h0.size) (hB.on hI)).mono fun e W2 h=>⟨h.1,hI.trans (h.2.mono hI.size)⟩
 · obtain⟨h1,h2⟩:=h;rw[Xq] at h1;exact⟨h1,h2⟩
end Md
end Go.Proofs.YtkpekhpgdajabaaGreatDoor
