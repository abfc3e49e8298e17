/-
  Parts of this proof: The contract of the reader's part of a model. The contract of the reader's model. The contract of Model. The contract of follow for statements. The contract of Stmts. The chapter's examples, as the reader's mathemat. The contracts of the reference's Same and SameAl. The contracts of the reference's Same and sameEx.
-/
import Derived.Test.YthnillhnjhalmaaGreatDoorYTDcl
open Go.Proofs.Tryz
open Go.Lib renaming hid->U
open Option renaming none->X,some->aj
open Go.Proofs.Tryz renaming prog->ae
open Go renaming World->af,bodyPost_ret->ah,Value->ak,Calls->au
open Go.World renaming cell?->ag
open List renaming getElem?_eq_getElem->ai
set_option linter.unusedVariables false
set_option maxRecDepth 100000
set_option maxHeartbeats 16000000
open Go.Lib (hid)
namespace Go.Proofs.YthnillhnjhalmaaGreatDoor
namespace Ps
open Ps.P (len)
open Go.RowKit
open Lx (Tk)
open Md
def AL (F0:(Nat->Prop)->af->Prop) (x:dM) (V:Nat->ak):Nat->(Nat->Prop)->af->Prop
 | 0=>F0
 | 1=>fun G w=>cu 103 3 iI G w (V 1) x.pa
 | 2=>fun G w=>cu 50 13 g_ G w (V 2) x.si
 | 3=>fun G w=>cu 139 3 nP G w (V 3) x.li
 | _+4=>fun _ _=>True
theorem JI {F0:(Nat->Prop)->af->Prop} (h0:Mv F0) (x:dM) (V:Nat->ak):∀j,Mv (AL F0 x V j)
 | 0=>h0
 | 1=>oK iI.map
 | 2=>oK g_.map
 | 3=>oK nP.map
 | _+4=>JK
abbrev BS (F0:(Nat->Prop)->af->Prop) (lo B:Nat) (x:dM) (V:Nat->ak) (W:af):Prop:=gZ lo B 36 #[.string x.nm,V 1,V 2,V 3] (AL F0 x V) W
theorem alE {F0:(Nat->Prop)->af->Prop} {x:dM} {V:Nat->ak} {v:ak} {l:List Val}:∀j G W,(if j=1 then fun G w=>cu 103 3 iI G w v l else AL F0 x V j) G W->AL F0 { x with pa:=l } (ji 1 v V) j G W
 | 0,_,_,h=>h
 | 1,_,_,h=>h
 | 2,_,_,h=>h
 | 3,_,_,h=>h
 | _+4,_,_,h=>trivial
theorem alF {F0:(Nat->Prop)->af->Prop} {x:dM} {V:Nat->ak} {v:ak} {l:List cZ}:∀j G W,(if j=2 then fun G w=>cu 50 13 g_ G w v l else AL F0 x V j) G W->AL F0 { x with si:=l } (ji 2 v V) j G W
 | 0,_,_,h=>h
 | 1,_,_,h=>h
 | 2,_,_,h=>h
 | 3,_,_,h=>h
 | _+4,_,_,h=>trivial
theorem alD {F0:(Nat->Prop)->af->Prop} {x:dM} {V:Nat->ak} {v:ak} {l:List iY}:∀j G W,(if j=3 then fun G w=>cu 139 3 nP G w v l else AL F0 x V j) G W->AL F0 { x with li:=l } (ji 3 v V) j G W
 | 0,_,_,h=>h
 | 1,_,_,h=>h
 | 2,_,_,h=>h
 | 3,_,_,h=>h
 | _+4,_,_,h=>trivial
section
variable {L:Lk} {g:Nat} {t:List Tk}
theorem amL (F0:(Nat->Prop)->af->Prop) (h0:Mv F0) (lo B:Nat) (x:dM) (V:Nat->ak) (d:Nat) (w:af) (hR:Rd L g t w) (hlo:g<lo) (hd:pO x d) (hdl:d<=30001) (hD:BS F0 lo B x V w):au ae 48 #[.pointer (aj ⟨g,0,X⟩),.pointer (aj ⟨B,0,X⟩)] w (DO L g lo (fun y W=>∃V,BS F0 lo B y V W) (run (prt x) t) w):=by
 obtain⟨r,hr⟩:∃r,run (prt x) t=r:=⟨_,rfl⟩
 rw[hr];have HS:=U hr;have hg:=hR.blk;have HR:=U hR;have HB:Hid (Bt g w w):=U (bT.refl _ _);clear hR hr;have HM:=U (JI h0 x V);have HD:=U hD;have HL:=U hd;have akp:=hD.zw;have hblt:=hD.box.lt;clear hD hd;go_enter func48,ntmps48;go_wp2_with fail;refine ac HS HB (dH aaZ _ (HR.out.low qe) bS) ?_ ?_
 · clear HS HB HR;rintro w1-HS b1 HR HB;replace HD:=U (HD.out.up HM.out (w1:=w1) qe);clear b1;have lm:ag w1 ⟨B,1,X⟩=aj (V 1):=HD.out.cell rfl;go_wp2_with fail;go_region_law (first|(rw[if_pos (by rfl)];refine Lib.wp_append_run _ _ _ _ _ rfl _ _ rfl rfl _ _ hrun ?_)|(go_simp;go_at_call 84;refine(adu _ (HR.out.low qe)).mono ?_;rintro e' wa h3;rcases h3.cases with⟨x3,u3,v3,r3,rfl,b3,V3,R3⟩|⟨u3,r3,rfl,b3⟩;rotate_left 1;(have bZ:=HB.out;exact⟨rfl,DO.no (fI HS r3) (iK qe)⟩);obtain rfl:=V3;obtain⟨v5,w5,hrun,⟨p5,n5,rfl⟩,k5,f5,D5,q5⟩:=HD.out.push Z_ iI.map NV HM.out (w1:=wa) qe (i:=1) rfl bS rfl (y:=x3) (ce:=ni x3) rfl (by have:=HL.out.pa.len;omega);have lH:ag wa ⟨B,1,X⟩=aj (V 1):=(fw HD.out.box (S:=fun k=>k≠g) qe bU).get rfl;have gY:ag (wa.alloc (.cells (ni x3) 103)) ⟨B,1,X⟩=aj (V 1):=(fw HD.out.box (S:=fun k=>k≠g) qe bU).get rfl;dsimp only [ni] at hrun gY ⊢))
   all_goals
    replace HS:=fB HS r3;have jl:Hid (BS F0 lo B { x with pa:=x.pa++[x3] } (ji 1 (.slice p5 (x.pa.length+1) n5) V) (w5.setCell ⟨B,1,X⟩ (.slice p5 (x.pa.length+1) n5))):=U (D5.cast alE rfl);have qF:bT (fun k=>k<lo/\¬k=g) w (w5.setCell ⟨B,1,X⟩ (.slice p5 _ n5)):=bT.call (S':=fun k=>k<lo) (iK qh) q5 (fun k _ h=>h.1);have fO:=R3.low (w2:=w5.setCell ⟨B,1,X⟩ (.slice p5 _ n5)) (q5.mono fun k _ hk=>by have hk':k<=g:=hk;omega);have HQ:=U (And.intro qF fO);clear D5 q5 R3 b3 hrun k5 f5 qF fO;go_wp2_with fail
    (first|go_end0|refine ah (results_none rfl _ _ _) rfl ?_)
    exact DO.ok (dD HS) HQ.out.1 ⟨_,jl.out⟩ HQ.out.2
 clear HS HB HR;rintro w1-HS b1 HR HB;replace HD:=U (HD.out.up HM.out (w1:=w1) qe);clear b1;go_wp2_with fail;refine ac HS HB (dH aaX _ (HR.out.low qe) bS) ?_ ?_
 · clear HS HB HR;rintro w3-HS b3 HR HB;replace HS:=jw HS;replace HD:=U (HD.out.up HM.out (w1:=w3) qe);clear b3;have lm:ag w3 ⟨B,3,X⟩=aj (V 3):=HD.out.cell rfl;go_wp2_with fail;go_region_law (first
    | (rw[if_pos (by rfl)];refine Lib.wp_append_run _ _ _ _ _ rfl _ _ rfl rfl _ _ hrun ?_)
    | (go_simp;go_at_call 85;refine(lI _ (R5.low qe)).mono ?_;rintro e' wc h6;rcases h6.cases with⟨x6,u6,v6,r6,rfl,b6,V6,R6⟩|⟨u6,r6,rfl,b6⟩;rotate_left 1;(have bZ:=HB.out;exact⟨rfl,DO.no (fI S5 r6) (iK qe)⟩);obtain⟨rfl,-,-⟩:=V6;have S6:=jw (fB S5 r6);obtain⟨v7,w7,hrun,⟨p7,n7,rfl⟩,k7,f7,D7,q7⟩:=HD.out.push aj0 nP.map acE HM.out (w1:=wc) qe (i:=3) rfl bS rfl (y:=(⟨x4,x5,x6⟩:iY)) (ce:=qI ⟨x4,x5,x6⟩) rfl (by have:=HL.out.li.len;omega);have lc:ag wc ⟨B,3,X⟩=aj (V 3):=(fw HD.out.box (S:=fun k=>k≠g) qe bU).get rfl;have ld:ag (wc.alloc (.cells (qI ⟨x4,x5,x6⟩) 139)) ⟨B,3,X⟩=aj (V 3):=(fw HD.out.box (S:=fun k=>k≠g) qe bU).get rfl;dsimp only [qI] at hrun ld ⊢)
    | (go_simp;go_at_call 82;refine(jK _ (R4.low qe)).mono ?_;rintro e' wb h5;rcases h5.cases with⟨x5,u5,v5,r5,rfl,b5,V5,R5⟩|⟨u5,r5,rfl,b5⟩;rotate_left 1;(have bZ:=HB.out;exact⟨rfl,DO.no (fI S4 r5) (iK qe)⟩);obtain rfl:=V5;have S5:=jw (fB S4 r5);have lb:ag wb ⟨B,3,X⟩=aj (V 3):=(fw HD.out.box (S:=fun k=>k≠g) qe bU).get rfl)
    | (go_simp;go_at_call 82;refine(jK _ (HR.out.low qe)).mono ?_;rintro e' wa h4;rcases h4.cases with⟨x4,u4,v4,r4,rfl,b4,V4,R4⟩|⟨u4,r4,rfl,b4⟩;rotate_left 1;(have bZ:=HB.out;exact⟨rfl,DO.no (fI HS r4) (iK qe)⟩);obtain rfl:=V4;have S4:=jw (fB HS r4);have la:ag wa ⟨B,3,X⟩=aj (V 3):=(fw HD.out.box (S:=fun k=>k≠g) qe bU).get rfl))
   all_goals
    have jl:Hid (BS F0 lo B { x with li:=x.li++[(⟨x4,x5,x6⟩:iY)] } (ji 3 (.slice p7 (x.li.length+1) n7) V) (w7.setCell ⟨B,3,X⟩ (.slice p7 (x.li.length+1) n7))):=U (D7.cast alD rfl);have qF:bT (fun k=>k<lo/\¬k=g) w (w7.setCell ⟨B,3,X⟩ (.slice p7 _ n7)):=bT.call (S':=fun k=>k<lo) (iK (w:=wc) qh) q7 (fun k _ h=>h.1);have fO:=U (R6.low (w2:=w7.setCell ⟨B,3,X⟩ (.slice p7 _ n7)) (q7.mono fun k _ hk=>by have hk':k<=g:=hk;omega));have HQ:=U qF;have Li:=U (JI h0 { x with li:=x.li++[(⟨x4,x5,x6⟩:iY)] } (ji 3 (.slice p7 (x.li.length+1) n7) V));clear D7 q7 R4 R5 R6 b4 b5 b6 hrun k7 f7 qF HR HB HD r4 r5 r6 h4 h5 h6 S4 S5 HS;go_wp2_with fail;refine(lF _ (fO.out.low qe)).mono ?_;rintro e w9 h9;rcases h9.cases with⟨x9,u9,v9,r9,rfl,b9,V9,R9⟩|⟨u9,r9,rfl,b9⟩
    rotate_left 1
    · have HQQ:=HQ.out;go_wp2_with fail;exact⟨rfl,DO.no (fI S6 r9) qe⟩
    obtain rfl:=V9;have HS9:=mI (fB S6 r9);have HE:=U (And.intro (jl.out.up Li.out (w1:=w9) qe) (And.intro R9 (show bT (fun k=>k<lo/\¬k=g) w w9 by have HQQ:=HQ.out;exact qe)));clear fO HQ R9 b9 jl r9 h9;go_wp2_with fail
    (first|go_end0|refine ah (results_none rfl _ _ _) rfl ?_)
    exact DO.ok (dD HS9) HE.out.2.2 ⟨_,HE.out.1⟩ HE.out.2.1
 clear HS HB HR;rintro w3-HS b3 HR HB;replace HD:=U (HD.out.up HM.out (w1:=w3) qe);clear b3;go_wp2_with fail;refine ac HS HB (dH aba _ (HR.out.low qe) bS) ?_ ?_
 · clear HS HB HR;rintro w2-HS b2 HR HB;replace HD:=U (HD.out.up HM.out (w1:=w2) qe);clear b2;have lm:ag w2 ⟨B,2,X⟩=aj (V 2):=HD.out.cell rfl;go_wp2_with fail;go_region_law (first|(rw[if_pos (by rfl)];refine Lib.wp_append_run _ _ _ _ _ rfl _ _ rfl rfl _ _ hrun ?_)|(go_simp;go_at_call 86;refine(Oc _ (HR.out.low qe)).mono ?_;rintro e' wa h3;rcases h3.cases with⟨x3,u3,v3,r3,rfl,b3,V3,R3⟩|⟨u3,r3,rfl,b3⟩;rotate_left 1;(have bZ:=HB.out;exact⟨rfl,DO.no (fI HS r3) (iK qe)⟩);obtain⟨_,rfl,P3,rfl,o3⟩:=V3;obtain⟨v5,w5,hrun,⟨p5,n5,rfl⟩,k5,f5,D5,q5⟩:=HD.out.push akZ g_.map acL HM.out (w1:=wa) qe (i:=2) rfl bS rfl (y:=x3) (ce:=cK x3 P3) ⟨P3,rfl,o3⟩ (by have:=HL.out.si.len;omega);have lH:ag wa ⟨B,2,X⟩=aj (V 2):=(fw HD.out.box (S:=fun k=>k≠g) qe bU).get rfl;have gY:ag (wa.alloc (.cells (cK x3 P3) 50)) ⟨B,2,X⟩=aj (V 2):=(fw HD.out.box (S:=fun k=>k≠g) qe bU).get rfl;dsimp only [cK] at hrun gY ⊢))
   all_goals
    replace HS:=fB HS r3;have jl:Hid (BS F0 lo B { x with si:=x.si++[x3] } (ji 2 (.slice p5 (x.si.length+1) n5) V) (w5.setCell ⟨B,2,X⟩ (.slice p5 (x.si.length+1) n5))):=U (D5.cast alF rfl);have qF:bT (fun k=>k<lo/\¬k=g) w (w5.setCell ⟨B,2,X⟩ (.slice p5 _ n5)):=bT.call (S':=fun k=>k<lo) (iK qh) q5 (fun k _ h=>h.1);have fO:=R3.low (w2:=w5.setCell ⟨B,2,X⟩ (.slice p5 _ n5)) (q5.mono fun k _ hk=>by have hk':k<=g:=hk;omega);have HQ:=U (And.intro qF fO);clear D5 q5 R3 b3 hrun k5 f5 qF fO;go_wp2_with fail
    (first|go_end0|refine ah (results_none rfl _ _ _) rfl ?_)
    exact DO.ok (dD HS) HQ.out.1 ⟨_,jl.out⟩ HQ.out.2
 clear HS HB HR;rintro w2-HS b2 HR HB;replace HD:=U (HD.out.up HM.out (w1:=w2) qe);clear b2;exact zzu
end
end Ps
namespace Ps
open Ps.P (rt bd len)
open Go.RowKit
open Lx (Tk)
open Md
def Hl (z:Nat):(Nat->Prop)->af->Prop:=fun G w=>G z/\bX w z 36 #[.string ⟨#[]⟩,.slice X 0 0,.slice X 0 0,.slice X 0 0]
theorem Pp (z:Nat):Mv (Hl z):=zx
structure afT (L:Lk) (g:Nat) (r:R dM) (K:dM->P dM) (B:Nat) (w:af) (k:Nat) (wr:af):Prop where
 ex:∃x V d u,run (bd (Ed k x) K) u=r/\u.length<k/\pO x d/\d+u.length<=30001/\BS (Hl w.heap.size) w.heap.size B x V wr/\Rd L g u wr
 bt:Bt g w wr
theorem alG {z lo B d:Nat} {x:dM} {V:Nat->ak} {w:af} (h:BS (Hl z) lo B x V w) (hd:pO x d) (hdl:d<=30001):∃P,bX w B 36 (dX x P)/\bX w z 36 #[.string ⟨#[]⟩,.slice X 0 0,.slice X 0 0,.slice X 0 0]/\jS (fun k=>lo<=k/\¬k=z/\¬k=B) w x P:=by
 have hm:=JI (Pp z) x V;have h0:∀G,AL (Hl z) x V 0 G w->G z:=fun G h=>h.1;have Z0:=h.part hm 0;obtain⟨p1,m1,c1,e1,r1⟩:=r_ iI.map NV (h.off hm h0 (j:=1) bS) (by have:=hd.pa.len;omega);obtain⟨p2,m2,c2,e2,r2⟩:=r_ g_.map acL (h.off hm h0 (j:=2) bS) (by have:=hd.si.len;omega);obtain⟨p3,m3,c3,e3,r3⟩:=r_ nP.map acE (h.off hm h0 (j:=3) bS) (by have:=hd.li.len;omega);have hb:=h.box;rw[e1,e2,e3] at hb;exact⟨⟨p1,m1,c1,p2,m2,c2,p3,m3,c3⟩,hb,Z0.2,⟨r1,r2,r3⟩⟩
section
variable {L:Lk} {g:Nat} {t:List Tk}
theorem alK (w:af) (hR:Rd L g t w):au ae 21 #[.pointer (aj ⟨g,0,X⟩)] w (PE g (VR Ah) (run JH t) w):=by
 have HN:Hid (∀x v,run (zy Jl) t=.ok x v->x.size<=20000/\v.length<=30000):=U fun x v h=>by
  obtain⟨h1,d,h2,h3⟩:=(IM (s:=Jl) bS).out hR.gd h;exact⟨h3.2,by have:=hR.small;omega⟩
 obtain⟨r,hr⟩:∃r,run JH t=r:=⟨_,rfl⟩
 rw[hr];have HS:=U hr;have hg:=hR.blk;have HR:=U hR;have HB:Hid (Bt g w w):=U (bT.refl _ _);clear hR hr;have Z:=VS w;go_enter func21,ntmps21;go_wp2_with fail;refine(Nr _ _ (HR.out.low qe) bS).mono ?_;rintro e w1 h1;rcases h1.cases with⟨x1,u1,v1,r1,rfl,b1,V1,R1⟩|⟨u1,r1,rfl,b1⟩
 rotate_left 1
 · exact afh
 have Af:=U (HN.out _ _ r1);replace HS:=fB HS r1;replace Z:=bV Z w1;replace HB:=dJ HB w1;replace HR:=U R1;clear b1 R1;clear r1 h1;obtain rfl:=V1;have hz1:=Z.out.lt;have hd1:Hid (BS (Hl w.heap.size) w.heap.size w1.heap.size ⟨x1,[],[],[]⟩ (fun _=>.slice X 0 0) (w1.alloc (.cells #[.string x1,.slice X 0 0,.slice X 0 0,.slice X 0 0] 36))):=U (gZ.new bX.new (Nat.le_of_lt hz1) ⟨⟨Nat.le_refl _,by omega⟩,cO Z.out qe⟩ zx fun j hj G=>(match j,hj with|1,_=>cu.nil|2,_=>cu.nil|3,_=>cu.nil|n+4,_=>trivial));obtain⟨K,hK⟩:∃K:dM->P dM,(fun m=>bd fM fun _=>bd pz fun _=>rt m)=K:=⟨_,rfl⟩
 have HK:=U hK;replace HS:Hid (run (bd fM fun _=>bd (Ed FU ⟨x1,[],[],[]⟩) K) u1=r):=U (by rw[← hK];exact HS.out);clear hK Z HN;go_wp2_with fail;refine(lF _ (HR.out.low qe)).mono ?_;rintro e w2 h2;rcases h2.cases with⟨x2,u2,v2,r2,rfl,b2,V2,R2⟩|⟨u2,r2,rfl,b2⟩
 rotate_left 1
 · have bZ:=HB.out;go_wp2_with fail;exact⟨rfl,PE.no (fI HS r2) qe⟩
 have C_:=U (nR.out HR.out.gd r2).2;replace HS:=fB HS r2;have HD:=U (hd1.out.up (JI (Pp _) _ _) (w1:=w2) qe);replace HB:=dJ HB w2;replace HR:=U R2;clear b2 R2;clear r2 h2 hd1;obtain rfl:=V2;go_wp2_with fail;go_loopg [] FU (afT L g r K w1.heap.size w)
 case atStart=>exact⟨⟨⟨x1,[],[],[]⟩,(fun _=>.slice X 0 0),0,u2,HS.out,by have h1:=Af.out;have h2:=C_.out;unfold FU;omega,⟨Af.out.1,.nil,.nil,.nil⟩,by have h1:=Af.out;have h2:=C_.out;omega,HD.out,HR.out⟩,HB.out⟩
 case round=>
  obtain⟨⟨x,V,d,u,hs,hk,hx,hl,hd,hR⟩,hb⟩:=hrel;clear HS HB HR Af C_ HD;obtain⟨k,rfl⟩:∃k,gk=k+1:=⟨gk-1,by omega⟩
  rw[Ed] at hs;have HM:=U (JI (Pp w.heap.size) x V);have HL:=U hl;have HKK:=U hk;have HX:=U hx;have kg:Hid (∀y v,run (prt x) u=.ok y v->∃c,v.length+c=u.length/\1<=c/\pO y (d+c)):=U fun y v h=>by
   obtain⟨h1,c,h2,h3⟩:=(Zc hx).out hR.gd h;have:=(aiI x).out hR.gd h;exact⟨c,h2,by omega,h3⟩
  have HD:=U hd;have HR:=U hR;have HB:=U hb;have HS:=U hs;have hbl:=hd.box.lt;clear hl hk hx hd hR hb hs;go_wp2_with fail;refine(dH pG _ (HR.out.low qe) bS).mono ?_;rintro e w8 ⟨b8,⟨i8,rfl,R8⟩|⟨i8,rfl,R8⟩⟩
  · replace HS:=mI (yz HS i8);replace HS:Hid (run (bd fM fun _=>bd pz fun _=>rt x) u.tail=r):=U K6;replace HD:=U (HD.out.up HM.out (w1:=w8) qe);replace HB:=dJ HB w8;replace HR:=U R8;clear b8 R8;clear i8 kg;have rO:=HD.out.box.lt;go_wp2_with fail;refine(lF _ (HR.out.low qe)).mono ?_;rintro e w9 h9;rcases h9.cases with⟨x9,u9,v9,r9,rfl,b9,V9,R9⟩|⟨u9,r9,rfl,b9⟩
    rotate_left 1
    · have bZ:=HB.out;go_wp2_with fail;exact⟨rfl,PE.no (fI HS r9) qe⟩
    replace HS:=fB HS r9;replace HD:=U (HD.out.up HM.out (w1:=w9) qe);replace HB:=dJ HB w9;replace HR:=U R9;clear b9 R9;clear r9 h9;obtain rfl:=V9;have DR:=HD.out.box.lt;go_wp2_with fail;refine(RO _ (HR.out.low qe)).mono ?_;rintro e gG h10;rcases h10.cases with⟨Ku,jy,v10,yo,rfl,b10,V10⟩|⟨jy,yo,rfl,b10⟩
    rotate_left 1
    · have bZ:=HB.out;go_wp2_with fail;exact⟨rfl,PE.no (fI HS yo) qe⟩
    replace HS:=fB HS yo;obtain rfl:=V10;replace HD:=U (HD.out.up HM.out (w1:=gG) qe);replace HB:=dJ HB gG;clear yo h10 b10;obtain⟨P,hy,hz,ho⟩:=alG HD.out HX.out ou;have Y:=U hy;have Z:=U hz;have qW:∀W,bT (fun k=>w.heap.size<=k/\¬k=w.heap.size/\¬k=w1.heap.size) gG W->Ah (fun b=>w.heap.size<=b) W x (dX x P):=fun W q=>⟨P,rfl,ho.map q.size fun b hb hlt=>⟨hb.1,q.block b hlt hb⟩⟩
    clear hy hz ho HD HM HX;obtain⟨W,hP⟩:=jM (c:=dX x P) Z.out agn (XB _ _) rfl;have j4:=hP.bt;have ig:=U hP.box;have j5:=hP.size;go_wp2_with (first|(refine wpList_load_row rfl 36 _ rfl _ rfl 36 _ (0,0) _ Y.out underlying36 rfl dA ?_)|(refine jN rfl 36 _ _ rfl w.heap.size _ rfl rfl hP ?_))
    have bZ:=HB.out;refine ah (v:=.agg (dX x P)) ?_ rfl (PE.ok (dD HS) qe ⟨_,rfl,qW _ qe⟩);exact results_cell_row rfl _ _ w.heap.size 36 _ (0,0) _ rfl ig.out underlying36 rfl dA
  · replace HS:=jw (yx HS i8);replace HD:=U (HD.out.up HM.out (w1:=w8) qe);replace HB:=dJ HB w8;replace HR:=U R8;clear b8 R8;clear i8;have rO:=HD.out.box.lt;go_wp2_with fail;refine(amL (Hl w.heap.size) (Pp _) w.heap.size w1.heap.size x V d _ (HR.out.low qe) hg HX.out ou (HD.out.up HM.out qe)).mono ?_;rintro e w9 h9;rcases h9.cases with⟨y9,u9,r9,rfl,b9,⟨V9,D9⟩,R9⟩|⟨u9,r9,rfl,b9⟩
    rotate_left 1
    · have bZ:=HB.out;go_wp2_with fail;exact⟨rfl,PE.no (fI HS r9) (bT.call (S':=fun k=>k<w.heap.size/\¬k=g) qe b9 (fun k hk hs=>⟨hk,hs⟩))⟩
    exact zzb
end
end Ps
namespace Ps
open Go.RowKit
open Lx (bs mt uk gu kL gF AU GG)
open Ex (Lo)
open Md (Rw bX dM lN dX jS AJ)
def nM:dM:=⟨mt,[],[],[]⟩
def NH:lN:=⟨X,0,0,X,0,0,X,0,0⟩
def En (s:List UInt8):dM×Int×Int:=zF nM JH AJ s
theorem TK {G:Nat->Prop} {w:af}:jS G w nM NH:=⟨Rw.nil,Rw.nil,Rw.nil⟩
def MO (q:dM×Int×Int) (w:af) (e:Ending) (w':af):Prop:=Below w.heap.size w w'/\∃P,e=.returned (.tuple #[.agg (dX q.1 P),.int .i64 q.2.1,.int .i64 q.2.2])/\jS (fun b=>w.heap.size<=b) w' q.1 P
theorem MO.mk {q:dM×Int×Int} {w w':af} {x:dM} {P:lN} {a b:Int} (hq:q=(x,a,b)) (hb:Below w.heap.size w w') (hk:jS (fun b=>w.heap.size<=b) w' x P):MO q w (.returned (.tuple #[.agg (dX x P),.int .i64 a,.int .i64 b])) w':=by subst hq;exact⟨hb,P,rfl,hk⟩
theorem atn {p:Prop} (h:p:=by
 exact aco rfl _ _ w.heap.size 36 _ (0,0) _ rfl (mi Z.out rfl) underlying36 rfl dA rfl rfl
 ):p:=h
theorem auD {p:Prop} (h:p:=by have bZ:=HB.out;have q1:=hb2;have q:bT (fun k=>k<w.heap.size) _ w2:=bT.of q1;exact qe):p:=h
theorem auE {p:Prop} (h:p:=by have q1:=hb2;have q:bT (fun k=>k=w.heap.size+1) _ w2:=bT.of q1;exact qe):p:=h
theorem auF {p:Prop} (h:p:=by have q1:=hb2;have q:bT (fun k=>k=w.heap.size) _ w2:=bT.of q1;exact qe):p:=h
theorem auG {p:Prop} (h:p:=by have q1:=hb;have q:bT (fun k=>k=w.heap.size) _ w1:=bT.of q1;exact qe):p:=h
theorem anv (s:ByteArray) (w:af) (hs:s.size<=9223372036854775807) (hE:Nu.Env w):au ae 20 #[.string s,.func (.func 21) #[] #[],.func (.func 22) #[] #[]] w (MO (En (bs s)) w):=by
 have HE:Hid (∀W,Below w.heap.size w W->au ae 28 #[.string s] W (uk W (gu (bs s)) (kL (bs s)) (gF (bs s)))):=U fun W hW=>GG s W hs (hE.below hW);clear hE hs;have Z:=VS w;have n0:bX ((w.alloc (.cells #[.string ⟨#[]⟩,.slice X 0 0,.slice X 0 0,.slice X 0 0] 36)).alloc (.cells #[.string ⟨#[]⟩,.slice X 0 0,.slice X 0 0,.slice X 0 0] 36)) (w.heap.size+1) 36 #[.string ⟨#[]⟩,.slice X 0 0,.slice X 0 0,.slice X 0 0]:=by
  have h:=bX.new (w:=w.alloc (.cells #[.string ⟨#[]⟩,.slice X 0 0,.slice X 0 0,.slice X 0 0] 36)) (t:=36) (c:=#[.string ⟨#[]⟩,.slice X 0 0,.slice X 0 0,.slice X 0 0]);exact VV
 have N:=U n0;clear n0;obtain⟨E,rM⟩:∃E,gF (bs s)=E:=⟨_,rfl⟩
 obtain⟨q,hq⟩:∃q,En (bs s)=q:=⟨_,rfl⟩
 rw[rM] at HE;rw[hq];have gH:=U rM;have HQ:=U hq;clear rM hq;go_enter func20,ntmps20;go_wp2_with fail;refine(HE.out _ bl).mono ?_;rintro e w1 ⟨v1,rfl,ho,hb⟩;clear HE;replace Z:=U (cO (w2:=w1) Z.out auG);replace N:=U (cO (w2:=w1) N.out (by have q1:=hb;have q:bT (fun k=>k=w.heap.size+1) _ w1:=bT.of q1;exact qe));have HB:Hid (bT (fun k=>k<w.heap.size) w w1):=U Wi;have HO:=U ho;have hz:=Z.out.lt;have hn:=N.out.lt;clear hb ho;by_cases h0:E=0
 · have b0:(E != 0)=false:=by simp[h0]
   subst h0;obtain⟨hgd,ku⟩:=MW gH.out;obtain⟨p,c,rfl,ht,hc,hp⟩:=AU HO.out;have hne:=hgd.ne;obtain⟨g,rfl,hg⟩:∃g,p=aj ⟨g,0,X⟩/\w.heap.size<=g:=by
    rcases hp with⟨-,h⟩|⟨g,h,h2⟩
    · omega
    · exact⟨g,h,by simp at h2;omega⟩
   have HT:=U ht;have HG:=U hgd;have HF:=U ku;clear ht hgd ku hc hp hg hne HO;go_wp2_with fail;refine(ajR 21 JH ⟨g,0,(gu (bs s)).length,c,gu (bs s)⟩ w1 (fun _ _=>rfl) HT.out HG.out HF.out (fun g W hR=>alK W hR)).mono ?_;rintro e w2 h2;obtain⟨hb2,⟨x2,u2,v2,r2,rfl,V2⟩|⟨u2,r2,rfl⟩⟩:=h2.cases
   · obtain⟨c2,rfl,P2,rfl,k2⟩:=V2;have hsz:=alH HG.out HF.out r2;have HX:Hid ((AJ x2=0->q=(x2,0,0))/\(¬AJ x2=0->q=(nM,0,AJ x2))):=U ⟨fun h=>HQ.out.symm.trans (acd gH.out r2 h),fun h=>HQ.out.symm.trans (ab_ gH.out r2 h)⟩;have HC:=U (fun W (hI:jS (Lo W.heap.size) W x2 P2)=>Md.oC Md.alf x2 P2 W hI hsz.z);replace Z:=U (cO (w2:=w2) Z.out auF);replace N:=U (cO (w2:=w2) N.out auE);replace HB:Hid (bT (fun k=>k<w.heap.size) w w2):=U auD;have KX:Hid (jS (fun b=>w.heap.size+1<b) w2 x2 P2):=U (k2.map (Nat.le_refl _) fun b hb hlt=>⟨by
      have hb':w1.heap.size<=b:=hb
      show w.heap.size+1<b
      omega,rfl⟩)
     have Y:=U (bX.new (w:=w2) (t:=36) (c:=dX x2 P2));have hs2:w1.heap.size<=w2.heap.size:=hb2.size;clear h2 r2 hb2 hsz k2 HQ gH HT HG HF;obtain⟨V,hV⟩:∃V,AJ x2=V:=⟨_,rfl⟩
     rw[hV] at HX HC;clear hV;dsimp only [dX] at Y ⊢;obtain⟨l0,l1,l2,l3,-⟩:=df Y.out;go_wp2_with fail;refine(HC.out _ (jS.all (KX.out.map (H:=fun b=>w.heap.size+1<b) cz (fun b hb hlt=>⟨hb,by show(w2.heap.push _)[b]?=_;rw[Array.getElem?_push,if_neg bU]⟩)))).mono ?_;rintro e w3 ⟨rfl,hb3⟩;clear l0 l1 l2 l3 HC;replace Z:=U (cO (w2:=w3) Z.out (by have q1:=hb3;have q:bT (fun k=>k=w.heap.size) _ w3:=bT.of q1;exact qe));replace N:=U (cO (w2:=w3) N.out (by have q1:=hb3;have q:bT (fun k=>k=w.heap.size+1) _ w3:=bT.of q1;exact qe));replace HB:Hid (bT (fun k=>k<w.heap.size) w w3):=U Wh;replace Y:=U (cO (w2:=w3) Y.out (by have q1:=hb3;have q:bT (fun k=>k=w2.heap.size) _ w3:=bT.of q1;exact qe));have KK:Hid (jS (fun b=>w.heap.size+1<b) w3 x2 P2):=U (by
      have q1:=hb3;have q:bT (fun b=>w.heap.size+1<b) w2 w3:=by
       have q2:bT (fun b=>w.heap.size+1<b) _ w3:=bT.of q1;exact qe
      exact KX.out.map q.size (fun b hb hlt=>⟨hb,q.block b hlt hb⟩))
     have hs3:=Y.out.lt;clear hb3 KX;by_cases h1:V=0
     · have b1:(V != 0)=false:=by simp[h1]
       have hx:=U (HX.out.1 h1);clear h1 HX;obtain⟨l0,l1,l2,l3,-⟩:=df Y.out;obtain⟨y0,y1,y2,y3,fz⟩:=df Z.out;go_wp2_with fail;have q:∀W,bT (fun b=>w.heap.size+1<b) w3 W->jS (fun b=>w.heap.size<=b) W x2 P2:=fun W q=>KK.out.map q.size (fun b hb hlt=>⟨by show w.heap.size<=b;have hb':w.heap.size+1<b:=hb;omega,q.block b hlt hb⟩);refine ah (v:=.tuple #[.agg (dX x2 P2),.int .i64 0,.int .i64 0]) ?_ rfl (MO.mk hx.out (lU qh) (q _ qe));exact atn
     · have b1:(V != 0)=true:=by simp[h1]
       have hx:=U (HX.out.2 h1);clear h1 HX;obtain⟨l0,l1,l2,l3,-⟩:=df N.out;obtain⟨y0,y1,y2,y3,fz⟩:=df Z.out;go_wp2_with fail;refine ah (v:=.tuple #[.agg (dX nM NH),.int .i64 0,.int .i64 V]) ?_ rfl (MO.mk hx.out (lU qh) (TK));exact atn
   · have HX:=U (HQ.out.symm.trans (acb gH.out r2));replace Z:=U (cO (w2:=w2) Z.out auF);replace N:=U (cO (w2:=w2) N.out auE);replace HB:Hid (bT (fun k=>k<w.heap.size) w w2):=U auD;clear h2 r2 hb2 HQ gH HT HG HF;replace Z:=U (cO (w2:=w2.alloc (.cells #[.string ⟨#[]⟩,.slice X 0 0,.slice X 0 0,.slice X 0 0] 36)) Z.out qe);replace N:=U (cO (w2:=w2.alloc (.cells #[.string ⟨#[]⟩,.slice X 0 0,.slice X 0 0,.slice X 0 0] 36)) N.out qe);obtain⟨l0,l1,l2,l3,-⟩:=df N.out;obtain⟨y0,y1,y2,y3,fz⟩:=df Z.out;go_wp2_with fail;refine ah (v:=.tuple #[.agg (dX nM NH),.int .i64 (hd u2).l,.int .i64 9]) ?_ rfl (MO.mk HX.out (lU qh) (TK));exact atn
 · have b0:(E != 0)=true:=by simp[h0]
   have HX:=U (HQ.out.symm.trans (aca (by rw[gH.out];exact h0)));clear h0 HO;obtain⟨l0,l1,l2,l3,-⟩:=df N.out;obtain⟨y0,y1,y2,y3,fz⟩:=df Z.out;go_wp2_with fail;refine ah (v:=.tuple #[.agg (dX nM NH),.int .i64 (kL (bs s):Int),.int .i64 E]) ?_ rfl (MO.mk (by rw[HX.out,gH.out]) (lU qh) (TK));exact atn
theorem amI (s:ByteArray) (w:af) (hs:s.size<=9223372036854775807) (hE:Nu.Env w):au ae 8 #[.string s] w (MO (En (bs s)) w):=by
 have HC:=U (fun W (hW:Nu.Env W)=>anv s W hs hW);have HE:=U hE;obtain⟨⟨x,a,b⟩,hq⟩:∃q,En (bs s)=q:=⟨_,rfl⟩
 rw[hq] at HC ⊢;clear hE hs hq;have Z:=VS w;go_enter func8,ntmps8;go_wp2_with fail;refine(HC.out _ (HE.out.below bl)).mono ?_;rintro e w1 ⟨hb,P,rfl,hk⟩;have HB:=U hb;have HK:=U hk;replace Z:=U (cO (w2:=w1) Z.out auG);clear hb hk HC;dsimp only [dX];obtain⟨y0,y1,y2,y3,fz⟩:=df Z.out;go_wp2_with fail;have HBE:Hid (bT (fun k=>k<w.heap.size) w w1):=U (by have q:bT (fun k=>k<w.heap.size) _ w1:=bT.of HB.out;exact qe);have qW:∀W,bT (fun k=>¬k=w.heap.size) w1 W->jS (fun b=>w.heap.size<=b) W x P:=fun W q=>HK.out.map q.size fun b hb hlt=>by
  have hb':_<=b:=hb;simp at hb'
  exact⟨by show w.heap.size<=b;omega,q.block b hlt bU⟩
 refine ah (v:=.tuple #[.agg (dX x P),.int .i64 a,.int .i64 b]) ?_ rfl (MO.mk rfl (lU (by have bZ:=HBE.out;exact qe)) (qW _ qe));exact atn
end Ps
namespace Ps
open Go.RowKit
open Lx (jg)
open Sm (St dE cs)
open Md (bX)
theorem acp {P:Program} {fn:Func} {p q u:Tmp} (h:fn.results=#[.tmp p,.cell q 3,.tmp u]) (tmps:Array ak) (w:af) (k:Nat) (v:ak) (hq:tmps.getD q undef=.pointer (aj ⟨k,0,X⟩)) (hk:(loadVar 3 ⟨k,0,X⟩).run P w=.ok v w) {a b:ak} (ea:tmps.getD p undef=a) (eb:tmps.getD u undef=b):(results fn tmps).run P w=.ok (.tuple #[a,v,b]) w:=by
 have hq':tmps[q]?.getD undef=.pointer (aj ⟨k,0,X⟩):=by simpa using hq
 subst ea eb;simp[results,h,hq',asAddr,hk]
theorem ahk (p:Addr) (x n:Int) (older:List PanicEntry) (w:af) (hc:w.cell? p=aj (.int .i64 x)) (hz:w.frozen? p=false):CallsD ae 101 #[.pointer (aj p)] (.panicking ({ v:=.iface 120 (.agg #[.int .i64 n]),recovered:=false }::older)) w fun e u' w'=>e=.returned (.tuple #[])/\u'=.panicking ({ v:=.iface 120 (.agg #[.int .i64 n]),recovered:=true }::older)/\w'=(w.alloc (.cells #[.int .i64 n] 120)).setCell p (.int .i64 n):=by
 refine callsD_of_wpS func101 rfl fun c₀ cs hu=>?_;have xK:(Instr.typeAssert (Value.iface 120 (Value.agg #[Value.int IntKind.i64 n])) 20 120 true).run ae w=.ok (.tuple #[.agg #[.int .i64 n],.bool true]) w:=by kernel_rfl
 have hlt:p.block<w.heap.size:=by
  exact WB
 have hbb:(w.alloc (.cells #[.int .i64 n] 120)).heap[p.block]?=w.heap[p.block]?:=by
  exact afd
 have h1:(w.alloc (.cells #[.int .i64 n] 120)).cell? ⟨w.heap.size,0,X⟩=aj (.int .i64 n):=by rw[World.cell?_alloc_mark];rfl
 have h2:(w.alloc (.cells #[.int .i64 n] 120)).cell? p=aj (.int .i64 x):=(World.cell?_of_block hbb).trans hc;have h3:(w.alloc (.cells #[.int .i64 n] 120)).frozen? p=false:=by unfold World.frozen? at hz ⊢; rw[hbb];exact hz
 apply wpS_seq
 apply wpS_region
 simp[wpOpsS,go_sem,recoverD,hu,ntmps101,Exit.thenS,xK]
 apply wpS_seq
 apply wpS_region
 simp[wpOpsS,go_sem,Exit.thenS]
 refine wpS_cond (t:=true) Hq ?_;simp only[if_true]
 apply wpS_region
 simp[wpOpsS,go_sem,h1,h2,h3,bodyPostS,results,results101]
theorem ahj (p:Addr) (w:af):CallsD ae 101 #[.pointer (aj p)] .returning w fun e u' w'=>e=.returned (.tuple #[])/\u'=.returning/\w'=w.alloc (.cells #[.int .i64 0] 120):=by
 refine callsD_of_wpS func101 rfl fun c₀ cs hu=>?_;have xK:(Instr.typeAssert Value.nilIface 20 120 true).run ae w=.ok (.tuple #[.agg #[.int .i64 0],.bool false]) w:=by kernel_rfl
 apply wpS_seq
 apply wpS_region
 simp[wpOpsS,go_sem,recoverD,hu,ntmps101,Exit.thenS,xK]
 apply wpS_seq
 apply wpS_region
 simp[wpOpsS,go_sem,Exit.thenS]
 refine wpS_cond (t:=false) Hq ?_;simp only[Bool.false_eq_true,if_false];refine wpS_of_wp (wp_skip ?_);cases c₀
 simp_all [bodyPostS,results,results101]
theorem ajS (f:FuncId) (m:P (List St)) (L:Lk) (w:af) (hf:∀(a:Array ak) (W:af),(callFunc f a).run ae W=.ok (.enter f a) W) (ht:jg w (aj ⟨L.b,L.o,X⟩) L.m L.l) (hgd:Gd L.l) (ku:L.l.length<=30000) (hC:∀g W,Rd L g L.l W->au ae f #[.pointer (aj ⟨g,0,X⟩)] W (PE g Bu (run m L.l) W)):au ae 55 #[.func (.func f) #[] #[],.slice (aj ⟨L.b,L.o,X⟩) L.m L.c] w (FO Bu (.slice X 0 0) (run m L.l) w):=by
 have HC:=U hC;have HT:=U ht;have HG:=U hgd;have HF:=U ku;obtain⟨r,hr⟩:∃r,run m L.l=r:=⟨_,rfl⟩
 rw[hr] at HC ⊢;clear hC ht hgd ku;have hmf:∀(fn:Fn) (first cap:Array ak) (w:af),(Instr.makeFunc fn first cap).run ae w=.ok (.func fn first cap) w:=fun _ _ _ _=>rfl;go_enter_defers func55,ntmps55
 go_wp2_with fail;have hlb:L.b<w.heap.size:=by
  exact Wz
 have N:=U (bX.new (w:=w) (t:=3) (c:=#[.int .i64 0]));have hnl:=N.out.lt;refine(HC.out (w.heap.size+1) _ (Uc rfl cz vD HT.out.alloc HG.out HF.out)).mono ?_;rintro e w1 h1;rcases h1.cases with⟨x1,u1,v1,r1,rfl,b1,V1⟩|⟨u1,r1,rfl,b1⟩
 · have N1:=U (cO (w2:=w1) N.out qe);have B1:Hid (bT (fun k=>k<w.heap.size) w w1):=U qe;have HK:=U r1;obtain⟨p1,m1,c1,rfl,k1⟩:=V1;have K1:Hid (dE (fun b=>w.heap.size<b) w1 x1 p1 m1):=U (k1.mono fun b hb hlt=>by
    have hb':_<=b:=hb;simp at hb'
    omega)
   clear b1 h1 r1 k1 N;have q0:ag _ ⟨_,0,X⟩=aj (.int .i64 0):=N1.out.get rfl;have qz:∀i,World.frozen? _ ⟨_,i,X⟩=false:=fun i=>eu (i:=i) N1.out;go_wp2_with fail;refine leaves_cons (f:=101) (args:=#[.pointer (aj ⟨w.heap.size,0,X⟩)]) cz (by simp[go_sem]) ?_;refine(ahj _ _).mono ?_;rintro e u' w'' ⟨rfl,rfl,rfl⟩;have BB:=B1.out;refine⟨_,acp rfl _ _ w.heap.size (.int .i64 0) rfl (Gi ?_) rfl rfl,?_⟩
   · have N4:=eX (i:=0) (v:=.int .i64 0) N1.out;exact(cO N4 qe).get (r:=0) rfl
   · have q:∀W,bT (fun b=>w.heap.size<b) w1 W->dE (fun b=>w.heap.size<=b) W x1 p1 m1:=fun W q=>Sm.dE.map q.size (fun b hb hlt=>⟨Nat.le_of_lt hb,q.block b hlt hb⟩) K1.out;exact FO.ok HK.out (lU qe) ⟨p1,m1,c1,rfl,q _ qe⟩
 · have N1:=U (cO (w2:=w1) N.out qe);have B1:Hid (bT (fun k=>k<w.heap.size) w w1):=U qe;have HK:=U r1;clear b1 h1 r1 N;go_wp2_with fail;refine leaves_cons (f:=101) (args:=#[.pointer (aj ⟨w.heap.size,0,X⟩)]) cz (by simp[go_sem]) ?_;refine(ahk _ 0 (hd u1).l [] _ (N1.out.get rfl) (eu N1.out)).mono ?_;rintro e u' w'' ⟨rfl,rfl,rfl⟩;refine⟨_,acp rfl _ _ w.heap.size (.int .i64 (hd u1).l) rfl (Gi ?_) rfl rfl,?_⟩
   · exact WC
   · exact afn
end Ps
namespace Ps
open Go.RowKit
open Lx (bs uk gu kL gF AU GG)
open Sm (St dE qB kT)
def Eo (s:List UInt8):List St×Int×Int:=zF [] JM kT s
def SO (q:List St×Int×Int) (w:af) (e:Ending) (w':af):Prop:=Below w.heap.size w w'/\∃p m c,e=.returned (.tuple #[.slice p m c,.int .i64 q.2.1,.int .i64 q.2.2])/\dE (fun b=>w.heap.size<=b) w' q.1 p m
theorem SO.mk {q:List St×Int×Int} {w w':af} {x:List St} {p:Option Addr} {m c:Nat} {a b:Int} (hq:q=(x,a,b)) (hb:Below w.heap.size w w') (hk:dE (fun b=>w.heap.size<=b) w' x p m):SO q w (.returned (.tuple #[.slice p m c,.int .i64 a,.int .i64 b])) w':=by subst hq;exact⟨hb,p,m,c,rfl,hk⟩
theorem auH {p:Prop} (h:p:=by have bZ:=HB.out;have q1:=hb2;have q:bT (fun k=>k<w.heap.size) _ w2:=bT.of q1;exact qe):p:=h
theorem anw (s:ByteArray) (w:af) (hs:s.size<=9223372036854775807) (hE:Nu.Env w):au ae 23 #[.string s,.func (.func 24) #[] #[],.func (.func 25) #[] #[]] w (SO (Eo (bs s)) w):=by
 have HE:Hid (∀W,Below w.heap.size w W->au ae 28 #[.string s] W (uk W (gu (bs s)) (kL (bs s)) (gF (bs s)))):=U fun W hW=>GG s W hs (hE.below hW);clear hE hs;obtain⟨E,rM⟩:∃E,gF (bs s)=E:=⟨_,rfl⟩
 obtain⟨q,hq⟩:∃q,Eo (bs s)=q:=⟨_,rfl⟩
 rw[rM] at HE;rw[hq];have gH:=U rM;have HQ:=U hq;clear rM hq;go_enter func23,ntmps23;go_wp2_with fail;refine(HE.out _ bl).mono ?_;rintro e w1 ⟨v1,rfl,ho,hb⟩;clear HE;have HB:Hid (bT (fun k=>k<w.heap.size) w w1):=U Wi;have HO:=U ho;have hs1:=hb.size;clear hb ho;by_cases h0:E=0
 · have b0:(E != 0)=false:=by simp[h0]
   subst h0;obtain⟨hgd,ku⟩:=MW gH.out;obtain⟨p,c,rfl,ht,hc,hp⟩:=AU HO.out;have hne:=hgd.ne;obtain⟨g,rfl,hg⟩:∃g,p=aj ⟨g,0,X⟩/\w.heap.size<=g:=by
    rcases hp with⟨-,h⟩|⟨g,h,h2⟩
    · omega
    · exact⟨g,h,by omega⟩
   have HT:=U ht;have HG:=U hgd;have HF:=U ku;clear ht hgd ku hc hp hg hne HO;go_wp2_with fail;refine(ajS 24 JM ⟨g,0,(gu (bs s)).length,c,gu (bs s)⟩ w1 (fun _ _=>rfl) HT.out HG.out HF.out (fun g W hR=>amn W hR)).mono ?_;rintro e w2 h2;obtain⟨hb2,⟨x2,u2,v2,r2,rfl,V2⟩|⟨u2,r2,rfl⟩⟩:=h2.cases
   · obtain⟨p2,m2,c2,rfl,k2⟩:=V2;obtain⟨hcnt,hsz⟩:=amg HG.out HF.out r2;have HX:Hid ((kT x2=0->q=(x2,0,0))/\(¬kT x2=0->q=([],0,kT x2))):=U ⟨fun h=>HQ.out.symm.trans (acd gH.out r2 h),fun h=>HQ.out.symm.trans (ab_ gH.out r2 h)⟩;have HC:=U (fun W (hI:qB W x2 p2 m2)=>Sm.oC x2 p2 m2 c2 W hI hsz);replace HB:Hid (bT (fun k=>k<w.heap.size) w w2):=U auH;have KX:Hid (dE (fun b=>w.heap.size<=b) w2 x2 p2 m2):=U (k2.mono fun b hb hlt=>by
      have hb':w1.heap.size<=b:=hb
      show w.heap.size<=b
      omega)
     have hs2:w1.heap.size<=w2.heap.size:=hb2.size;clear h2 r2 hb2 hcnt hsz k2 HQ gH HT HG HF;obtain⟨V,hV⟩:∃V,kT x2=V:=⟨_,rfl⟩
     rw[hV] at HX HC;clear hV;go_wp2_with fail;refine(HC.out _ KX.out.all).mono ?_;rintro e w3 ⟨rfl,hb3⟩;replace HB:Hid (bT (fun k=>k<w.heap.size) w w3):=U Wh;have KK:Hid (dE (fun b=>w.heap.size<=b) w3 x2 p2 m2):=U (JE KX.out (bT.of hb3));clear hb3 KX HC;by_cases h1:V=0
     · have b1:(V != 0)=false:=by simp[h1]
       have hx:=U (HX.out.1 h1);clear h1 HX;go_wp2_with fail;go_ret3
       exact SO.mk hx.out (lU HB.out) KK.out
     · have b1:(V != 0)=true:=by simp[h1]
       have hx:=U (HX.out.2 h1);clear h1 HX;go_wp2_with fail;go_ret3
       exact SO.mk hx.out (lU HB.out) Sm.dE.nil
   · have HX:=U (HQ.out.symm.trans (acb gH.out r2));replace HB:Hid (bT (fun k=>k<w.heap.size) w w2):=U auH;clear h2 r2 hb2 HQ gH HT HG HF;go_wp2_with fail;go_ret3
     exact SO.mk HX.out (lU HB.out) Sm.dE.nil
 · have b0:(E != 0)=true:=by simp[h0]
   have HX:=U (HQ.out.symm.trans (aca (by rw[gH.out];exact h0)));clear h0 HO;go_wp2_with fail;go_ret3
   exact SO.mk (by rw[HX.out,gH.out]) (lU HB.out) Sm.dE.nil
theorem apG (s:ByteArray) (w:af) (hs:s.size<=9223372036854775807) (hE:Nu.Env w):au ae 9 #[.string s] w (SO (Eo (bs s)) w):=by
 have HC:=U (fun W (hW:Nu.Env W)=>anw s W hs hW);have HE:=U hE;obtain⟨⟨x,a,b⟩,hq⟩:∃q,Eo (bs s)=q:=⟨_,rfl⟩
 rw[hq] at HC ⊢;clear hE hs hq;go_enter func9,ntmps9;go_wp2_with fail;refine(HC.out _ (HE.out.below bl)).mono ?_;rintro e w1 ⟨hb,p,m,c,rfl,hk⟩;have HB:=U hb;have HK:=U hk;clear hb hk HC;go_wp2_with fail;go_ret3
 exact⟨by have q:=HB.out;exact bl,p,m,c,rfl,HK.out⟩
end Ps
namespace Ps
open Lx (bs mt)
open Ex (Ex)
open Sm (St zD)
open Md (dM)
def Ar:Ex:=.mk 16 mt 0 [.mk 5 mt 0 [fo 1 3],.mk 10 mt 0 [.mk 10 mt 0 [fo 1 1,fo 1 2],uQ 3 ⟨#[120]⟩]]
def Au:Ex:=.mk 7 mt 0 [.mk 5 mt 0 [fo 1 3]]
def BF:Ex:=fo 1 (-3)
def Zu:dM:=⟨⟨#[109]⟩,[],[Cf ⟨#[97]⟩],[]⟩
def MF:List St:=[.mk 6 ⟨#[114]⟩ mt (fo 1 2) (fo 1 1) [] zD true [] []]
theorem ank:nD (bs ⟨#[49,32,45,32,50,32,45,32,120,32,62,32,45,51]⟩)=(Ar,0,0):=by kernel_rfl
theorem anl:nD (bs ⟨#[100,117,114,40,45,51,41]⟩)=(Au,0,0):=by kernel_rfl
theorem rd_c:nD (bs ⟨#[40,45,51,41]⟩)=(BF,0,0):=by kernel_rfl
theorem anm:nD (bs ⟨#[97,32,60,32,98,32,60,32,99]⟩)=(nX,1,9):=by kernel_rfl
theorem ann:En (bs ⟨#[109,111,100,101,108,32,109,10,115,105,116,101,32,97,10,101,110,100,10,101,110,100,10]⟩)=(Zu,0,0):=by kernel_rfl
theorem ano:En (bs ⟨#[109,111,100,101,108,32,109,10,115,105,116,101,32,105,102,10,101,110,100,10,101,110,100,10]⟩)=(nM,2,9):=by kernel_rfl
theorem anp:Eo (bs ⟨#[104,111,108,100,32,100,117,114,40,50,41,10,104,111,108,100,32,104,111,108,100,10]⟩)=([],2,9):=by kernel_rfl
theorem anq:Eo (bs ⟨#[115,101,105,122,101,32,114,32,50,32,112,114,105,111,32,49,32,112,114,101,101,109,112,116]⟩)=(MF,0,0):=by kernel_rfl
end Ps
namespace Ex
open Go.RowKit
open Na (bs)
theorem aok (l:List Ex) (ih:∀x∈l,∀(y:Ex) (p:Option Addr) (m c:Nat) (p2:Option Addr) (m2 c2:Nat) (w:af),In w x p m->In w y p2 m2->au ae 7 #[.agg #[.int .i64 x.o,.string x.s,.int .i64 x.n,.slice p m c],.agg #[.int .i64 y.o,.string y.s,.int .i64 y.n,.slice p2 m2 c2]] w (Gives (.bool (same x y)) w))
 (l2:List Ex) (p:Option Addr) (m c:Nat) (p2:Option Addr) (m2 c2:Nat) (w:af) (h:In w (.mk 0 nE 0 l) p m) (h2:In w (.mk 0 nE 0 l2) p2 m2) :
 au ae 19 #[.slice p m c,.slice p2 m2 c2] w (Gives (.bool (jY l l2)) w):=by
 have HH:=U h;have xg:=U h2;have HI:=U ih;obtain⟨hl,hm⟩:=h.len;obtain⟨hl2,hm2⟩:=h2.len;have HL:=U hl;have HL2:=U hl2;clear ih h h2 hl hl2;by_cases hmm:m=m2
 · subst hmm;go_enter func19,ntmps19;go_wp2_with fail;go_loopw [5] (fun i wr=>∃k:Nat,k<=m/\Hid (l.take k=l2.take k)/\i=.int .i64 (k:Nat)/\Hid (Below w.heap.size w wr)) (fun i _=>m-(intOf i).toNat)
   case atStart=>exact⟨0,Nat.zero_le _,U rfl,rfl,U bl⟩
   case round=>
    obtain⟨k,hk,HT0,rfl,HW⟩:=hrel;have k0:(0:Int)<=(k:Int):=by omega
    rcases Nat.lt_or_ge k m with h|h
    · have k1:(k:Int)<(m:Int):=by omega
      obtain⟨b,o',rfl,-,hG,hcell⟩:=HH.out.kids bU;have hkl:k<l.length:=by rw[HL.out];omega
      obtain⟨q,j,c',hc4,dP⟩:=hcell.out k hkl;have hmem:l[k]∈l:=List.getElem_mem hkl;have hgx:l[k]?=aj l[k]:=ai hkl;obtain⟨x,hx⟩:∃x,l[k]=x:=⟨_,rfl⟩
      rw[hx] at hc4 dP hmem hgx;obtain⟨e0,e1,e2,e3⟩:=hc4.on HW.out hG;have ng:=U dP;have HX:=U hgx;have HM:=U hmem;clear hcell hc4 dP hx hmem hgx hkl;obtain⟨b',o'',rfl,-,hG',hcell'⟩:=xg.out.kids bU;have oG:k<l2.length:=by rw[HL2.out];omega
      obtain⟨q',j',c'',xF,xG⟩:=hcell'.out k oG;have xH:l2[k]∈l2:=List.getElem_mem oG;have hgx2:l2[k]?=aj l2[k]:=ai oG;obtain⟨y,hy⟩:∃y,l2[k]=y:=⟨_,rfl⟩
      rw[hy] at xF xG xH hgx2;obtain⟨f0,f1,f2,f3⟩:=xF.on HW.out hG';have Lh:=U xG;have iX:=U hgx2;have WO:=U xH;clear hcell' xF xG hy xH hgx2 oG;have HS:=U (Um HX.out iX.out);have HE:=U (take_same HX.out iX.out);have HI1:=U (fun W=>HI.out x HM.out y q j c' q' j' c'' W);obtain⟨E,hE⟩:∃E,same x y=E:=⟨_,rfl⟩
      exact zz5
    · exact afv
 · rw[Ul Ht];have t1:((m:Int)==(m2:Int))=false:=beq_eq_false_iff_ne.2 bU;have t2:((m:Int) != (m2:Int))=true:=bne_iff_ne.2 bU;clear hmm;go_enter func19,ntmps19;exact dS
theorem atW {p:Prop} (h:p:=by
 go_enter func7,ntmps7;exact dS
 ):p:=h
theorem Gv (e:Ex):∀(y:Ex) (p:Option Addr) (m c:Nat) (p2:Option Addr) (m2 c2:Nat) (w:af),In w e p m->In w y p2 m2->au ae 7 #[.agg #[.int .i64 e.o,.string e.s,.int .i64 e.n,.slice p m c],.agg #[.int .i64 y.o,.string y.s,.int .i64 y.n,.slice p2 m2 c2]] w (Gives (.bool (same e y)) w):=by
 induction e using Ex.ind with
 | h o s n l ih=>
  intro y p m c p2 m2 c2 w h h2;obtain⟨o2,s2,n2,l2⟩:=y;have HE:=U fun W=>aok l ih l2 p m c p2 m2 c2 W;have HH:=U (h.any (o2:=0) (n2:=0) (s2:=nE));have xg:=U (h2.any (o2:=0) (n2:=0) (s2:=nE));rw[acO];simp only[Ex.o,Ex.s,Ex.n];clear h h2 ih;by_cases t1:o=o2
  · by_cases t2:bs s=bs s2
    · by_cases t3:n=n2
      · rw[decide_eq_true t1,decide_eq_true t2,decide_eq_true t3,Bool.true_and,Bool.true_and,Bool.true_and];have u2:=nS t2;subst t1 t3;clear t2;obtain⟨E,hE⟩:∃E,jY l l2=E:=⟨_,rfl⟩
        rw[hE] at HE ⊢;clear hE;go_enter func7,ntmps7;go_wp2_with fail;refine(HE.out _ (HH.out.on bl) (xg.out.on bl)).mono ?_;exact CJ
      · rw[decide_eq_true t1,decide_eq_true t2,decide_eq_false t3,Bool.true_and,Bool.true_and,Bool.false_and];have u2:=nS t2;subst t1;clear t2;exact atW
    · rw[decide_eq_true t1,decide_eq_false t2,Bool.true_and,Bool.false_and,Bool.false_and];have u2:=pE t2;subst t1;clear t2;exact atW
  · rw[decide_eq_false t1,Bool.false_and,Bool.false_and,Bool.false_and];exact atW
end Ex
namespace Sm
open Go.RowKit
open Ex (Ex In Gives)
attribute [local go_sem] cs0 cs1 cs2 wo wu wy wB wC wD wE vQ vR vS vT vU vV vW vX vY vZ v_
theorem anG (l:List Ex)
 (l2:List Ex) (p:Option Addr) (m c:Nat) (p2:Option Addr) (m2 c2:Nat) (w:af) (h:In w (.mk 0 nE 0 l) p m) (h2:In w (.mk 0 nE 0 l2) p2 m2) :
 au ae 26 #[.slice p m c,.slice p2 m2 c2] w (Gives (.bool (Ex.jY l l2)) w):=by
 have HH:=U h;have xg:=U h2;obtain⟨hl,hm⟩:=h.len;obtain⟨hl2,hm2⟩:=h2.len;have HL:=U hl;have HL2:=U hl2;clear h h2 hl hl2;by_cases hmm:m=m2
 · subst hmm;go_enter func26,ntmps26;go_wp2_with fail;go_loopw [5] (fun i wr=>∃k:Nat,k<=m/\Hid (l.take k=l2.take k)/\i=.int .i64 (k:Nat)/\Hid (Below w.heap.size w wr)) (fun i _=>m-(intOf i).toNat)
   case atStart=>exact⟨0,Nat.zero_le _,U rfl,rfl,U bl⟩
   case round=>
    obtain⟨k,hk,HT0,rfl,HW⟩:=hrel;have k0:(0:Int)<=(k:Int):=by omega
    rcases Nat.lt_or_ge k m with h|h
    · have k1:(k:Int)<(m:Int):=by omega
      obtain⟨b,o',rfl,-,hG,hcell⟩:=HH.out.kids bU;have hkl:k<l.length:=by rw[HL.out];omega
      obtain⟨q,j,c',hc4,dP⟩:=hcell.out k hkl;have hmem:l[k]∈l:=List.getElem_mem hkl;have hgx:l[k]?=aj l[k]:=ai hkl;obtain⟨x,hx⟩:∃x,l[k]=x:=⟨_,rfl⟩
      rw[hx] at hc4 dP hmem hgx;obtain⟨e0,e1,e2,e3⟩:=hc4.on HW.out hG;have ng:=U dP;have HX:=U hgx;have HM:=U hmem;clear hcell hc4 dP hx hmem hgx hkl;obtain⟨b',o'',rfl,-,hG',hcell'⟩:=xg.out.kids bU;have oG:k<l2.length:=by rw[HL2.out];omega
      obtain⟨q',j',c'',xF,xG⟩:=hcell'.out k oG;have xH:l2[k]∈l2:=List.getElem_mem oG;have hgx2:l2[k]?=aj l2[k]:=ai oG;obtain⟨y,hy⟩:∃y,l2[k]=y:=⟨_,rfl⟩
      rw[hy] at xF xG xH hgx2;obtain⟨f0,f1,f2,f3⟩:=xF.on HW.out hG';have Lh:=U xG;have iX:=U hgx2;have WO:=U xH;clear hcell' xF xG hy xH hgx2 oG;have HS:=U (Ex.Um HX.out iX.out);have HE:=U (Ex.take_same HX.out iX.out);have HI1:=U (fun W=>Ex.Gv x y q j c' q' j' c'' W);obtain⟨E,hE⟩:∃E,Ex.same x y=E:=⟨_,rfl⟩
      exact zz5
    · obtain rfl:m=k:=by omega
      have HR:Hid (Ex.jY l l2=true):=U (by
       have h1:=HT0.out;rw[List.take_of_length_le t_,List.take_of_length_le (by rw[HL2.out];exact Nat.le_refl _)] at h1;rw[h1];exact Ex.J6 _)
      exact K7
 · rw[Ex.Ul Ht];have t1:((m:Int)==(m2:Int))=false:=beq_eq_false_iff_ne.2 bU;have t2:((m:Int) != (m2:Int))=true:=bne_iff_ne.2 bU;clear hmm;go_enter func26,ntmps26;exact dS
end Sm
end Go.Proofs.YthnillhnjhalmaaGreatDoor
