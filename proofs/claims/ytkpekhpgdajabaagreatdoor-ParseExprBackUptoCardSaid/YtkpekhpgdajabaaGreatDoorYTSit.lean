/-
  Parts of this proof: The contract of the reader's site. The contract of the reader's part of a model. The contract of the reader's model. The tokens of a text, as a list that a reader re. The contract of Model. The contract of follow for statements.
-/
import Derived.Test.YtkpekhpgdajabaaGreatDoorYTSzM
open Go.Proofs.Tryz
open Option renaming none->U,some->ai
open Go.Lib renaming hid->X
open Go.World renaming cell?->ae
open Go renaming World->af,bodyPost_ret->ah,Value->aj
open Go.Proofs.Tryz renaming prog->ag
set_option linter.unusedVariables false
set_option maxRecDepth 100000
set_option maxHeartbeats 16000000
open Go.Lib (hid)
namespace Go.Proofs.YtkpekhpgdajabaaGreatDoor
namespace Ps
open Ps.P (rt bd len)
open Go.RowKit
open Lx (Tk)
open Md
def F8 (z:Nat):(Nat->Prop)->af->Prop:=fun G w=>G z/\bU w z 54 #[.string ⟨#[]⟩,.slice U 0 0,.slice U 0 0,.slice U 0 0,.slice U 0 0,.slice U 0 0,.slice U 0 0,.slice U 0 0,.slice U 0 0,.slice U 0 0,.slice U 0 0,.slice U 0 0,.slice U 0 0]
theorem Uv (z:Nat):Mv (F8 z):=yG
structure aeq (L:Lk) (g:Nat) (r:R cz) (K:cz->P cz) (B:Nat) (w:af) (k:Nat) (wr:af):Prop where
 ex:∃x V d u,run (bd (yQ k x) K) u=r/\u.length<k/\jT x d/\d+u.length<=30001/\pF (F8 w.heap.size) w.heap.size B x V wr/\Rd L g u wr
 bt:Bt g w wr
theorem qY {α:Type} {T:TypeId} {k:Nat} {R:Rec α} {G:Nat->Prop} {w:af} {v:aj} {l:List α} (hm:fe R) (hs:g_ k R) (h:bZ T k R G w v l) (hn:l.length<=1000000):∃p m c,v=.slice p m c/\Rw k R G w l p m:=by
 obtain⟨p,c,h1,h2⟩:=h.rw hm hs hn;exact⟨p,_,c,h1,h2⟩
theorem anZ {z lo B d:Nat} {x:cz} {V:Nat->aj} {w:af} (h:pF (F8 z) lo B x V w) (hd:jT x d) (hdl:d<=30001):∃P,bU w B 54 (b_ x P)/\bU w z 54 #[.string ⟨#[]⟩,.slice U 0 0,.slice U 0 0,.slice U 0 0,.slice U 0 0,.slice U 0 0,.slice U 0 0,.slice U 0 0,.slice U 0 0,.slice U 0 0,.slice U 0 0,.slice U 0 0,.slice U 0 0]/\iL (fun k=>lo<=k/\¬k=z/\¬k=B) w x P:=by
 have hm:=SY (Uv z) x V;have h0:∀G,jJ (F8 z) x V 0 G w->G z:=fun G h=>h.1;have Z0:=h.part hm 0;obtain⟨p1,m1,c1,e1,r1⟩:=qY ik.map MF (h.off hm h0 (j:=1) bR) (by have:=hd.va.len;omega);obtain⟨p2,m2,c2,e2,r2⟩:=qY iO.map abp (h.off hm h0 (j:=2) bR) (by have:=hd.rs.len;omega);obtain⟨p3,m3,c3,e3,r3⟩:=qY jY.map abw (h.off hm h0 (j:=3) bR) (by have:=hd.st.len;omega);obtain⟨p4,m4,c4,e4,r4⟩:=qY jX.map abk (h.off hm h0 (j:=4) bR) (by have:=hd.be.len;omega);obtain⟨p5,m5,c5,e5,r5⟩:=qY dU.map yO (h.off hm h0 (j:=5) bR) (by have:=hd.qu.len;omega);obtain⟨p6,m6,c6,e6,r6⟩:=qY dU.map yO (h.off hm h0 (j:=6) bR) (by have:=hd.sm.len;omega);obtain⟨p7,m7,c7,e7,r7⟩:=qY dU.map yO (h.off hm h0 (j:=7) bR) (by have:=hd.ta.len;omega);obtain⟨p8,m8,c8,e8,r8⟩:=qY dU.map yO (h.off hm h0 (j:=8) bR) (by have:=hd.le.len;omega);obtain⟨p9,m9,c9,e9,r9⟩:=qY dU.map yO (h.off hm h0 (j:=9) bR) (by have:=hd.co.len;omega);obtain⟨o8,m10,c10,e10,xA⟩:=qY gU.map abq (h.off hm h0 (j:=10) bR) (by have:=hd.ro.len;omega);obtain⟨Ff,m11,c11,e11,Fq⟩:=qY kN.map abt (h.off hm h0 (j:=11) bR) (by have:=hd.ss.len;omega);obtain⟨IG,m12,c12,e12,r12⟩:=qY kL.map abn (h.off hm h0 (j:=12) bR) (by have:=hd.la.len;omega);have hb:=h.box;rw[e1,e2,e3,e4,e5,e6,e7,e8,e9,e10,e11,e12] at hb;exact⟨⟨p1,m1,c1,p2,m2,c2,p3,m3,c3,p4,m4,c4,p5,m5,c5,p6,m6,c6,p7,m7,c7,p8,m8,c8,p9,m9,c9,o8,m10,c10,Ff,m11,c11,IG,m12,c12⟩,hb,Z0.2,⟨r1,r2,r3,r4,r5,r6,r7,r8,r9,xA,Fq,r12⟩⟩
section
variable {L:Lk} {g:Nat} {t:List Tk}
theorem ML (w:af) (hR:Rd L g t w):Calls ag 84 #[.pointer (ai ⟨g,0,U⟩)] w (PO L g (VR gK) (run sit t) w):=by
 have HN:Hid (∀x v,run xc t=.ok x v->x.size<=20000/\v.length<=30000):=X fun x v h=>by
  obtain⟨h1,d,h2,h3⟩:=Cj.out hR.gd h;exact⟨h3,by have:=hR.small;omega⟩
 refine eQ hR ?_;clear hR;intro r HS HR HB hg;have Z:=X (bU.new (w:=w) (t:=54) (c:=#[.string ⟨#[]⟩,.slice U 0 0,.slice U 0 0,.slice U 0 0,.slice U 0 0,.slice U 0 0,.slice U 0 0,.slice U 0 0,.slice U 0 0,.slice U 0 0,.slice U 0 0,.slice U 0 0,.slice U 0 0]));go_enter func84,ntmps84;go_wp2_with fail;refine po HS HB (E_ _ (HR.out.low qe)) ?_;clear HS HB HR;rintro x1 u1 v1 w1 r1 HS b1 rfl HR HB;have zf:=X (HN.out _ _ r1);replace Z:=bV Z w1;clear b1 r1;have hz1:=Z.out.lt;have hd1:Hid (pF (F8 w.heap.size) w.heap.size w1.heap.size (Bj x1) (fun _=>.slice U 0 0) (w1.alloc (.cells #[.string x1,.slice U 0 0,.slice U 0 0,.slice U 0 0,.slice U 0 0,.slice U 0 0,.slice U 0 0,.slice U 0 0,.slice U 0 0,.slice U 0 0,.slice U 0 0,.slice U 0 0,.slice U 0 0] 54))):=X (gJ.new bU.new (Nat.le_of_lt hz1) ⟨⟨Nat.le_refl _,by omega⟩,cZ Z.out qe⟩ yG fun j hj G=>(match j,hj with|1,_=>bZ.nil|2,_=>bZ.nil|3,_=>bZ.nil|4,_=>bZ.nil|5,_=>bZ.nil|6,_=>bZ.nil|7,_=>bZ.nil|8,_=>bZ.nil|9,_=>bZ.nil|10,_=>bZ.nil|11,_=>bZ.nil|12,_=>bZ.nil|n+13,_=>trivial));obtain⟨K,hK⟩:∃K:cz->P cz,(fun x=>bd fV fun _=>rt x)=K:=⟨_,rfl⟩
 have HK:=X hK;replace HS:Hid (run (bd (yQ FU (Bj x1)) K) u1=r):=X (by rw[← hK];exact HS.out);clear hK Z HN;go_wp2_with (refine acj 54 13 JX.2 rfl _ _ rfl _ #[.string x1,.slice U 0 0,.slice U 0 0,.slice U 0 0,.slice U 0 0,.slice U 0 0,.slice U 0 0,.slice U 0 0,.slice U 0 0,.slice U 0 0,.slice U 0 0,.slice U 0 0,.slice U 0 0] rfl rfl rfl rfl (by simp[Value.oneCell']) ?_)
 go_wp2_with fail;have HR1:Hid (Rd L g u1 (w1.alloc (.cells #[.string x1,.slice U 0 0,.slice U 0 0,.slice U 0 0,.slice U 0 0,.slice U 0 0,.slice U 0 0,.slice U 0 0,.slice U 0 0,.slice U 0 0,.slice U 0 0,.slice U 0 0,.slice U 0 0] 54))):=X (HR.out.low qe);have HB1:Hid (Bt g w (w1.alloc (.cells #[.string x1,.slice U 0 0,.slice U 0 0,.slice U 0 0,.slice U 0 0,.slice U 0 0,.slice U 0 0,.slice U 0 0,.slice U 0 0,.slice U 0 0,.slice U 0 0,.slice U 0 0,.slice U 0 0] 54))):=X qh;clear HR HB;dsimp only [Act.put];go_loopg [] FU (aeq L g r K w1.heap.size w)
 case atStart=>exact⟨⟨Bj x1,_,0,u1,HS.out,by have:=zf.out;unfold FU;omega,abL zf.out.1,by have:=zf.out;omega,hd1.out,HR1.out⟩,HB1.out⟩
 case round=>
  obtain⟨⟨x,V,d,u,hs,hk,hx,hl,hd,hR⟩,hb⟩:=hrel;clear HS HB1 HR1 zf hd1;obtain⟨k,rfl⟩:∃k,gk=k+1:=⟨gk-1,by omega⟩
  rw[yQ] at hs;have HM:=X (SY (Uv w.heap.size) x V);have HL:=X hl;have HKK:=X hk;have HX:=X hx;have lM:Hid (∀y v,run (Ch x) u=.ok y v->∃c,v.length+c=u.length/\1<=c/\jT y (d+c)):=X fun y v h=>by
   obtain⟨h1,c,h2,h3⟩:=(Xw hx).out hR.gd h;have:=(WV x).out hR.gd h;exact⟨c,h2,by omega,h3⟩
  have HD:=X hd;have HR:=X hR;have HB:=X hb;have HS:=X hs;have hbl:=hd.box.lt;clear hl hk hx hd hR hb hs;go_wp2_with fail;refine(dD oQ _ (HR.out.low qe) bR).mono ?_;rintro e w8 ⟨b8,⟨i8,rfl,R8⟩|⟨i8,rfl,R8⟩⟩
  · replace HS:=lY (xH HS i8);replace HS:Hid (run (bd fV fun _=>rt x) u.tail=r):=X Ju;replace HD:=X (HD.out.up HM.out (w1:=w8) qe);replace HB:=eu HB w8;replace HR:=X R8;clear b8 R8;clear i8 lM;have qP:=HD.out.box.lt;go_wp2_with fail;refine po HS HB (kS _ (HR.out.low qe)) ?_;clear HS HB HR;rintro x9 u9 v9 w9-HS b9 rfl HR HB;replace HD:=X (HD.out.up HM.out (w1:=w9) qe);clear b9;obtain⟨P,hy,hz,ho⟩:=anZ HD.out HX.out nT;have Y:=X hy;have Z:=X hz;have qW:∀W,bS (fun k=>w.heap.size<=k/\¬k=w.heap.size/\¬k=w1.heap.size) w9 W->gK (fun b=>w.heap.size<=b) W x (b_ x P):=fun W q=>⟨P,rfl,ho.map q.size fun b hb hlt=>⟨hb.1,q.block b hlt hb⟩⟩
    clear hy hz ho HD HM HX;obtain⟨W,hP⟩:=jr (c:=b_ x P) Z.out JX (Wp _ _) rfl;have jK:=hP.bt;have gQ:=X hP.box;have jL:=hP.size;go_wp2_with (first|(refine wpList_load_row rfl 54 _ rfl _ rfl 54 _ (0,0) _ Y.out underlying54 rfl dx ?_)|(refine jw rfl 54 _ _ rfl w.heap.size _ rfl rfl hP ?_))
    have bY:=HB.out;refine ah (v:=.agg (b_ x P)) ?_ rfl (PO.ok (dz HS) qe ⟨_,rfl,qW _ qe⟩ (HR.out.low qe));exact results_cell_row rfl _ _ w.heap.size 54 _ (0,0) _ rfl gQ.out underlying54 rfl dx
  · replace HS:=jb (xG HS i8);replace HD:=X (HD.out.up HM.out (w1:=w8) qe);replace HB:=eu HB w8;replace HR:=X R8;clear b8 R8;clear i8;have qP:=HD.out.box.lt;go_wp2_with fail;refine(agV (F8 w.heap.size) (Uv _) w.heap.size w1.heap.size x V d _ (HR.out.low qe) hg HX.out nT (HD.out.up HM.out qe)).mono ?_;rintro e w9 h9;rcases h9.cases with⟨y9,u9,r9,rfl,b9,⟨V9,D9⟩,R9⟩|⟨u9,r9,rfl,b9⟩
    rotate_left 1
    · have bY:=HB.out;go_wp2_with fail;exact⟨rfl,PO.no (fw HS r9) (bS.call (S':=fun k=>k<w.heap.size/\¬k=g) qe b9 (fun k hk hs=>⟨hk,hs⟩))⟩
    exact zzc
end
end Ps
namespace Ps
open Ps.P (len)
open Go.RowKit
open Lx (Tk)
open Md
def zN (F0:(Nat->Prop)->af->Prop) (x:dL) (V:Nat->aj):Nat->(Nat->Prop)->af->Prop
 | 0=>F0
 | 1=>fun G w=>bZ 105 3 ik G w (V 1) x.pa
 | 2=>fun G w=>bZ 54 13 gK G w (V 2) x.si
 | 3=>fun G w=>bZ 145 3 nC G w (V 3) x.li
 | _+4=>fun _ _=>True
theorem Iu {F0:(Nat->Prop)->af->Prop} (h0:Mv F0) (x:dL) (V:Nat->aj):∀j,Mv (zN F0 x V j)
 | 0=>h0
 | 1=>ou ik.map
 | 2=>ou gK.map
 | 3=>ou nC.map
 | _+4=>Iy
abbrev A9 (F0:(Nat->Prop)->af->Prop) (lo B:Nat) (x:dL) (V:Nat->aj) (W:af):Prop:=gJ lo B 40 #[.string x.nm,V 1,V 2,V 3] (zN F0 x V) W
theorem akb {F0:(Nat->Prop)->af->Prop} {x:dL} {V:Nat->aj} {v:aj} {l:List Val}:∀j G W,(if j=1 then fun G w=>bZ 105 3 ik G w v l else zN F0 x V j) G W->zN F0 { x with pa:=l } (iU 1 v V) j G W
 | 0,_,_,h=>h
 | 1,_,_,h=>h
 | 2,_,_,h=>h
 | 3,_,_,h=>h
 | _+4,_,_,h=>trivial
theorem akc {F0:(Nat->Prop)->af->Prop} {x:dL} {V:Nat->aj} {v:aj} {l:List cz}:∀j G W,(if j=2 then fun G w=>bZ 54 13 gK G w v l else zN F0 x V j) G W->zN F0 { x with si:=l } (iU 2 v V) j G W
 | 0,_,_,h=>h
 | 1,_,_,h=>h
 | 2,_,_,h=>h
 | 3,_,_,h=>h
 | _+4,_,_,h=>trivial
theorem aka {F0:(Nat->Prop)->af->Prop} {x:dL} {V:Nat->aj} {v:aj} {l:List iH}:∀j G W,(if j=3 then fun G w=>bZ 145 3 nC G w v l else zN F0 x V j) G W->zN F0 { x with li:=l } (iU 3 v V) j G W
 | 0,_,_,h=>h
 | 1,_,_,h=>h
 | 2,_,_,h=>h
 | 3,_,_,h=>h
 | _+4,_,_,h=>trivial
section
variable {L:Lk} {g:Nat} {t:List Tk}
theorem ald (F0:(Nat->Prop)->af->Prop) (h0:Mv F0) (lo B:Nat) (x:dL) (V:Nat->aj) (d:Nat) (w:af) (hR:Rd L g t w) (hlo:g<lo) (hd:pg x d) (hdl:d<=30001) (hD:A9 F0 lo B x V w):Calls ag 51 #[.pointer (ai ⟨g,0,U⟩),.pointer (ai ⟨B,0,U⟩)] w (DO L g lo (fun y W=>∃V,A9 F0 lo B y V W) (run (prt x) t) w):=by
 obtain⟨r,hr⟩:∃r,run (prt x) t=r:=⟨_,rfl⟩
 rw[hr];have HS:=X hr;have hg:=hR.blk;have HR:=X hR;have HB:Hid (Bt g w w):=X (bS.refl _ _);clear hR hr;have HM:=X (Iu h0 x V);have HD:=X hD;have HL:=X hd;have ai2:=hD.yF;have hblt:=hD.box.lt;clear hD hd;go_enter func51,ntmps51;go_wp2_with fail;refine ac HS HB (dD ZX _ (HR.out.low qe) bR) ?_ ?_
 · clear HS HB HR;rintro w1-HS b1 HR HB;replace HD:=X (HD.out.up HM.out (w1:=w1) qe);clear b1;have lm:ae w1 ⟨B,1,U⟩=ai (V 1):=HD.out.cell rfl;go_wp2_with fail;go_region_law (first|(rw[if_pos (by rfl)];refine Lib.wp_append_run _ _ _ _ _ rfl _ _ rfl rfl _ _ hrun ?_)|(go_simp;go_at_call 82;refine(ace _ (HR.out.low qe)).mono ?_;rintro e' wa h3;rcases h3.cases with⟨x3,u3,v3,r3,rfl,b3,V3,R3⟩|⟨u3,r3,rfl,b3⟩;rotate_left 1;(have bY:=HB.out;exact⟨rfl,DO.no (fw HS r3) (iw qe)⟩);obtain rfl:=V3;obtain⟨v5,w5,hrun,⟨p5,n5,rfl⟩,k5,f5,D5,q5⟩:=HD.out.push YH ik.map MF HM.out (w1:=wa) qe (i:=1) rfl bR rfl (y:=x3) (ce:=mQ x3) rfl (by have:=HL.out.pa.len;omega);have lX:ae wa ⟨B,1,U⟩=ai (V 1):=(eT HD.out.box (S:=fun k=>k≠g) qe bT).get rfl;have ib:ae (wa.alloc (.cells (mQ x3) 105)) ⟨B,1,U⟩=ai (V 1):=(eT HD.out.box (S:=fun k=>k≠g) qe bT).get rfl;dsimp only [mQ] at hrun ib ⊢))
   all_goals
    replace HS:=eY HS r3;have iW:Hid (A9 F0 lo B { x with pa:=x.pa++[x3] } (iU 1 (.slice p5 (x.pa.length+1) n5) V) (w5.setCell ⟨B,1,U⟩ (.slice p5 (x.pa.length+1) n5))):=X (D5.cast akb rfl);have qF:bS (fun k=>k<lo/\¬k=g) w (w5.setCell ⟨B,1,U⟩ (.slice p5 _ n5)):=bS.call (S':=fun k=>k<lo) (iw qh) q5 (fun k _ h=>h.1);have fD:=R3.low (w2:=w5.setCell ⟨B,1,U⟩ (.slice p5 _ n5)) (q5.mono fun k _ hk=>by have hk':k<=g:=hk;omega);have HQ:=X (And.intro qF fD);clear D5 q5 R3 b3 hrun k5 f5 qF fD;go_wp2_with fail
    (first|go_end0|refine ah (results_none rfl _ _ _) rfl ?_)
    exact DO.ok (dz HS) HQ.out.1 ⟨_,iW.out⟩ HQ.out.2
 clear HS HB HR;rintro w1-HS b1 HR HB;replace HD:=X (HD.out.up HM.out (w1:=w1) qe);clear b1;go_wp2_with fail;refine ac HS HB (dD ZV _ (HR.out.low qe) bR) ?_ ?_
 · clear HS HB HR;rintro w3-HS b3 HR HB;replace HS:=jb HS;replace HD:=X (HD.out.up HM.out (w1:=w3) qe);clear b3;have lm:ae w3 ⟨B,3,U⟩=ai (V 3):=HD.out.cell rfl;go_wp2_with fail;go_region_law (first
    | (rw[if_pos (by rfl)];refine Lib.wp_append_run _ _ _ _ _ rfl _ _ rfl rfl _ _ hrun ?_)
    | (go_simp;go_at_call 83;refine(kV _ (R5.low qe)).mono ?_;rintro e' wc h6;rcases h6.cases with⟨x6,u6,v6,r6,rfl,b6,V6,R6⟩|⟨u6,r6,rfl,b6⟩;rotate_left 1;(have bY:=HB.out;exact⟨rfl,DO.no (fw S5 r6) (iw qe)⟩);obtain⟨rfl,-,-⟩:=V6;have S6:=jb (eY S5 r6);obtain⟨v7,w7,hrun,⟨p7,n7,rfl⟩,k7,f7,D7,q7⟩:=HD.out.push aiB nC.map abm HM.out (w1:=wc) qe (i:=3) rfl bR rfl (y:=(⟨x4,x5,x6⟩:iH)) (ce:=qi ⟨x4,x5,x6⟩) rfl (by have:=HL.out.li.len;omega);have lc:ae wc ⟨B,3,U⟩=ai (V 3):=(eT HD.out.box (S:=fun k=>k≠g) qe bT).get rfl;have ld:ae (wc.alloc (.cells (qi ⟨x4,x5,x6⟩) 145)) ⟨B,3,U⟩=ai (V 3):=(eT HD.out.box (S:=fun k=>k≠g) qe bT).get rfl;dsimp only [qi] at hrun ld ⊢)
    | (go_simp;go_at_call 80;refine(jo _ (R4.low qe)).mono ?_;rintro e' wb h5;rcases h5.cases with⟨x5,u5,v5,r5,rfl,b5,V5,R5⟩|⟨u5,r5,rfl,b5⟩;rotate_left 1;(have bY:=HB.out;exact⟨rfl,DO.no (fw S4 r5) (iw qe)⟩);obtain rfl:=V5;have S5:=jb (eY S4 r5);have lb:ae wb ⟨B,3,U⟩=ai (V 3):=(eT HD.out.box (S:=fun k=>k≠g) qe bT).get rfl)
    | (go_simp;go_at_call 80;refine(jo _ (HR.out.low qe)).mono ?_;rintro e' wa h4;rcases h4.cases with⟨x4,u4,v4,r4,rfl,b4,V4,R4⟩|⟨u4,r4,rfl,b4⟩;rotate_left 1;(have bY:=HB.out;exact⟨rfl,DO.no (fw HS r4) (iw qe)⟩);obtain rfl:=V4;have S4:=jb (eY HS r4);have la:ae wa ⟨B,3,U⟩=ai (V 3):=(eT HD.out.box (S:=fun k=>k≠g) qe bT).get rfl))
   all_goals
    have iW:Hid (A9 F0 lo B { x with li:=x.li++[(⟨x4,x5,x6⟩:iH)] } (iU 3 (.slice p7 (x.li.length+1) n7) V) (w7.setCell ⟨B,3,U⟩ (.slice p7 (x.li.length+1) n7))):=X (D7.cast aka rfl);have qF:bS (fun k=>k<lo/\¬k=g) w (w7.setCell ⟨B,3,U⟩ (.slice p7 _ n7)):=bS.call (S':=fun k=>k<lo) (iw (w:=wc) qh) q7 (fun k _ h=>h.1);have fD:=X (R6.low (w2:=w7.setCell ⟨B,3,U⟩ (.slice p7 _ n7)) (q7.mono fun k _ hk=>by have hk':k<=g:=hk;omega));have HQ:=X qF;have JH:=X (Iu h0 { x with li:=x.li++[(⟨x4,x5,x6⟩:iH)] } (iU 3 (.slice p7 (x.li.length+1) n7) V));clear D7 q7 R4 R5 R6 b4 b5 b6 hrun k7 f7 qF HR HB HD r4 r5 r6 h4 h5 h6 S4 S5 HS;go_wp2_with fail;refine(kS _ (fD.out.low qe)).mono ?_;rintro e w9 h9;rcases h9.cases with⟨x9,u9,v9,r9,rfl,b9,V9,R9⟩|⟨u9,r9,rfl,b9⟩
    rotate_left 1
    · have HQQ:=HQ.out;go_wp2_with fail;exact⟨rfl,DO.no (fw S6 r9) qe⟩
    obtain rfl:=V9;have HS9:=lY (eY S6 r9);have HE:=X (And.intro (iW.out.up JH.out (w1:=w9) qe) (And.intro R9 (show bS (fun k=>k<lo/\¬k=g) w w9 by have HQQ:=HQ.out;exact qe)));clear fD HQ R9 b9 iW r9 h9;go_wp2_with fail
    (first|go_end0|refine ah (results_none rfl _ _ _) rfl ?_)
    exact DO.ok (dz HS9) HE.out.2.2 ⟨_,HE.out.1⟩ HE.out.2.1
 clear HS HB HR;rintro w3-HS b3 HR HB;replace HD:=X (HD.out.up HM.out (w1:=w3) qe);clear b3;go_wp2_with fail;refine ac HS HB (dD aad _ (HR.out.low qe) bR) ?_ ?_
 · clear HS HB HR;rintro w2-HS b2 HR HB;replace HD:=X (HD.out.up HM.out (w1:=w2) qe);clear b2;have lm:ae w2 ⟨B,2,U⟩=ai (V 2):=HD.out.cell rfl;go_wp2_with fail;go_region_law (first|(rw[if_pos (by rfl)];refine Lib.wp_append_run _ _ _ _ _ rfl _ _ rfl rfl _ _ hrun ?_)|(go_simp;go_at_call 84;refine(ML _ (HR.out.low qe)).mono ?_;rintro e' wa h3;rcases h3.cases with⟨x3,u3,v3,r3,rfl,b3,V3,R3⟩|⟨u3,r3,rfl,b3⟩;rotate_left 1;(have bY:=HB.out;exact⟨rfl,DO.no (fw HS r3) (iw qe)⟩);obtain⟨_,rfl,P3,rfl,o3⟩:=V3;obtain⟨v5,w5,hrun,⟨p5,n5,rfl⟩,k5,f5,D5,q5⟩:=HD.out.push ajx gK.map abu HM.out (w1:=wa) qe (i:=2) rfl bR rfl (y:=x3) (ce:=b_ x3 P3) ⟨P3,rfl,o3⟩ (by have:=HL.out.si.len;omega);have lX:ae wa ⟨B,2,U⟩=ai (V 2):=(eT HD.out.box (S:=fun k=>k≠g) qe bT).get rfl;have ib:ae (wa.alloc (.cells (b_ x3 P3) 54)) ⟨B,2,U⟩=ai (V 2):=(eT HD.out.box (S:=fun k=>k≠g) qe bT).get rfl;dsimp only [b_] at hrun ib ⊢))
   all_goals
    replace HS:=eY HS r3;have iW:Hid (A9 F0 lo B { x with si:=x.si++[x3] } (iU 2 (.slice p5 (x.si.length+1) n5) V) (w5.setCell ⟨B,2,U⟩ (.slice p5 (x.si.length+1) n5))):=X (D5.cast akc rfl);have qF:bS (fun k=>k<lo/\¬k=g) w (w5.setCell ⟨B,2,U⟩ (.slice p5 _ n5)):=bS.call (S':=fun k=>k<lo) (iw qh) q5 (fun k _ h=>h.1);have fD:=R3.low (w2:=w5.setCell ⟨B,2,U⟩ (.slice p5 _ n5)) (q5.mono fun k _ hk=>by have hk':k<=g:=hk;omega);have HQ:=X (And.intro qF fD);clear D5 q5 R3 b3 hrun k5 f5 qF fD;go_wp2_with fail
    (first|go_end0|refine ah (results_none rfl _ _ _) rfl ?_)
    exact DO.ok (dz HS) HQ.out.1 ⟨_,iW.out⟩ HQ.out.2
 clear HS HB HR;rintro w2-HS b2 HR HB;replace HD:=X (HD.out.up HM.out (w1:=w2) qe);clear b2;exact zzo
end
end Ps
namespace Ps
open Ps.P (rt bd len)
open Go.RowKit
open Lx (Tk)
open Md
def F5 (z:Nat):(Nat->Prop)->af->Prop:=fun G w=>G z/\bU w z 40 #[.string ⟨#[]⟩,.slice U 0 0,.slice U 0 0,.slice U 0 0]
theorem NR (z:Nat):Mv (F5 z):=yG
structure aej (L:Lk) (g:Nat) (r:R dL) (K:dL->P dL) (B:Nat) (w:af) (k:Nat) (wr:af):Prop where
 ex:∃x V d u,run (bd (CX k x) K) u=r/\u.length<k/\pg x d/\d+u.length<=30001/\A9 (F5 w.heap.size) w.heap.size B x V wr/\Rd L g u wr
 bt:Bt g w wr
theorem akd {z lo B d:Nat} {x:dL} {V:Nat->aj} {w:af} (h:A9 (F5 z) lo B x V w) (hd:pg x d) (hdl:d<=30001):∃P,bU w B 40 (dS x P)/\bU w z 40 #[.string ⟨#[]⟩,.slice U 0 0,.slice U 0 0,.slice U 0 0]/\jB (fun k=>lo<=k/\¬k=z/\¬k=B) w x P:=by
 have hm:=Iu (NR z) x V;have h0:∀G,zN (F5 z) x V 0 G w->G z:=fun G h=>h.1;have Z0:=h.part hm 0;obtain⟨p1,m1,c1,e1,r1⟩:=qY ik.map MF (h.off hm h0 (j:=1) bR) (by have:=hd.pa.len;omega);obtain⟨p2,m2,c2,e2,r2⟩:=qY gK.map abu (h.off hm h0 (j:=2) bR) (by have:=hd.si.len;omega);obtain⟨p3,m3,c3,e3,r3⟩:=qY nC.map abm (h.off hm h0 (j:=3) bR) (by have:=hd.li.len;omega);have hb:=h.box;rw[e1,e2,e3] at hb;exact⟨⟨p1,m1,c1,p2,m2,c2,p3,m3,c3⟩,hb,Z0.2,⟨r1,r2,r3⟩⟩
section
variable {L:Lk} {g:Nat} {t:List Tk}
theorem akh (w:af) (hR:Rd L g t w):Calls ag 24 #[.pointer (ai ⟨g,0,U⟩)] w (PE g (VR zi) (run EX t) w):=by
 have HN:Hid (∀x v,run (yH Hz) t=.ok x v->x.size<=20000/\v.length<=30000):=X fun x v h=>by
  obtain⟨h1,d,h2,h3⟩:=(GY (s:=Hz) bR).out hR.gd h;exact⟨h3.2,by have:=hR.small;omega⟩
 obtain⟨r,hr⟩:∃r,run EX t=r:=⟨_,rfl⟩
 rw[hr];have HS:=X hr;have hg:=hR.blk;have HR:=X hR;have HB:Hid (Bt g w w):=X (bS.refl _ _);clear hR hr;have Z:=Uw w;go_enter func24,ntmps24;go_wp2_with fail;refine(L6 _ _ (HR.out.low qe) bR).mono ?_;rintro e w1 h1;rcases h1.cases with⟨x1,u1,v1,r1,rfl,b1,V1,R1⟩|⟨u1,r1,rfl,b1⟩
 rotate_left 1
 · exact Ux
 have zf:=X (HN.out _ _ r1);replace HS:=eY HS r1;replace Z:=bV Z w1;replace HB:=eu HB w1;replace HR:=X R1;clear b1 R1;clear r1 h1;obtain rfl:=V1;have hz1:=Z.out.lt;have hd1:Hid (A9 (F5 w.heap.size) w.heap.size w1.heap.size ⟨x1,[],[],[]⟩ (fun _=>.slice U 0 0) (w1.alloc (.cells #[.string x1,.slice U 0 0,.slice U 0 0,.slice U 0 0] 40))):=X (gJ.new bU.new (Nat.le_of_lt hz1) ⟨⟨Nat.le_refl _,by omega⟩,cZ Z.out qe⟩ yG fun j hj G=>(match j,hj with|1,_=>bZ.nil|2,_=>bZ.nil|3,_=>bZ.nil|n+4,_=>trivial));obtain⟨K,hK⟩:∃K:dL->P dL,(fun m=>bd fV fun _=>bd qN fun _=>rt m)=K:=⟨_,rfl⟩
 have HK:=X hK;replace HS:Hid (run (bd fV fun _=>bd (CX FU ⟨x1,[],[],[]⟩) K) u1=r):=X (by rw[← hK];exact HS.out);clear hK Z HN;go_wp2_with fail;refine(kS _ (HR.out.low qe)).mono ?_;rintro e w2 h2;rcases h2.cases with⟨x2,u2,v2,r2,rfl,b2,V2,R2⟩|⟨u2,r2,rfl,b2⟩
 rotate_left 1
 · have bY:=HB.out;go_wp2_with fail;exact⟨rfl,PE.no (fw HS r2) qe⟩
 have BO:=X (nG.out HR.out.gd r2).2;replace HS:=eY HS r2;have HD:=X (hd1.out.up (Iu (NR _) _ _) (w1:=w2) qe);replace HB:=eu HB w2;replace HR:=X R2;clear b2 R2;clear r2 h2 hd1;obtain rfl:=V2;go_wp2_with fail;go_loopg [] FU (aej L g r K w1.heap.size w)
 case atStart=>exact⟨⟨⟨x1,[],[],[]⟩,(fun _=>.slice U 0 0),0,u2,HS.out,by have h1:=zf.out;have h2:=BO.out;unfold FU;omega,⟨zf.out.1,.nil,.nil,.nil⟩,by have h1:=zf.out;have h2:=BO.out;omega,HD.out,HR.out⟩,HB.out⟩
 case round=>
  obtain⟨⟨x,V,d,u,hs,hk,hx,hl,hd,hR⟩,hb⟩:=hrel;clear HS HB HR zf BO HD;obtain⟨k,rfl⟩:∃k,gk=k+1:=⟨gk-1,by omega⟩
  rw[CX] at hs;have HM:=X (Iu (NR w.heap.size) x V);have HL:=X hl;have HKK:=X hk;have HX:=X hx;have lM:Hid (∀y v,run (prt x) u=.ok y v->∃c,v.length+c=u.length/\1<=c/\pg y (d+c)):=X fun y v h=>by
   obtain⟨h1,c,h2,h3⟩:=(XL hx).out hR.gd h;have:=(ahe x).out hR.gd h;exact⟨c,h2,by omega,h3⟩
  have HD:=X hd;have HR:=X hR;have HB:=X hb;have HS:=X hs;have hbl:=hd.box.lt;clear hl hk hx hd hR hb hs;go_wp2_with fail;refine(dD oQ _ (HR.out.low qe) bR).mono ?_;rintro e w8 ⟨b8,⟨i8,rfl,R8⟩|⟨i8,rfl,R8⟩⟩
  · replace HS:=lY (xH HS i8);replace HS:Hid (run (bd fV fun _=>bd qN fun _=>rt x) u.tail=r):=X Ju;replace HD:=X (HD.out.up HM.out (w1:=w8) qe);replace HB:=eu HB w8;replace HR:=X R8;clear b8 R8;clear i8 lM;have qP:=HD.out.box.lt;go_wp2_with fail;refine(kS _ (HR.out.low qe)).mono ?_;rintro e w9 h9;rcases h9.cases with⟨x9,u9,v9,r9,rfl,b9,V9,R9⟩|⟨u9,r9,rfl,b9⟩
    rotate_left 1
    · have bY:=HB.out;go_wp2_with fail;exact⟨rfl,PE.no (fw HS r9) qe⟩
    replace HS:=eY HS r9;replace HD:=X (HD.out.up HM.out (w1:=w9) qe);replace HB:=eu HB w9;replace HR:=X R9;clear b9 R9;clear r9 h9;obtain rfl:=V9;have Ct:=HD.out.box.lt;go_wp2_with fail;refine(Ql _ (HR.out.low qe)).mono ?_;rintro e fT h10;rcases h10.cases with⟨Jg,jc,v10,xA,rfl,b10,V10⟩|⟨jc,xA,rfl,b10⟩
    rotate_left 1
    · have bY:=HB.out;go_wp2_with fail;exact⟨rfl,PE.no (fw HS xA) qe⟩
    replace HS:=eY HS xA;obtain rfl:=V10;replace HD:=X (HD.out.up HM.out (w1:=fT) qe);replace HB:=eu HB fT;clear xA h10 b10;obtain⟨P,hy,hz,ho⟩:=akd HD.out HX.out nT;have Y:=X hy;have Z:=X hz;have qW:∀W,bS (fun k=>w.heap.size<=k/\¬k=w.heap.size/\¬k=w1.heap.size) fT W->zi (fun b=>w.heap.size<=b) W x (dS x P):=fun W q=>⟨P,rfl,ho.map q.size fun b hb hlt=>⟨hb.1,q.block b hlt hb⟩⟩
    clear hy hz ho HD HM HX;obtain⟨W,hP⟩:=jr (c:=dS x P) Z.out aeM (VK _ _) rfl;have jK:=hP.bt;have gQ:=X hP.box;have jL:=hP.size;go_wp2_with (first|(refine wpList_load_row rfl 40 _ rfl _ rfl 40 _ (0,0) _ Y.out underlying40 rfl dx ?_)|(refine jw rfl 40 _ _ rfl w.heap.size _ rfl rfl hP ?_))
    have bY:=HB.out;refine ah (v:=.agg (dS x P)) ?_ rfl (PE.ok (dz HS) qe ⟨_,rfl,qW _ qe⟩);exact results_cell_row rfl _ _ w.heap.size 40 _ (0,0) _ rfl gQ.out underlying40 rfl dx
  · replace HS:=jb (xG HS i8);replace HD:=X (HD.out.up HM.out (w1:=w8) qe);replace HB:=eu HB w8;replace HR:=X R8;clear b8 R8;clear i8;have qP:=HD.out.box.lt;go_wp2_with fail;refine(ald (F5 w.heap.size) (NR _) w.heap.size w1.heap.size x V d _ (HR.out.low qe) hg HX.out nT (HD.out.up HM.out qe)).mono ?_;rintro e w9 h9;rcases h9.cases with⟨y9,u9,r9,rfl,b9,⟨V9,D9⟩,R9⟩|⟨u9,r9,rfl,b9⟩
    rotate_left 1
    · have bY:=HB.out;go_wp2_with fail;exact⟨rfl,PE.no (fw HS r9) (bS.call (S':=fun k=>k<w.heap.size/\¬k=g) qe b9 (fun k hk hs=>⟨hk,hs⟩))⟩
    exact zzc
end
end Ps
namespace Ps
open Lx (Tk gz gy ab9 Fx MW MV kF Cf yt yI RU getD_at jD J5 vF tK fin dH iR CJ jH)
theorem Gd.cons {x:Tk} {t:List Tk} (h:Wf x) (hk:¬x.k=0) (hg:Gd t):Gd (x::t):=by
 cases t with
 | nil=>exact hg.elim
 | cons y r=>exact⟨h,hk,hg⟩
theorem Km {f:Bool} {b x:Tk} {last:Bool} (h:yt f b x last=0):0<=x.k/\x.k<=4/\jH x=true/\vF b.k x.k last=true/\tK f b.k b.l x.k x.l=true:=by
 unfold yt at h
 split at h
 · cases h
 · rename_i h1
   split at h
   · cases h
   · rename_i h2
     split at h
     · cases h
     · rename_i h3
       have h2:(jH x&&vF b.k x.k last)=true:=by cases e:(jH x&&vF b.k x.k last) with|true=>rfl|false=>exact absurd e h2
       rw[Bool.and_eq_true] at h2;have h3:tK f b.k b.l x.k x.l=true:=by cases e:tK f b.k b.l x.k x.l with|true=>rfl|false=>exact absurd e h3
       exact⟨by omega,by omega,h2.1,h2.2,h3⟩
theorem YL {l:List Tk} {m:Int} (hs:∀i,(h:i<l.length)->Wf l[i]) (h0:∀i,(h:i<l.length)->(l[i].k=0↔i+1=l.length)):∀k,k<l.length->Gd (l.drop (l.length-1-k))
 | 0,h=>by
  have hi:l.length-1-0<l.length:=by omega
  rw[List.drop_eq_getElem_cons hi,List.drop_of_length_le bT];exact⟨hs _ hi,(h0 _ hi).2 bT⟩
 | k+1,h=>by
  have hi:l.length-1-(k+1)<l.length:=by omega
  rw[List.drop_eq_getElem_cons hi];refine Gd.cons (hs _ hi) (fun e=>by have:=(h0 _ hi).1 e;omega) ?_;have:=YL (m:=m) hs h0 k bT;rwa [show l.length-1-(k+1)+1=l.length-1-k by omega]
theorem GZ (a:List Tk) (n:Nat):(iR a n).length<=a.length+1:=by
 unfold iR
 split <;> simp
theorem QF {s:List UInt8} (h:gy s=0):Gd (gz s)/\(gz s).length<=30000:=by
 have hl:¬20000<s.length:=fun g=>by rw[(MW g).2.2] at h;cases h
 have hb:(dH s [] 1).bad=false:=by
  cases e:(dH s [] 1).bad with
  | false=>rfl
  | true=>rw[(MV hl e).2.2] at h;cases h
 obtain⟨hv,hz⟩:=ab9 h;have hL:=CJ s.length s [] 1 (Nat.le_refl _);have hfin:=(Fx hl hb).1;obtain⟨l,hll⟩:∃l,gz s=l:=⟨_,rfl⟩
 rw[hll] at hv hz hfin ⊢;have hlen:l.length<=20002:=by
  rw[hfin];unfold fin;have:=GZ (dH s [] 1).a (dH s [] 1).n;simp only[List.length_append,List.length_cons,List.length_nil] at hL ⊢;omega
 have hne:0<l.length:=by rw[hfin];unfold fin;simp
 have hlast:(l[l.length-1]'(by omega)).l=((dH s [] 1).n:Int):=by
  simp only[hfin,fin];simp
 have h1:yI (Cf l) l.length=0:=by
  unfold kF at hv
  split at hv
  · assumption
  · rename_i g;exact absurd hv g
 have hk:∀i,(h:i<l.length)->yt (decide (i=0)) (jD l i) l[i] (decide (i+1=l.length))=0:=fun i hi=>by
  have:=RU.1 h1 i hi;unfold Cf at this;rwa [getD_at hi] at this
 have hl0:(jD l l.length).k=0:=by
  unfold kF at hv;rw[if_pos h1] at hv
  split at hv
  · assumption
  · cases hv
 have hk0:(l[l.length-1]'(by omega)).k=0:=by
  have:=J5 (l:=l) (j:=l.length-1) bT;rw[show l.length-1+1=l.length by omega] at this;rw[← this];exact hl0
 have hmono:∀i,(h:i+1<l.length)->l[i].l<=l[i+1].l:=fun i hi=>by
  obtain⟨-,-,-,-,ho⟩:=Km (hk (i+1) hi);rw[J5 bT] at ho;unfold tK at ho;rw[decide_eq_false bT,if_neg bR] at ho
  split at ho
  · rw[decide_eq_true_eq] at ho;omega
  · split at ho <;> (rw[decide_eq_true_eq] at ho;omega)
 have hup:∀j,(h:j<l.length)->(l[l.length-1-j]'(by omega)).l<=((dH s [] 1).n:Int):=by
  intro j
  induction j with
  | zero=>intro h;simp only[Nat.sub_zero];rw[hlast];exact Int.le_refl _
  | succ j ih=>
   intro h;have h2:=ih bT;have h3:=hmono (l.length-1-(j+1)) bT;simp only[show l.length-1-(j+1)+1=l.length-1-j by omega] at h3;omega
 have hlo:∀i,(h:i<l.length)->1<=l[i].l:=by
  intro i
  induction i with
  | zero=>
   intro h;obtain⟨-,-,-,-,ho⟩:=Km (hk 0 h);unfold tK at ho;rw[decide_eq_true rfl,if_pos rfl,decide_eq_true_eq] at ho;exact ho
  | succ i ih=>intro h;have h2:=ih bT;have h3:=hmono i h;omega
 refine⟨?_,by omega⟩;have hg:=YL (l:=l) (m:=0) (fun i hi=>?_) (fun i hi=>?_) (l.length-1) bT
 · rwa [show l.length-1-(l.length-1)=0 by omega,List.drop_zero] at hg
 · obtain⟨h2,h3,h4,-,-⟩:=Km (hk i hi);have h5:=hup (l.length-1-i) bT;simp only[show l.length-1-(l.length-1-i)=i by omega] at h5;have h6:=hlo i hi;have h7:=hz l[i] (List.getElem_mem hi);exact⟨h4,h2,h3,by omega,by omega,by omega⟩
 · constructor
   · intro e;obtain⟨-,-,-,hp,-⟩:=Km (hk i hi);unfold vF at hp;rw[e,if_neg bR,if_pos rfl,Bool.and_eq_true,decide_eq_true_eq,decide_eq_true_eq] at hp;exact hp.2
   · intro e;simp only[show i=l.length-1 by omega];exact hk0
end Ps
namespace Ps
open Go.RowKit
open Lx (bs mt Av gz mY gy Df Fy)
open Ex (Lo)
open Md (Rw bU dL k_ dS jB zM)
def nM:dL:=⟨mt,[],[],[]⟩
def Mk:k_:=⟨U,0,0,U,0,0,U,0,0⟩
def Dl (s:List UInt8):dL×Int×Int:=yL nM EX zM s
theorem RI {G:Nat->Prop} {w:af}:jB G w nM Mk:=⟨Rw.nil,Rw.nil,Rw.nil⟩
def MO (q:dL×Int×Int) (w:af) (e:Ending) (w':af):Prop:=Below w.heap.size w w'/\∃P,e=.returned (.tuple #[.agg (dS q.1 P),.int .i64 q.2.1,.int .i64 q.2.2])/\jB (fun b=>w.heap.size<=b) w' q.1 P
theorem MO.mk {q:dL×Int×Int} {w w':af} {x:dL} {P:k_} {a b:Int} (hq:q=(x,a,b)) (hb:Below w.heap.size w w') (hk:jB (fun b=>w.heap.size<=b) w' x P):MO q w (.returned (.tuple #[.agg (dS x P),.int .i64 a,.int .i64 b])) w':=by subst hq;exact⟨hb,P,rfl,hk⟩
theorem Jo {p:Prop} (h:p:=by
 exact aba rfl _ _ w.heap.size 40 _ (0,0) _ rfl (qK Z.out rfl) underlying40 rfl dx rfl rfl
 ):p:=h
theorem adu {p:Prop} (h:p:=by have bY:=HB.out;have q1:=hb2;have q:bS (fun k=>k<w.heap.size) _ w2:=bS.of q1;exact qe):p:=h
theorem adv {p:Prop} (h:p:=by have q1:=hb2;have q:bS (fun k=>k=w.heap.size+1) _ w2:=bS.of q1;exact qe):p:=h
theorem adw {p:Prop} (h:p:=by have q1:=hb2;have q:bS (fun k=>k=w.heap.size) _ w2:=bS.of q1;exact qe):p:=h
theorem adx {p:Prop} (h:p:=by have q1:=hb;have q:bS (fun k=>k=w.heap.size) _ w1:=bS.of q1;exact qe):p:=h
theorem alO (s:ByteArray) (w:af) (hs:s.size<=9223372036854775807) (hE:Nu.Env w):Calls ag 23 #[.string s,.func (.func 24) #[] #[],.func (.func 25) #[] #[]] w (MO (Dl (bs s)) w):=by
 have HE:Hid (∀W,Below w.heap.size w W->Calls ag 37 #[.string s] W (Av W (gz (bs s)) (mY (bs s)) (gy (bs s)))):=X fun W hW=>Fy s W hs (hE.below hW);clear hE hs;have Z:=Uw w;have n0:bU ((w.alloc (.cells #[.string ⟨#[]⟩,.slice U 0 0,.slice U 0 0,.slice U 0 0] 40)).alloc (.cells #[.string ⟨#[]⟩,.slice U 0 0,.slice U 0 0,.slice U 0 0] 40)) (w.heap.size+1) 40 #[.string ⟨#[]⟩,.slice U 0 0,.slice U 0 0,.slice U 0 0]:=by
  have h:=bU.new (w:=w.alloc (.cells #[.string ⟨#[]⟩,.slice U 0 0,.slice U 0 0,.slice U 0 0] 40)) (t:=40) (c:=#[.string ⟨#[]⟩,.slice U 0 0,.slice U 0 0,.slice U 0 0]);exact zzx
 have N:=X n0;clear n0;obtain⟨E,wK⟩:∃E,gy (bs s)=E:=⟨_,rfl⟩
 obtain⟨q,hq⟩:∃q,Dl (bs s)=q:=⟨_,rfl⟩
 rw[wK] at HE;rw[hq];have iX:=X wK;have HQ:=X hq;clear wK hq;go_enter func23,ntmps23;go_wp2_with fail;refine(HE.out _ bl).mono ?_;rintro e w1 ⟨v1,rfl,ho,hb⟩;clear HE;replace Z:=X (cZ (w2:=w1) Z.out adx);replace N:=X (cZ (w2:=w1) N.out (by have q1:=hb;have q:bS (fun k=>k=w.heap.size+1) _ w1:=bS.of q1;exact qe));have HB:Hid (bS (fun k=>k<w.heap.size) w w1):=X (by have q1:=hb;have q:bS (fun k=>k<w.heap.size) _ w1:=bS.of q1;exact qe);have HO:=X ho;have hz:=Z.out.lt;have hn:=N.out.lt;clear hb ho;by_cases h0:E=0
 · have b0:(E != 0)=false:=by simp[h0]
   subst h0;obtain⟨hgd,lU⟩:=QF iX.out;obtain⟨p,c,rfl,ht,hc,hp⟩:=Df HO.out;have hne:=hgd.ne;obtain⟨g,rfl,hg⟩:∃g,p=ai ⟨g,0,U⟩/\w.heap.size<=g:=by
    rcases hp with⟨-,h⟩|⟨g,h,h2⟩
    · omega
    · exact⟨g,h,by simp at h2;omega⟩
   have HT:=X ht;have HG:=X hgd;have HF:=X lU;clear ht hgd lU hc hp hg hne HO;go_wp2_with fail;refine(aio 24 EX ⟨g,0,(gz (bs s)).length,c,gz (bs s)⟩ w1 (fun _ _=>rfl) HT.out HG.out HF.out (fun g W hR=>akh W hR)).mono ?_;rintro e w2 h2;obtain⟨hb2,⟨x2,u2,v2,r2,rfl,V2⟩|⟨u2,r2,rfl⟩⟩:=h2.cases
   · obtain⟨c2,rfl,P2,rfl,k2⟩:=V2;have hsz:=ake HG.out HF.out r2;have HX:Hid ((zM x2=0->q=(x2,0,0))/\(¬zM x2=0->q=(nM,0,zM x2))):=X ⟨fun h=>HQ.out.symm.trans (aa9 iX.out r2 h),fun h=>HQ.out.symm.trans (aa6 iX.out r2 h)⟩;have HC:=X (fun W (hI:jB (Lo W.heap.size) W x2 P2)=>Md.nZ Md.ajM x2 P2 W hI hsz.z);replace Z:=X (cZ (w2:=w2) Z.out adw);replace N:=X (cZ (w2:=w2) N.out adv);replace HB:Hid (bS (fun k=>k<w.heap.size) w w2):=X adu;have KX:Hid (jB (fun b=>w.heap.size+1<b) w2 x2 P2):=X (k2.map (Nat.le_refl _) fun b hb hlt=>⟨by
      have hb':w1.heap.size<=b:=hb
      show w.heap.size+1<b
      omega,rfl⟩)
     have Y:=X (bU.new (w:=w2) (t:=40) (c:=dS x2 P2));have hs2:w1.heap.size<=w2.heap.size:=hb2.size;clear h2 r2 hb2 hsz k2 HQ iX HT HG HF;obtain⟨V,hV⟩:∃V,zM x2=V:=⟨_,rfl⟩
     rw[hV] at HX HC;clear hV;dsimp only [dS] at Y ⊢;obtain⟨l0,l1,l2,l3,-⟩:=dM Y.out;go_wp2_with fail;refine(HC.out _ (jB.all (KX.out.map (H:=fun b=>w.heap.size+1<b) cK (fun b hb hlt=>⟨hb,by show(w2.heap.push _)[b]?=_;rw[Array.getElem?_push,if_neg bT]⟩)))).mono ?_;rintro e w3 ⟨rfl,hb3⟩;clear l0 l1 l2 l3 HC;replace Z:=X (cZ (w2:=w3) Z.out (by have q1:=hb3;have q:bS (fun k=>k=w.heap.size) _ w3:=bS.of q1;exact qe));replace N:=X (cZ (w2:=w3) N.out (by have q1:=hb3;have q:bS (fun k=>k=w.heap.size+1) _ w3:=bS.of q1;exact qe));replace HB:Hid (bS (fun k=>k<w.heap.size) w w3):=X UE;replace Y:=X (cZ (w2:=w3) Y.out (by have q1:=hb3;have q:bS (fun k=>k=w2.heap.size) _ w3:=bS.of q1;exact qe));have KK:Hid (jB (fun b=>w.heap.size+1<b) w3 x2 P2):=X (by
      have q1:=hb3;have q:bS (fun b=>w.heap.size+1<b) w2 w3:=by
       have q2:bS (fun b=>w.heap.size+1<b) _ w3:=bS.of q1;exact qe
      exact KX.out.map q.size (fun b hb hlt=>⟨hb,q.block b hlt hb⟩))
     have hs3:=Y.out.lt;clear hb3 KX;by_cases h1:V=0
     · have b1:(V != 0)=false:=by simp[h1]
       have hx:=X (HX.out.1 h1);clear h1 HX;obtain⟨l0,l1,l2,l3,-⟩:=dM Y.out;obtain⟨y0,y1,y2,y3,fz⟩:=dM Z.out;go_wp2_with fail;have q:∀W,bS (fun b=>w.heap.size+1<b) w3 W->jB (fun b=>w.heap.size<=b) W x2 P2:=fun W q=>KK.out.map q.size (fun b hb hlt=>⟨by show w.heap.size<=b;have hb':w.heap.size+1<b:=hb;omega,q.block b hlt hb⟩);refine ah (v:=.tuple #[.agg (dS x2 P2),.int .i64 0,.int .i64 0]) ?_ rfl (MO.mk hx.out (oh qh) (q _ qe));exact Jo
     · have b1:(V != 0)=true:=by simp[h1]
       have hx:=X (HX.out.2 h1);clear h1 HX;obtain⟨l0,l1,l2,l3,-⟩:=dM N.out;obtain⟨y0,y1,y2,y3,fz⟩:=dM Z.out;go_wp2_with fail;refine ah (v:=.tuple #[.agg (dS nM Mk),.int .i64 0,.int .i64 V]) ?_ rfl (MO.mk hx.out (oh qh) (RI));exact Jo
   · have HX:=X (HQ.out.symm.trans (aa8 iX.out r2));replace Z:=X (cZ (w2:=w2) Z.out adw);replace N:=X (cZ (w2:=w2) N.out adv);replace HB:Hid (bS (fun k=>k<w.heap.size) w w2):=X adu;clear h2 r2 hb2 HQ iX HT HG HF;replace Z:=X (cZ (w2:=w2.alloc (.cells #[.string ⟨#[]⟩,.slice U 0 0,.slice U 0 0,.slice U 0 0] 40)) Z.out qe);replace N:=X (cZ (w2:=w2.alloc (.cells #[.string ⟨#[]⟩,.slice U 0 0,.slice U 0 0,.slice U 0 0] 40)) N.out qe);obtain⟨l0,l1,l2,l3,-⟩:=dM N.out;obtain⟨y0,y1,y2,y3,fz⟩:=dM Z.out;go_wp2_with fail;refine ah (v:=.tuple #[.agg (dS nM Mk),.int .i64 (hd u2).l,.int .i64 9]) ?_ rfl (MO.mk HX.out (oh qh) (RI));exact Jo
 · have b0:(E != 0)=true:=by simp[h0]
   have HX:=X (HQ.out.symm.trans (aa7 (by rw[iX.out];exact h0)));clear h0 HO;obtain⟨l0,l1,l2,l3,-⟩:=dM N.out;obtain⟨y0,y1,y2,y3,fz⟩:=dM Z.out;go_wp2_with fail;refine ah (v:=.tuple #[.agg (dS nM Mk),.int .i64 (mY (bs s):Int),.int .i64 E]) ?_ rfl (MO.mk (by rw[HX.out,iX.out]) (oh qh) (RI));exact Jo
theorem ala (s:ByteArray) (w:af) (hs:s.size<=9223372036854775807) (hE:Nu.Env w):Calls ag 11 #[.string s] w (MO (Dl (bs s)) w):=by
 have HC:=X (fun W (hW:Nu.Env W)=>alO s W hs hW);have HE:=X hE;obtain⟨⟨x,a,b⟩,hq⟩:∃q,Dl (bs s)=q:=⟨_,rfl⟩
 rw[hq] at HC ⊢;clear hE hs hq;have Z:=Uw w;go_enter func11,ntmps11;go_wp2_with fail;refine(HC.out _ (HE.out.below bl)).mono ?_;rintro e w1 ⟨hb,P,rfl,hk⟩;have HB:=X hb;have HK:=X hk;replace Z:=X (cZ (w2:=w1) Z.out adx);clear hb hk HC;dsimp only [dS];obtain⟨y0,y1,y2,y3,fz⟩:=dM Z.out;go_wp2_with fail;have HBE:Hid (bS (fun k=>k<w.heap.size) w w1):=X (by have q:bS (fun k=>k<w.heap.size) _ w1:=bS.of HB.out;exact qe);have qW:∀W,bS (fun k=>¬k=w.heap.size) w1 W->jB (fun b=>w.heap.size<=b) W x P:=fun W q=>HK.out.map q.size fun b hb hlt=>by
  have hb':_<=b:=hb;simp at hb'
  exact⟨by show w.heap.size<=b;omega,q.block b hlt bT⟩
 refine ah (v:=.tuple #[.agg (dS x P),.int .i64 a,.int .i64 b]) ?_ rfl (MO.mk rfl (oh (by have bY:=HBE.out;exact qe)) (qW _ qe));exact Jo
end Ps
namespace Ps
open Go.RowKit
open Lx (jC)
open Sm (St dA cs)
open Md (bU)
theorem abb {P:Program} {fn:Func} {p q u:Tmp} (h:fn.results=#[.tmp p,.cell q 3,.tmp u]) (tmps:Array aj) (w:af) (k:Nat) (v:aj) (hq:tmps.getD q undef=.pointer (ai ⟨k,0,U⟩)) (hk:(loadVar 3 ⟨k,0,U⟩).run P w=.ok v w) {a b:aj} (ea:tmps.getD p undef=a) (eb:tmps.getD u undef=b):(results fn tmps).run P w=.ok (.tuple #[a,v,b]) w:=by
 have hq':tmps[q]?.getD undef=.pointer (ai ⟨k,0,U⟩):=by simpa using hq
 subst ea eb;simp[results,h,hq',asAddr,hk]
theorem afS (p:Addr) (x n:Int) (older:List PanicEntry) (w:af) (hc:w.cell? p=ai (.int .i64 x)) (hz:w.frozen? p=false):CallsD ag 99 #[.pointer (ai p)] (.panicking ({ v:=.iface 127 (.agg #[.int .i64 n]),recovered:=false }::older)) w fun e u' w'=>e=.returned (.tuple #[])/\u'=.panicking ({ v:=.iface 127 (.agg #[.int .i64 n]),recovered:=true }::older)/\w'=(w.alloc (.cells #[.int .i64 n] 127)).setCell p (.int .i64 n):=by
 refine callsD_of_wpS func99 rfl fun c₀ cs hu=>?_;have wP:(Instr.typeAssert (Value.iface 127 (Value.agg #[Value.int IntKind.i64 n])) 20 127 true).run ag w=.ok (.tuple #[.agg #[.int .i64 n],.bool true]) w:=by kernel_rfl
 have hlt:p.block<w.heap.size:=by
  exact UQ
 have hbb:(w.alloc (.cells #[.int .i64 n] 127)).heap[p.block]?=w.heap[p.block]?:=by
  exact UT
 have h1:(w.alloc (.cells #[.int .i64 n] 127)).cell? ⟨w.heap.size,0,U⟩=ai (.int .i64 n):=by rw[World.cell?_alloc_mark];rfl
 have h2:(w.alloc (.cells #[.int .i64 n] 127)).cell? p=ai (.int .i64 x):=(World.cell?_of_block hbb).trans hc;have h3:(w.alloc (.cells #[.int .i64 n] 127)).frozen? p=false:=by unfold World.frozen? at hz ⊢; rw[hbb];exact hz
 apply wpS_seq
 apply wpS_region
 simp[wpOpsS,go_sem,recoverD,hu,ntmps99,Exit.thenS,wP]
 apply wpS_seq
 apply wpS_region
 simp[wpOpsS,go_sem,Exit.thenS]
 refine wpS_cond (t:=true) F_ ?_;simp only[if_true]
 apply wpS_region
 simp[wpOpsS,go_sem,h1,h2,h3,bodyPostS,results,results99]
theorem afR (p:Addr) (w:af):CallsD ag 99 #[.pointer (ai p)] .returning w fun e u' w'=>e=.returned (.tuple #[])/\u'=.returning/\w'=w.alloc (.cells #[.int .i64 0] 127):=by
 refine callsD_of_wpS func99 rfl fun c₀ cs hu=>?_;have wP:(Instr.typeAssert Value.nilIface 20 127 true).run ag w=.ok (.tuple #[.agg #[.int .i64 0],.bool false]) w:=by kernel_rfl
 apply wpS_seq
 apply wpS_region
 simp[wpOpsS,go_sem,recoverD,hu,ntmps99,Exit.thenS,wP]
 apply wpS_seq
 apply wpS_region
 simp[wpOpsS,go_sem,Exit.thenS]
 refine wpS_cond (t:=false) F_ ?_;simp only[Bool.false_eq_true,if_false];refine wpS_of_wp (wp_skip ?_);cases c₀
 simp_all [bodyPostS,results,results99]
theorem aip (f:FuncId) (m:P (List St)) (L:Lk) (w:af) (hf:∀(a:Array aj) (W:af),(callFunc f a).run ag W=.ok (.enter f a) W) (ht:jC w (ai ⟨L.b,L.o,U⟩) L.m L.l) (hgd:Gd L.l) (lU:L.l.length<=30000) (hC:∀g W,Rd L g L.l W->Calls ag f #[.pointer (ai ⟨g,0,U⟩)] W (PE g Aw (run m L.l) W)):Calls ag 58 #[.func (.func f) #[] #[],.slice (ai ⟨L.b,L.o,U⟩) L.m L.c] w (FO Aw (.slice U 0 0) (run m L.l) w):=by
 have HC:=X hC;have HT:=X ht;have HG:=X hgd;have HF:=X lU;obtain⟨r,hr⟩:∃r,run m L.l=r:=⟨_,rfl⟩
 rw[hr] at HC ⊢;clear hC ht hgd lU;have Zi:∀(fn:Fn) (first cap:Array aj) (w:af),(Instr.makeFunc fn first cap).run ag w=.ok (.func fn first cap) w:=fun _ _ _ _=>rfl;go_enter_defers func58,ntmps58
 go_wp2_with fail;have hlb:L.b<w.heap.size:=by
  exact UO
 have N:=X (bU.new (w:=w) (t:=3) (c:=#[.int .i64 0]));have hnl:=N.out.lt;refine(HC.out (w.heap.size+1) _ (Sj rfl cK za HT.out.alloc HG.out HF.out)).mono ?_;rintro e w1 h1;rcases h1.cases with⟨x1,u1,v1,r1,rfl,b1,V1⟩|⟨u1,r1,rfl,b1⟩
 · have N1:=X (cZ (w2:=w1) N.out qe);have B1:Hid (bS (fun k=>k<w.heap.size) w w1):=X qe;have HK:=X r1;obtain⟨p1,m1,c1,rfl,k1⟩:=V1;have K1:Hid (dA (fun b=>w.heap.size<b) w1 x1 p1 m1):=X (k1.mono fun b hb hlt=>by
    have hb':_<=b:=hb;simp at hb'
    omega)
   clear b1 h1 r1 k1 N;have q0:ae _ ⟨_,0,U⟩=ai (.int .i64 0):=N1.out.get rfl;have qz:∀i,World.frozen? _ ⟨_,i,U⟩=false:=fun i=>fA (i:=i) N1.out;go_wp2_with fail;refine leaves_cons (f:=99) (args:=#[.pointer (ai ⟨w.heap.size,0,U⟩)]) cK (by simp[go_sem]) ?_;refine(afR _ _).mono ?_;rintro e u' w'' ⟨rfl,rfl,rfl⟩;have BB:=B1.out;refine⟨_,abb rfl _ _ w.heap.size (.int .i64 0) rfl (EW ?_) rfl rfl,?_⟩
   · have N4:=eX (i:=0) (v:=.int .i64 0) N1.out;exact(cZ N4 qe).get (r:=0) rfl
   · have q:∀W,bS (fun b=>w.heap.size<b) w1 W->dA (fun b=>w.heap.size<=b) W x1 p1 m1:=fun W q=>Sm.dA.map q.size (fun b hb hlt=>⟨Nat.le_of_lt hb,q.block b hlt hb⟩) K1.out;exact FO.ok HK.out (oh qe) ⟨p1,m1,c1,rfl,q _ qe⟩
 · have N1:=X (cZ (w2:=w1) N.out qe);have B1:Hid (bS (fun k=>k<w.heap.size) w w1):=X qe;have HK:=X r1;clear b1 h1 r1 N;go_wp2_with fail;refine leaves_cons (f:=99) (args:=#[.pointer (ai ⟨w.heap.size,0,U⟩)]) cK (by simp[go_sem]) ?_;refine(afS _ 0 (hd u1).l [] _ (N1.out.get rfl) (fA N1.out)).mono ?_;rintro e u' w'' ⟨rfl,rfl,rfl⟩;refine⟨_,abb rfl _ _ w.heap.size (.int .i64 (hd u1).l) rfl (EW ?_) rfl rfl,?_⟩
   · exact UR
   · exact UA
end Ps
end Go.Proofs.YtkpekhpgdajabaaGreatDoor
