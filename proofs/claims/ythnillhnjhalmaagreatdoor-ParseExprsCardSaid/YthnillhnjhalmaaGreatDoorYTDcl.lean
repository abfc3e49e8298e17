/-
  Parts of this proof: The contract of the reader's declaration. The contract of the reader's site.
-/
import Derived.Test.YthnillhnjhalmaaGreatDoorYQPlc
import Derived.Test.YthnillhnjhalmaaGreatDoorYQChk
open Go.World renaming cell?->ae
open Option renaming none->U,some->aj
open Go renaming bodyPost_ret->af,Value->ag,World->ah
open And renaming intro->ai
open Go.Lib renaming hid->X
set_option linter.unusedVariables false
set_option maxRecDepth 100000
set_option maxHeartbeats 16000000
open Go.Lib (hid)
namespace Go.Proofs.YthnillhnjhalmaaGreatDoor
namespace Ps
open Ps.P (len)
open Go.RowKit
open Lx (Tk)
open Md
def jZ (F0:(Nat->Prop)->ah->Prop) (x:cZ) (V:Nat->ag):Nat->(Nat->Prop)->ah->Prop
 | 0=>F0
 | 1=>fun G w=>cu 103 3 iI G w (V 1) x.va
 | 2=>fun G w=>cu 194 17 je G w (V 2) x.rs
 | 3=>fun G w=>cu 200 3 kG G w (V 3) x.st
 | 4=>fun G w=>cu 204 3 kF G w (V 4) x.be
 | 5=>fun G w=>cu 9 1 dZ G w (V 5) x.qu
 | 6=>fun G w=>cu 9 1 dZ G w (V 6) x.sm
 | 7=>fun G w=>cu 9 1 dZ G w (V 7) x.ta
 | 8=>fun G w=>cu 9 1 dZ G w (V 8) x.le
 | 9=>fun G w=>cu 9 1 dZ G w (V 9) x.co
 | 10=>fun G w=>cu 210 4 il G w (V 10) x.ro
 | 11=>fun G w=>cu 214 5 lq G w (V 11) x.ss
 | 12=>fun G w=>cu 233 3 lh G w (V 12) x.la
 | _+13=>fun _ _=>True
theorem UA {F0:(Nat->Prop)->ah->Prop} (h0:Mv F0) (x:cZ) (V:Nat->ag):∀j,Mv (jZ F0 x V j)
 | 0=>h0
 | 1=>oK iI.map
 | 2=>oK je.map
 | 3=>oK kG.map
 | 4=>oK kF.map
 | 5=>oK dZ.map
 | 6=>oK dZ.map
 | 7=>oK dZ.map
 | 8=>oK dZ.map
 | 9=>oK dZ.map
 | 10=>oK il.map
 | 11=>oK lq.map
 | 12=>oK lh.map
 | _+13=>JK
abbrev pV (F0:(Nat->Prop)->ah->Prop) (lo B:Nat) (x:cZ) (V:Nat->ag) (W:ah):Prop:=gZ lo B 50 #[.string x.nm,V 1,V 2,V 3,V 4,V 5,V 6,V 7,V 8,V 9,V 10,V 11,V 12] (jZ F0 x V) W
def ji (i:Nat) (v:ag) (V:Nat->ag):Nat->ag:=fun j=>if j=i then v else V j
theorem apD {F0:(Nat->Prop)->ah->Prop} {x:cZ} {V:Nat->ag} {v:ag} {l:List Val}:∀j G W,(if j=1 then fun G w=>cu 103 3 iI G w v l else jZ F0 x V j) G W->jZ F0 { x with va:=l } (ji 1 v V) j G W
 | 0,_,_,h=>h
 | 1,_,_,h=>h
 | 2,_,_,h=>h
 | 3,_,_,h=>h
 | 4,_,_,h=>h
 | 5,_,_,h=>h
 | 6,_,_,h=>h
 | 7,_,_,h=>h
 | 8,_,_,h=>h
 | 9,_,_,h=>h
 | 10,_,_,h=>h
 | 11,_,_,h=>h
 | 12,_,_,h=>h
 | _+13,_,_,h=>trivial
theorem apy {F0:(Nat->Prop)->ah->Prop} {x:cZ} {V:Nat->ag} {v:ag} {l:List dx}:∀j G W,(if j=2 then fun G w=>cu 194 17 je G w v l else jZ F0 x V j) G W->jZ F0 { x with rs:=l } (ji 2 v V) j G W
 | 0,_,_,h=>h
 | 1,_,_,h=>h
 | 2,_,_,h=>h
 | 3,_,_,h=>h
 | 4,_,_,h=>h
 | 5,_,_,h=>h
 | 6,_,_,h=>h
 | 7,_,_,h=>h
 | 8,_,_,h=>h
 | 9,_,_,h=>h
 | 10,_,_,h=>h
 | 11,_,_,h=>h
 | 12,_,_,h=>h
 | _+13,_,_,h=>trivial
theorem apB {F0:(Nat->Prop)->ah->Prop} {x:cZ} {V:Nat->ag} {v:ag} {l:List ko}:∀j G W,(if j=3 then fun G w=>cu 200 3 kG G w v l else jZ F0 x V j) G W->jZ F0 { x with st:=l } (ji 3 v V) j G W
 | 0,_,_,h=>h
 | 1,_,_,h=>h
 | 2,_,_,h=>h
 | 3,_,_,h=>h
 | 4,_,_,h=>h
 | 5,_,_,h=>h
 | 6,_,_,h=>h
 | 7,_,_,h=>h
 | 8,_,_,h=>h
 | 9,_,_,h=>h
 | 10,_,_,h=>h
 | 11,_,_,h=>h
 | 12,_,_,h=>h
 | _+13,_,_,h=>trivial
theorem aps {F0:(Nat->Prop)->ah->Prop} {x:cZ} {V:Nat->ag} {v:ag} {l:List j_}:∀j G W,(if j=4 then fun G w=>cu 204 3 kF G w v l else jZ F0 x V j) G W->jZ F0 { x with be:=l } (ji 4 v V) j G W
 | 0,_,_,h=>h
 | 1,_,_,h=>h
 | 2,_,_,h=>h
 | 3,_,_,h=>h
 | 4,_,_,h=>h
 | 5,_,_,h=>h
 | 6,_,_,h=>h
 | 7,_,_,h=>h
 | 8,_,_,h=>h
 | 9,_,_,h=>h
 | 10,_,_,h=>h
 | 11,_,_,h=>h
 | 12,_,_,h=>h
 | _+13,_,_,h=>trivial
theorem apw {F0:(Nat->Prop)->ah->Prop} {x:cZ} {V:Nat->ag} {v:ag} {l:List ByteArray}:∀j G W,(if j=5 then fun G w=>cu 9 1 dZ G w v l else jZ F0 x V j) G W->jZ F0 { x with qu:=l } (ji 5 v V) j G W
 | 0,_,_,h=>h
 | 1,_,_,h=>h
 | 2,_,_,h=>h
 | 3,_,_,h=>h
 | 4,_,_,h=>h
 | 5,_,_,h=>h
 | 6,_,_,h=>h
 | 7,_,_,h=>h
 | 8,_,_,h=>h
 | 9,_,_,h=>h
 | 10,_,_,h=>h
 | 11,_,_,h=>h
 | 12,_,_,h=>h
 | _+13,_,_,h=>trivial
theorem apz {F0:(Nat->Prop)->ah->Prop} {x:cZ} {V:Nat->ag} {v:ag} {l:List ByteArray}:∀j G W,(if j=6 then fun G w=>cu 9 1 dZ G w v l else jZ F0 x V j) G W->jZ F0 { x with sm:=l } (ji 6 v V) j G W
 | 0,_,_,h=>h
 | 1,_,_,h=>h
 | 2,_,_,h=>h
 | 3,_,_,h=>h
 | 4,_,_,h=>h
 | 5,_,_,h=>h
 | 6,_,_,h=>h
 | 7,_,_,h=>h
 | 8,_,_,h=>h
 | 9,_,_,h=>h
 | 10,_,_,h=>h
 | 11,_,_,h=>h
 | 12,_,_,h=>h
 | _+13,_,_,h=>trivial
theorem apC {F0:(Nat->Prop)->ah->Prop} {x:cZ} {V:Nat->ag} {v:ag} {l:List ByteArray}:∀j G W,(if j=7 then fun G w=>cu 9 1 dZ G w v l else jZ F0 x V j) G W->jZ F0 { x with ta:=l } (ji 7 v V) j G W
 | 0,_,_,h=>h
 | 1,_,_,h=>h
 | 2,_,_,h=>h
 | 3,_,_,h=>h
 | 4,_,_,h=>h
 | 5,_,_,h=>h
 | 6,_,_,h=>h
 | 7,_,_,h=>h
 | 8,_,_,h=>h
 | 9,_,_,h=>h
 | 10,_,_,h=>h
 | 11,_,_,h=>h
 | 12,_,_,h=>h
 | _+13,_,_,h=>trivial
theorem apv {F0:(Nat->Prop)->ah->Prop} {x:cZ} {V:Nat->ag} {v:ag} {l:List ByteArray}:∀j G W,(if j=8 then fun G w=>cu 9 1 dZ G w v l else jZ F0 x V j) G W->jZ F0 { x with le:=l } (ji 8 v V) j G W
 | 0,_,_,h=>h
 | 1,_,_,h=>h
 | 2,_,_,h=>h
 | 3,_,_,h=>h
 | 4,_,_,h=>h
 | 5,_,_,h=>h
 | 6,_,_,h=>h
 | 7,_,_,h=>h
 | 8,_,_,h=>h
 | 9,_,_,h=>h
 | 10,_,_,h=>h
 | 11,_,_,h=>h
 | 12,_,_,h=>h
 | _+13,_,_,h=>trivial
theorem apt {F0:(Nat->Prop)->ah->Prop} {x:cZ} {V:Nat->ag} {v:ag} {l:List ByteArray}:∀j G W,(if j=9 then fun G w=>cu 9 1 dZ G w v l else jZ F0 x V j) G W->jZ F0 { x with co:=l } (ji 9 v V) j G W
 | 0,_,_,h=>h
 | 1,_,_,h=>h
 | 2,_,_,h=>h
 | 3,_,_,h=>h
 | 4,_,_,h=>h
 | 5,_,_,h=>h
 | 6,_,_,h=>h
 | 7,_,_,h=>h
 | 8,_,_,h=>h
 | 9,_,_,h=>h
 | 10,_,_,h=>h
 | 11,_,_,h=>h
 | 12,_,_,h=>h
 | _+13,_,_,h=>trivial
theorem apx {F0:(Nat->Prop)->ah->Prop} {x:cZ} {V:Nat->ag} {v:ag} {l:List fD}:∀j G W,(if j=10 then fun G w=>cu 210 4 il G w v l else jZ F0 x V j) G W->jZ F0 { x with ro:=l } (ji 10 v V) j G W
 | 0,_,_,h=>h
 | 1,_,_,h=>h
 | 2,_,_,h=>h
 | 3,_,_,h=>h
 | 4,_,_,h=>h
 | 5,_,_,h=>h
 | 6,_,_,h=>h
 | 7,_,_,h=>h
 | 8,_,_,h=>h
 | 9,_,_,h=>h
 | 10,_,_,h=>h
 | 11,_,_,h=>h
 | 12,_,_,h=>h
 | _+13,_,_,h=>trivial
theorem apA {F0:(Nat->Prop)->ah->Prop} {x:cZ} {V:Nat->ag} {v:ag} {l:List jf}:∀j G W,(if j=11 then fun G w=>cu 214 5 lq G w v l else jZ F0 x V j) G W->jZ F0 { x with ss:=l } (ji 11 v V) j G W
 | 0,_,_,h=>h
 | 1,_,_,h=>h
 | 2,_,_,h=>h
 | 3,_,_,h=>h
 | 4,_,_,h=>h
 | 5,_,_,h=>h
 | 6,_,_,h=>h
 | 7,_,_,h=>h
 | 8,_,_,h=>h
 | 9,_,_,h=>h
 | 10,_,_,h=>h
 | 11,_,_,h=>h
 | 12,_,_,h=>h
 | _+13,_,_,h=>trivial
theorem apu {F0:(Nat->Prop)->ah->Prop} {x:cZ} {V:Nat->ag} {v:ag} {l:List Md.Lw}:∀j G W,(if j=12 then fun G w=>cu 233 3 lh G w v l else jZ F0 x V j) G W->jZ F0 { x with la:=l } (ji 12 v V) j G W
 | 0,_,_,h=>h
 | 1,_,_,h=>h
 | 2,_,_,h=>h
 | 3,_,_,h=>h
 | 4,_,_,h=>h
 | 5,_,_,h=>h
 | 6,_,_,h=>h
 | 7,_,_,h=>h
 | 8,_,_,h=>h
 | 9,_,_,h=>h
 | 10,_,_,h=>h
 | 11,_,_,h=>h
 | 12,_,_,h=>h
 | _+13,_,_,h=>trivial
def DO {α:Type} (L:Lk) (g lo:Nat) (S:α->ah->Prop) (r:R α) (w:ah) (e:Ending) (w':ah):Prop:=
 bT (fun k=>k<lo/\¬k=g) w w'/\match r with
  | .ok y u=>e=.returned (.tuple #[])/\S y w'/\Rd L g u w'
  | .no u=>e=.panicked (uP (hd u).l)
section
variable {α:Type} {L:Lk} {g lo:Nat} {S:α->ah->Prop} {r:R α} {w w':ah} {e:Ending} {y:α} {u:List Tk}
theorem DO.ok (hr:r=.ok y u) (hb:bT (fun k=>k<lo/\¬k=g) w w') (hS:S y w') (hR:Rd L g u w'):DO L g lo S r w (.returned (.tuple #[])) w':=by subst hr;exact⟨hb,rfl,hS,hR⟩
theorem DO.no (hr:r=.no u) (hb:bT (fun k=>k<lo/\¬k=g) w w'):DO L g lo S r w (.panicked (uP (hd u).l)) w':=by subst hr;exact⟨hb,rfl⟩
theorem DO.cases (h:DO L g lo S r w e w'):(∃y u,r=.ok y u/\e=.returned (.tuple #[])/\bT (fun k=>k<lo/\¬k=g) w w'/\S y w'/\Rd L g u w')∨(∃u,r=.no u/\e=.panicked (uP (hd u).l)/\bT (fun k=>k<lo/\¬k=g) w w'):=by
 obtain⟨hb,h⟩:=h
 cases r with
 | ok y u=>exact .inl ⟨y,u,rfl,h.1,hb,h.2.1,h.2.2⟩
 | no u=>exact .inr ⟨u,rfl,h,hb⟩
end
theorem iK {g lo:Nat} {a w:ah} (h:Bt g a w):bT (fun k=>k<lo/\¬k=g) a w:=h.mono fun k _ hk=>hk.2
section
variable {L:Lk} {g:Nat} {t:List Tk}
theorem kY {p:Prop} (h:p:=by omega):p:=h
theorem aip (F0:(Nat->Prop)->ah->Prop) (h0:Mv F0) (lo B:Nat) (x:cZ) (V:Nat->ag) (d:Nat) (w:ah) (hR:Rd L g t w) (hlo:g<lo) (hd:ky x d) (hdl:d<=30001) (hD:pV F0 lo B x V w):Calls Tryz.prog 137 #[.pointer (aj ⟨g,0,U⟩),.pointer (aj ⟨B,0,U⟩)] w (DO L g lo (fun y W=>∃V,pV F0 lo B y V W) (run (FD x) t) w):=by
 obtain⟨r,hr⟩:∃r,run (FD x) t=r:=⟨_,rfl⟩
 rw[hr];have HS:=X hr;have hg:=hR.blk;have HR:=X hR;have HB:Hid (Bt g w w):=X (bT.refl _ _);clear hR hr;have HM:=X (UA h0 x V);have HD:=X hD;have HL:=X hd;have akp:=hD.zw;have hblt:=hD.box.lt;clear hD hd;go_enter Tryz.func137,Tryz.ntmps137;go_wp2_with fail;refine ac HS HB (dH abl _ (HR.out.low qe) bS) ?_ ?_
 · clear HS HB HR;rintro w1-HS b1 HR HB;replace HD:=X (HD.out.up HM.out (w1:=w1) qe);clear b1;have lm:ae w1 ⟨B,1,U⟩=aj (V 1):=HD.out.cell rfl;go_wp2_with fail;go_region_law (first|(rw[if_pos (by rfl)];refine Lib.wp_append_run _ _ _ _ _ rfl _ _ rfl rfl _ _ hrun ?_)|(go_simp;go_at_call 84;refine(adu _ (HR.out.low qe)).mono ?_;rintro e' wa h3;rcases h3.cases with⟨x3,u3,v3,r3,rfl,b3,V3,R3⟩|⟨u3,r3,rfl,b3⟩;rotate_left 1;(have bZ:=HB.out;exact⟨rfl,DO.no (fI HS r3) (iK qe)⟩);obtain rfl:=V3;obtain⟨v5,w5,hrun,⟨p5,n5,rfl⟩,k5,f5,D5,q5⟩:=HD.out.push Z_ iI.map NV HM.out (w1:=wa) qe (i:=1) rfl bS rfl (y:=x3) (ce:=ni x3) rfl (by have:=HL.out.va.len;omega);have lH:ae wa ⟨B,1,U⟩=aj (V 1):=(fw HD.out.box (S:=fun k=>k≠g) qe kY).get rfl;have gY:ae (wa.alloc (.cells (ni x3) 103)) ⟨B,1,U⟩=aj (V 1):=(fw HD.out.box (S:=fun k=>k≠g) qe kY).get rfl;dsimp only [ni] at hrun gY ⊢))
   all_goals
    replace HS:=fB HS r3;have jl:Hid (pV F0 lo B { x with va:=x.va++[x3] } (ji 1 (.slice p5 (x.va.length+1) n5) V) (w5.setCell ⟨B,1,U⟩ (.slice p5 (x.va.length+1) n5))):=X (D5.cast apD rfl);have qF:bT (fun k=>k<lo/\¬k=g) w (w5.setCell ⟨B,1,U⟩ (.slice p5 _ n5)):=bT.call (S':=fun k=>k<lo) (iK qh) q5 (fun k _ h=>h.1);have fO:=R3.low (w2:=w5.setCell ⟨B,1,U⟩ (.slice p5 _ n5)) (q5.mono fun k _ hk=>by have hk':k<=g:=hk;omega);have HQ:=X (ai qF fO);clear D5 q5 R3 b3 hrun k5 f5 qF fO;go_wp2_with fail
    (first|go_end0|refine af (results_none rfl _ _ _) rfl ?_)
    exact DO.ok (dD HS) HQ.out.1 ⟨_,jl.out⟩ HQ.out.2
 clear HS HB HR;rintro w1-HS b1 HR HB;replace HD:=X (HD.out.up HM.out (w1:=w1) qe);clear b1;go_wp2_with fail;refine ac HS HB (dH aa4 _ (HR.out.low qe) bS) ?_ ?_
 · clear HS HB HR;rintro w2-HS b2 HR HB;replace HD:=X (HD.out.up HM.out (w1:=w2) qe);clear b2;have lm:ae w2 ⟨B,2,U⟩=aj (V 2):=HD.out.cell rfl;go_wp2_with fail;go_region_law (first|(rw[if_pos (by rfl)];refine Lib.wp_append_run _ _ _ _ _ rfl _ _ rfl rfl _ _ hrun ?_)|(go_simp;go_at_call 181;refine(anE _ (HR.out.low qe)).mono ?_;rintro e' wa h3;rcases h3.cases with⟨x3,u3,v3,r3,rfl,b3,V3,R3⟩|⟨u3,r3,rfl,b3⟩;rotate_left 1;(have bZ:=HB.out;exact⟨rfl,DO.no (fI HS r3) (iK qe)⟩);obtain⟨_,rfl,P3,rfl,o3⟩:=V3;obtain⟨v5,w5,hrun,⟨p5,n5,rfl⟩,k5,f5,D5,q5⟩:=HD.out.push aj1 je.map acH HM.out (w1:=wa) qe (i:=2) rfl bS rfl (y:=x3) (ce:=d_ x3 P3) ⟨P3,rfl,o3⟩ (by have:=HL.out.rs.len;omega);have lH:ae wa ⟨B,2,U⟩=aj (V 2):=(fw HD.out.box (S:=fun k=>k≠g) qe kY).get rfl;have gY:ae (wa.alloc (.cells (d_ x3 P3) 194)) ⟨B,2,U⟩=aj (V 2):=(fw HD.out.box (S:=fun k=>k≠g) qe kY).get rfl;dsimp only [d_] at hrun gY ⊢))
   all_goals
    replace HS:=fB HS r3;have jl:Hid (pV F0 lo B { x with rs:=x.rs++[x3] } (ji 2 (.slice p5 (x.rs.length+1) n5) V) (w5.setCell ⟨B,2,U⟩ (.slice p5 (x.rs.length+1) n5))):=X (D5.cast apy rfl);have qF:bT (fun k=>k<lo/\¬k=g) w (w5.setCell ⟨B,2,U⟩ (.slice p5 _ n5)):=bT.call (S':=fun k=>k<lo) (iK qh) q5 (fun k _ h=>h.1);have fO:=R3.low (w2:=w5.setCell ⟨B,2,U⟩ (.slice p5 _ n5)) (q5.mono fun k _ hk=>by have hk':k<=g:=hk;omega);have HQ:=X (ai qF fO);clear D5 q5 R3 b3 hrun k5 f5 qF fO;go_wp2_with fail
    (first|go_end0|refine af (results_none rfl _ _ _) rfl ?_)
    exact DO.ok (dD HS) HQ.out.1 ⟨_,jl.out⟩ HQ.out.2
 clear HS HB HR;rintro w2-HS b2 HR HB;replace HD:=X (HD.out.up HM.out (w1:=w2) qe);clear b2;go_wp2_with fail;refine ac HS HB (dH abf _ (HR.out.low qe) bS) ?_ ?_
 · clear HS HB HR;rintro w3-HS b3 HR HB;replace HD:=X (HD.out.up HM.out (w1:=w3) qe);clear b3;have lm:ae w3 ⟨B,3,U⟩=aj (V 3):=HD.out.cell rfl;go_wp2_with fail;go_region_law (first|(rw[if_pos (by rfl)];refine Lib.wp_append_run _ _ _ _ _ rfl _ _ rfl rfl _ _ hrun ?_)|(go_simp;go_at_call 182;refine(apH _ (HR.out.low qe)).mono ?_;rintro e' wa h3;rcases h3.cases with⟨x3,u3,v3,r3,rfl,b3,V3,R3⟩|⟨u3,r3,rfl,b3⟩;rotate_left 1;(have bZ:=HB.out;exact⟨rfl,DO.no (fI HS r3) (iK qe)⟩);obtain rfl:=V3;obtain⟨v5,w5,hrun,⟨p5,n5,rfl⟩,k5,f5,D5,q5⟩:=HD.out.push aj4 kG.map acN HM.out (w1:=wa) qe (i:=3) rfl bS rfl (y:=x3) (ce:=mq x3) rfl (by have:=HL.out.st.len;omega);have lH:ae wa ⟨B,3,U⟩=aj (V 3):=(fw HD.out.box (S:=fun k=>k≠g) qe kY).get rfl;have gY:ae (wa.alloc (.cells (mq x3) 200)) ⟨B,3,U⟩=aj (V 3):=(fw HD.out.box (S:=fun k=>k≠g) qe kY).get rfl;dsimp only [mq] at hrun gY ⊢))
   all_goals
    replace HS:=fB HS r3;have jl:Hid (pV F0 lo B { x with st:=x.st++[x3] } (ji 3 (.slice p5 (x.st.length+1) n5) V) (w5.setCell ⟨B,3,U⟩ (.slice p5 (x.st.length+1) n5))):=X (D5.cast apB rfl);have qF:bT (fun k=>k<lo/\¬k=g) w (w5.setCell ⟨B,3,U⟩ (.slice p5 _ n5)):=bT.call (S':=fun k=>k<lo) (iK qh) q5 (fun k _ h=>h.1);have fO:=R3.low (w2:=w5.setCell ⟨B,3,U⟩ (.slice p5 _ n5)) (q5.mono fun k _ hk=>by have hk':k<=g:=hk;omega);have HQ:=X (ai qF fO);clear D5 q5 R3 b3 hrun k5 f5 qF fO;go_wp2_with fail
    (first|go_end0|refine af (results_none rfl _ _ _) rfl ?_)
    exact DO.ok (dD HS) HQ.out.1 ⟨_,jl.out⟩ HQ.out.2
 clear HS HB HR;rintro w3-HS b3 HR HB;replace HD:=X (HD.out.up HM.out (w1:=w3) qe);clear b3;go_wp2_with fail;refine ac HS HB (dH aaN _ (HR.out.low qe) bS) ?_ ?_
 · clear HS HB HR;rintro w4-HS b4 HR HB;replace HD:=X (HD.out.up HM.out (w1:=w4) qe);clear b4;have lm:ae w4 ⟨B,4,U⟩=aj (V 4):=HD.out.cell rfl;go_wp2_with fail;go_region_law (first|(rw[if_pos (by rfl)];refine Lib.wp_append_run _ _ _ _ _ rfl _ _ rfl rfl _ _ hrun ?_)|(go_simp;go_at_call 183;refine(agu _ (HR.out.low qe)).mono ?_;rintro e' wa h3;rcases h3.cases with⟨x3,u3,v3,r3,rfl,b3,V3,R3⟩|⟨u3,r3,rfl,b3⟩;rotate_left 1;(have bZ:=HB.out;exact⟨rfl,DO.no (fI HS r3) (iK qe)⟩);obtain rfl:=V3;obtain⟨v5,w5,hrun,⟨p5,n5,rfl⟩,k5,f5,D5,q5⟩:=HD.out.push ajY kF.map acC HM.out (w1:=wa) qe (i:=4) rfl bS rfl (y:=x3) (ce:=mo x3) rfl (by have:=HL.out.be.len;omega);have lH:ae wa ⟨B,4,U⟩=aj (V 4):=(fw HD.out.box (S:=fun k=>k≠g) qe kY).get rfl;have gY:ae (wa.alloc (.cells (mo x3) 204)) ⟨B,4,U⟩=aj (V 4):=(fw HD.out.box (S:=fun k=>k≠g) qe kY).get rfl;dsimp only [mo] at hrun gY ⊢))
   all_goals
    replace HS:=fB HS r3;have jl:Hid (pV F0 lo B { x with be:=x.be++[x3] } (ji 4 (.slice p5 (x.be.length+1) n5) V) (w5.setCell ⟨B,4,U⟩ (.slice p5 (x.be.length+1) n5))):=X (D5.cast aps rfl);have qF:bT (fun k=>k<lo/\¬k=g) w (w5.setCell ⟨B,4,U⟩ (.slice p5 _ n5)):=bT.call (S':=fun k=>k<lo) (iK qh) q5 (fun k _ h=>h.1);have fO:=R3.low (w2:=w5.setCell ⟨B,4,U⟩ (.slice p5 _ n5)) (q5.mono fun k _ hk=>by have hk':k<=g:=hk;omega);have HQ:=X (ai qF fO);clear D5 q5 R3 b3 hrun k5 f5 qF fO;go_wp2_with fail
    (first|go_end0|refine af (results_none rfl _ _ _) rfl ?_)
    exact DO.ok (dD HS) HQ.out.1 ⟨_,jl.out⟩ HQ.out.2
 clear HS HB HR;rintro w4-HS b4 HR HB;replace HD:=X (HD.out.up HM.out (w1:=w4) qe);clear b4;go_wp2_with fail;refine ac HS HB (dH aa2 _ (HR.out.low qe) bS) ?_ ?_
 · clear HS HB HR;rintro w5-HS b5 HR HB;replace HD:=X (HD.out.up HM.out (w1:=w5) qe);clear b5;have lm:ae w5 ⟨B,5,U⟩=aj (V 5):=HD.out.cell rfl;go_wp2_with fail;go_region_law (first|(rw[if_pos (by rfl)];refine Lib.wp_append_run _ _ _ _ _ rfl _ _ rfl rfl _ _ hrun ?_)|(go_simp;go_at_call 136;refine(Gl _ (HR.out.low qe)).mono ?_;rintro e' wa h3;rcases h3.cases with⟨x3,u3,v3,r3,rfl,b3,V3,R3⟩|⟨u3,r3,rfl,b3⟩;rotate_left 1;(have bZ:=HB.out;exact⟨rfl,DO.no (fI HS r3) (iK qe)⟩);obtain rfl:=V3;obtain⟨v5,w5,hrun,⟨p5,n5,rfl⟩,k5,f5,D5,q5⟩:=HD.out.push Jo dZ.map zI HM.out (w1:=wa) qe (i:=5) rfl bS rfl (y:=x3) (ce:=#[.string x3]) rfl (by have:=HL.out.qu.len;omega);have lH:ae wa ⟨B,5,U⟩=aj (V 5):=(fw HD.out.box (S:=fun k=>k≠g) qe kY).get rfl;have gY:ae (wa.alloc (.cells (#[.string x3]) 9)) ⟨B,5,U⟩=aj (V 5):=(fw HD.out.box (S:=fun k=>k≠g) qe kY).get rfl))
   all_goals
    replace HS:=fB HS r3;have jl:Hid (pV F0 lo B { x with qu:=x.qu++[x3] } (ji 5 (.slice p5 (x.qu.length+1) n5) V) (w5.setCell ⟨B,5,U⟩ (.slice p5 (x.qu.length+1) n5))):=X (D5.cast apw rfl);have qF:bT (fun k=>k<lo/\¬k=g) w (w5.setCell ⟨B,5,U⟩ (.slice p5 _ n5)):=bT.call (S':=fun k=>k<lo) (iK qh) q5 (fun k _ h=>h.1);have fO:=R3.low (w2:=w5.setCell ⟨B,5,U⟩ (.slice p5 _ n5)) (q5.mono fun k _ hk=>by have hk':k<=g:=hk;omega);have HQ:=X (ai qF fO);clear D5 q5 R3 b3 hrun k5 f5 qF fO;go_wp2_with fail
    (first|go_end0|refine af (results_none rfl _ _ _) rfl ?_)
    exact DO.ok (dD HS) HQ.out.1 ⟨_,jl.out⟩ HQ.out.2
 clear HS HB HR;rintro w5-HS b5 HR HB;replace HD:=X (HD.out.up HM.out (w1:=w5) qe);clear b5;go_wp2_with fail;refine ac HS HB (dH abg _ (HR.out.low qe) bS) ?_ ?_
 · clear HS HB HR;rintro w6-HS b6 HR HB;replace HD:=X (HD.out.up HM.out (w1:=w6) qe);clear b6;have lm:ae w6 ⟨B,6,U⟩=aj (V 6):=HD.out.cell rfl;go_wp2_with fail;go_region_law (first|(rw[if_pos (by rfl)];refine Lib.wp_append_run _ _ _ _ _ rfl _ _ rfl rfl _ _ hrun ?_)|(go_simp;go_at_call 136;refine(Gl _ (HR.out.low qe)).mono ?_;rintro e' wa h3;rcases h3.cases with⟨x3,u3,v3,r3,rfl,b3,V3,R3⟩|⟨u3,r3,rfl,b3⟩;rotate_left 1;(have bZ:=HB.out;exact⟨rfl,DO.no (fI HS r3) (iK qe)⟩);obtain rfl:=V3;obtain⟨v5,w5,hrun,⟨p5,n5,rfl⟩,k5,f5,D5,q5⟩:=HD.out.push Jo dZ.map zI HM.out (w1:=wa) qe (i:=6) rfl bS rfl (y:=x3) (ce:=#[.string x3]) rfl (by have:=HL.out.sm.len;omega);have lH:ae wa ⟨B,6,U⟩=aj (V 6):=(fw HD.out.box (S:=fun k=>k≠g) qe kY).get rfl;have gY:ae (wa.alloc (.cells (#[.string x3]) 9)) ⟨B,6,U⟩=aj (V 6):=(fw HD.out.box (S:=fun k=>k≠g) qe kY).get rfl))
   all_goals
    replace HS:=fB HS r3;have jl:Hid (pV F0 lo B { x with sm:=x.sm++[x3] } (ji 6 (.slice p5 (x.sm.length+1) n5) V) (w5.setCell ⟨B,6,U⟩ (.slice p5 (x.sm.length+1) n5))):=X (D5.cast apz rfl);have qF:bT (fun k=>k<lo/\¬k=g) w (w5.setCell ⟨B,6,U⟩ (.slice p5 _ n5)):=bT.call (S':=fun k=>k<lo) (iK qh) q5 (fun k _ h=>h.1);have fO:=R3.low (w2:=w5.setCell ⟨B,6,U⟩ (.slice p5 _ n5)) (q5.mono fun k _ hk=>by have hk':k<=g:=hk;omega);have HQ:=X (ai qF fO);clear D5 q5 R3 b3 hrun k5 f5 qF fO;go_wp2_with fail
    (first|go_end0|refine af (results_none rfl _ _ _) rfl ?_)
    exact DO.ok (dD HS) HQ.out.1 ⟨_,jl.out⟩ HQ.out.2
 clear HS HB HR;rintro w6-HS b6 HR HB;replace HD:=X (HD.out.up HM.out (w1:=w6) qe);clear b6;go_wp2_with fail;refine ac HS HB (dH abj _ (HR.out.low qe) bS) ?_ ?_
 · clear HS HB HR;rintro w7-HS b7 HR HB;replace HD:=X (HD.out.up HM.out (w1:=w7) qe);clear b7;have lm:ae w7 ⟨B,7,U⟩=aj (V 7):=HD.out.cell rfl;go_wp2_with fail;go_region_law (first|(rw[if_pos (by rfl)];refine Lib.wp_append_run _ _ _ _ _ rfl _ _ rfl rfl _ _ hrun ?_)|(go_simp;go_at_call 136;refine(Gl _ (HR.out.low qe)).mono ?_;rintro e' wa h3;rcases h3.cases with⟨x3,u3,v3,r3,rfl,b3,V3,R3⟩|⟨u3,r3,rfl,b3⟩;rotate_left 1;(have bZ:=HB.out;exact⟨rfl,DO.no (fI HS r3) (iK qe)⟩);obtain rfl:=V3;obtain⟨v5,w5,hrun,⟨p5,n5,rfl⟩,k5,f5,D5,q5⟩:=HD.out.push Jo dZ.map zI HM.out (w1:=wa) qe (i:=7) rfl bS rfl (y:=x3) (ce:=#[.string x3]) rfl (by have:=HL.out.ta.len;omega);have lH:ae wa ⟨B,7,U⟩=aj (V 7):=(fw HD.out.box (S:=fun k=>k≠g) qe kY).get rfl;have gY:ae (wa.alloc (.cells (#[.string x3]) 9)) ⟨B,7,U⟩=aj (V 7):=(fw HD.out.box (S:=fun k=>k≠g) qe kY).get rfl))
   all_goals
    replace HS:=fB HS r3;have jl:Hid (pV F0 lo B { x with ta:=x.ta++[x3] } (ji 7 (.slice p5 (x.ta.length+1) n5) V) (w5.setCell ⟨B,7,U⟩ (.slice p5 (x.ta.length+1) n5))):=X (D5.cast apC rfl);have qF:bT (fun k=>k<lo/\¬k=g) w (w5.setCell ⟨B,7,U⟩ (.slice p5 _ n5)):=bT.call (S':=fun k=>k<lo) (iK qh) q5 (fun k _ h=>h.1);have fO:=R3.low (w2:=w5.setCell ⟨B,7,U⟩ (.slice p5 _ n5)) (q5.mono fun k _ hk=>by have hk':k<=g:=hk;omega);have HQ:=X (ai qF fO);clear D5 q5 R3 b3 hrun k5 f5 qF fO;go_wp2_with fail
    (first|go_end0|refine af (results_none rfl _ _ _) rfl ?_)
    exact DO.ok (dD HS) HQ.out.1 ⟨_,jl.out⟩ HQ.out.2
 clear HS HB HR;rintro w7-HS b7 HR HB;replace HD:=X (HD.out.up HM.out (w1:=w7) qe);clear b7;go_wp2_with fail;refine ac HS HB (dH Nc _ (HR.out.low qe) bS) ?_ ?_
 · clear HS HB HR;rintro w8-HS b8 HR HB;replace HD:=X (HD.out.up HM.out (w1:=w8) qe);clear b8;have lm:ae w8 ⟨B,8,U⟩=aj (V 8):=HD.out.cell rfl;go_wp2_with fail;go_region_law (first|(rw[if_pos (by rfl)];refine Lib.wp_append_run _ _ _ _ _ rfl _ _ rfl rfl _ _ hrun ?_)|(go_simp;go_at_call 136;refine(Gl _ (HR.out.low qe)).mono ?_;rintro e' wa h3;rcases h3.cases with⟨x3,u3,v3,r3,rfl,b3,V3,R3⟩|⟨u3,r3,rfl,b3⟩;rotate_left 1;(have bZ:=HB.out;exact⟨rfl,DO.no (fI HS r3) (iK qe)⟩);obtain rfl:=V3;obtain⟨v5,w5,hrun,⟨p5,n5,rfl⟩,k5,f5,D5,q5⟩:=HD.out.push Jo dZ.map zI HM.out (w1:=wa) qe (i:=8) rfl bS rfl (y:=x3) (ce:=#[.string x3]) rfl (by have:=HL.out.le.len;omega);have lH:ae wa ⟨B,8,U⟩=aj (V 8):=(fw HD.out.box (S:=fun k=>k≠g) qe kY).get rfl;have gY:ae (wa.alloc (.cells (#[.string x3]) 9)) ⟨B,8,U⟩=aj (V 8):=(fw HD.out.box (S:=fun k=>k≠g) qe kY).get rfl))
   all_goals
    replace HS:=fB HS r3;have jl:Hid (pV F0 lo B { x with le:=x.le++[x3] } (ji 8 (.slice p5 (x.le.length+1) n5) V) (w5.setCell ⟨B,8,U⟩ (.slice p5 (x.le.length+1) n5))):=X (D5.cast apv rfl);have qF:bT (fun k=>k<lo/\¬k=g) w (w5.setCell ⟨B,8,U⟩ (.slice p5 _ n5)):=bT.call (S':=fun k=>k<lo) (iK qh) q5 (fun k _ h=>h.1);have fO:=R3.low (w2:=w5.setCell ⟨B,8,U⟩ (.slice p5 _ n5)) (q5.mono fun k _ hk=>by have hk':k<=g:=hk;omega);have HQ:=X (ai qF fO);clear D5 q5 R3 b3 hrun k5 f5 qF fO;go_wp2_with fail
    (first|go_end0|refine af (results_none rfl _ _ _) rfl ?_)
    exact DO.ok (dD HS) HQ.out.1 ⟨_,jl.out⟩ HQ.out.2
 clear HS HB HR;rintro w8-HS b8 HR HB;replace HD:=X (HD.out.up HM.out (w1:=w8) qe);clear b8;go_wp2_with fail;refine ac HS HB (dH aaQ _ (HR.out.low qe) bS) ?_ ?_
 · clear HS HB HR;rintro w9-HS b9 HR HB;replace HD:=X (HD.out.up HM.out (w1:=w9) qe);clear b9;have lm:ae w9 ⟨B,9,U⟩=aj (V 9):=HD.out.cell rfl;go_wp2_with fail;go_region_law (first|(rw[if_pos (by rfl)];refine Lib.wp_append_run _ _ _ _ _ rfl _ _ rfl rfl _ _ hrun ?_)|(go_simp;go_at_call 136;refine(Gl _ (HR.out.low qe)).mono ?_;rintro e' wa h3;rcases h3.cases with⟨x3,u3,v3,r3,rfl,b3,V3,R3⟩|⟨u3,r3,rfl,b3⟩;rotate_left 1;(have bZ:=HB.out;exact⟨rfl,DO.no (fI HS r3) (iK qe)⟩);obtain rfl:=V3;obtain⟨v5,w5,hrun,⟨p5,n5,rfl⟩,k5,f5,D5,q5⟩:=HD.out.push Jo dZ.map zI HM.out (w1:=wa) qe (i:=9) rfl bS rfl (y:=x3) (ce:=#[.string x3]) rfl (by have:=HL.out.co.len;omega);have lH:ae wa ⟨B,9,U⟩=aj (V 9):=(fw HD.out.box (S:=fun k=>k≠g) qe kY).get rfl;have gY:ae (wa.alloc (.cells (#[.string x3]) 9)) ⟨B,9,U⟩=aj (V 9):=(fw HD.out.box (S:=fun k=>k≠g) qe kY).get rfl))
   all_goals
    replace HS:=fB HS r3;have jl:Hid (pV F0 lo B { x with co:=x.co++[x3] } (ji 9 (.slice p5 (x.co.length+1) n5) V) (w5.setCell ⟨B,9,U⟩ (.slice p5 (x.co.length+1) n5))):=X (D5.cast apt rfl);have qF:bT (fun k=>k<lo/\¬k=g) w (w5.setCell ⟨B,9,U⟩ (.slice p5 _ n5)):=bT.call (S':=fun k=>k<lo) (iK qh) q5 (fun k _ h=>h.1);have fO:=R3.low (w2:=w5.setCell ⟨B,9,U⟩ (.slice p5 _ n5)) (q5.mono fun k _ hk=>by have hk':k<=g:=hk;omega);have HQ:=X (ai qF fO);clear D5 q5 R3 b3 hrun k5 f5 qF fO;go_wp2_with fail
    (first|go_end0|refine af (results_none rfl _ _ _) rfl ?_)
    exact DO.ok (dD HS) HQ.out.1 ⟨_,jl.out⟩ HQ.out.2
 clear HS HB HR;rintro w9-HS b9 HR HB;replace HD:=X (HD.out.up HM.out (w1:=w9) qe);clear b9;go_wp2_with fail;refine ac HS HB (dH aa6 _ (HR.out.low qe) bS) ?_ ?_
 · clear HS HB HR;rintro gG-HS b10 HR HB;replace HD:=X (HD.out.up HM.out (w1:=gG) qe);clear b10;have lm:ae gG ⟨B,10,U⟩=aj (V 10):=HD.out.cell rfl;go_wp2_with fail;go_region_law (first|(rw[if_pos (by rfl)];refine Lib.wp_append_run _ _ _ _ _ rfl _ _ rfl rfl _ _ hrun ?_)|(go_simp;go_at_call 184;refine(NS _ (HR.out.low qe)).mono ?_;rintro e' wa h3;rcases h3.cases with⟨x3,u3,v3,r3,rfl,b3,V3,R3⟩|⟨u3,r3,rfl,b3⟩;rotate_left 1;(have bZ:=HB.out;exact⟨rfl,DO.no (fI HS r3) (iK qe)⟩);obtain⟨_,rfl,P3,rfl,o3⟩:=V3;obtain⟨v5,w5,hrun,⟨p5,n5,rfl⟩,k5,f5,D5,q5⟩:=HD.out.push aj2 il.map acI HM.out (w1:=wa) qe (i:=10) rfl bS rfl (y:=x3) (ce:=kr x3 P3) ⟨P3,rfl,o3⟩ (by have:=HL.out.ro.len;omega);have lH:ae wa ⟨B,10,U⟩=aj (V 10):=(fw HD.out.box (S:=fun k=>k≠g) qe kY).get rfl;have gY:ae (wa.alloc (.cells (kr x3 P3) 210)) ⟨B,10,U⟩=aj (V 10):=(fw HD.out.box (S:=fun k=>k≠g) qe kY).get rfl;dsimp only [kr] at hrun gY ⊢))
   all_goals
    replace HS:=fB HS r3;have jl:Hid (pV F0 lo B { x with ro:=x.ro++[x3] } (ji 10 (.slice p5 (x.ro.length+1) n5) V) (w5.setCell ⟨B,10,U⟩ (.slice p5 (x.ro.length+1) n5))):=X (D5.cast apx rfl);have qF:bT (fun k=>k<lo/\¬k=g) w (w5.setCell ⟨B,10,U⟩ (.slice p5 _ n5)):=bT.call (S':=fun k=>k<lo) (iK qh) q5 (fun k _ h=>h.1);have fO:=R3.low (w2:=w5.setCell ⟨B,10,U⟩ (.slice p5 _ n5)) (q5.mono fun k _ hk=>by have hk':k<=g:=hk;omega);have HQ:=X (ai qF fO);clear D5 q5 R3 b3 hrun k5 f5 qF fO;go_wp2_with fail
    (first|go_end0|refine af (results_none rfl _ _ _) rfl ?_)
    exact DO.ok (dD HS) HQ.out.1 ⟨_,jl.out⟩ HQ.out.2
 clear HS HB HR;rintro gG-HS b10 HR HB;replace HD:=X (HD.out.up HM.out (w1:=gG) qe);clear b10;go_wp2_with fail;refine ac HS HB (dH abd _ (HR.out.low qe) bS) ?_ ?_
 · clear HS HB HR;rintro kM-HS b11 HR HB;replace HD:=X (HD.out.up HM.out (w1:=kM) qe);clear b11;have lm:ae kM ⟨B,11,U⟩=aj (V 11):=HD.out.cell rfl;go_wp2_with fail;go_region_law (first|(rw[if_pos (by rfl)];refine Lib.wp_append_run _ _ _ _ _ rfl _ _ rfl rfl _ _ hrun ?_)|(go_simp;go_at_call 185;refine(apn _ (HR.out.low qe)).mono ?_;rintro e' wa h3;rcases h3.cases with⟨x3,u3,v3,r3,rfl,b3,V3,R3⟩|⟨u3,r3,rfl,b3⟩;rotate_left 1;(have bZ:=HB.out;exact⟨rfl,DO.no (fI HS r3) (iK qe)⟩);obtain⟨_,rfl,P3,rfl,o3⟩:=V3;obtain⟨v5,w5,hrun,⟨p5,n5,rfl⟩,k5,f5,D5,q5⟩:=HD.out.push aj3 lq.map acK HM.out (w1:=wa) qe (i:=11) rfl bS rfl (y:=x3) (ce:=jq x3 P3) ⟨P3,rfl,o3⟩ (by have:=HL.out.ss.len;omega);have lH:ae wa ⟨B,11,U⟩=aj (V 11):=(fw HD.out.box (S:=fun k=>k≠g) qe kY).get rfl;have gY:ae (wa.alloc (.cells (jq x3 P3) 214)) ⟨B,11,U⟩=aj (V 11):=(fw HD.out.box (S:=fun k=>k≠g) qe kY).get rfl;dsimp only [jq] at hrun gY ⊢))
   all_goals
    replace HS:=fB HS r3;have jl:Hid (pV F0 lo B { x with ss:=x.ss++[x3] } (ji 11 (.slice p5 (x.ss.length+1) n5) V) (w5.setCell ⟨B,11,U⟩ (.slice p5 (x.ss.length+1) n5))):=X (D5.cast apA rfl);have qF:bT (fun k=>k<lo/\¬k=g) w (w5.setCell ⟨B,11,U⟩ (.slice p5 _ n5)):=bT.call (S':=fun k=>k<lo) (iK qh) q5 (fun k _ h=>h.1);have fO:=R3.low (w2:=w5.setCell ⟨B,11,U⟩ (.slice p5 _ n5)) (q5.mono fun k _ hk=>by have hk':k<=g:=hk;omega);have HQ:=X (ai qF fO);clear D5 q5 R3 b3 hrun k5 f5 qF fO;go_wp2_with fail
    (first|go_end0|refine af (results_none rfl _ _ _) rfl ?_)
    exact DO.ok (dD HS) HQ.out.1 ⟨_,jl.out⟩ HQ.out.2
 clear HS HB HR;rintro kM-HS b11 HR HB;replace HD:=X (HD.out.up HM.out (w1:=kM) qe);clear b11;go_wp2_with fail;refine ac HS HB (dH aaO _ (HR.out.low qe) bS) ?_ ?_
 · clear HS HB HR;rintro wW-HS b12 HR HB;replace HD:=X (HD.out.up HM.out (w1:=wW) qe);clear b12;have lm:ae wW ⟨B,12,U⟩=aj (V 12):=HD.out.cell rfl;go_wp2_with fail;go_region_law (first|(rw[if_pos (by rfl)];refine Lib.wp_append_run _ _ _ _ _ rfl _ _ rfl rfl _ _ hrun ?_)|(go_simp;go_at_call 186;refine(alj _ (HR.out.low qe)).mono ?_;rintro e' wa h3;rcases h3.cases with⟨x3,u3,v3,r3,rfl,b3,V3,R3⟩|⟨u3,r3,rfl,b3⟩;rotate_left 1;(have bZ:=HB.out;exact⟨rfl,DO.no (fI HS r3) (iK qe)⟩);obtain⟨_,rfl,P3,rfl,o3⟩:=V3;obtain⟨v5,w5,hrun,⟨p5,n5,rfl⟩,k5,f5,D5,q5⟩:=HD.out.push gLw lh.map acF HM.out (w1:=wa) qe (i:=12) rfl bS rfl (y:=x3) (ce:=jJ x3 P3) ⟨P3,rfl,o3⟩ (by have:=HL.out.la.len;omega);have lH:ae wa ⟨B,12,U⟩=aj (V 12):=(fw HD.out.box (S:=fun k=>k≠g) qe kY).get rfl;have gY:ae (wa.alloc (.cells (jJ x3 P3) 233)) ⟨B,12,U⟩=aj (V 12):=(fw HD.out.box (S:=fun k=>k≠g) qe kY).get rfl;dsimp only [jJ] at hrun gY ⊢))
   all_goals
    replace HS:=fB HS r3;have jl:Hid (pV F0 lo B { x with la:=x.la++[x3] } (ji 12 (.slice p5 (x.la.length+1) n5) V) (w5.setCell ⟨B,12,U⟩ (.slice p5 (x.la.length+1) n5))):=X (D5.cast apu rfl);have qF:bT (fun k=>k<lo/\¬k=g) w (w5.setCell ⟨B,12,U⟩ (.slice p5 _ n5)):=bT.call (S':=fun k=>k<lo) (iK qh) q5 (fun k _ h=>h.1);have fO:=R3.low (w2:=w5.setCell ⟨B,12,U⟩ (.slice p5 _ n5)) (q5.mono fun k _ hk=>by have hk':k<=g:=hk;omega);have HQ:=X (ai qF fO);clear D5 q5 R3 b3 hrun k5 f5 qF fO;go_wp2_with fail
    (first|go_end0|refine af (results_none rfl _ _ _) rfl ?_)
    exact DO.ok (dD HS) HQ.out.1 ⟨_,jl.out⟩ HQ.out.2
 clear HS HB HR;rintro wW-HS b12 HR HB;replace HD:=X (HD.out.up HM.out (w1:=wW) qe);clear b12;exact zzu
end
end Ps
namespace Ps
open Ps.P (rt bd len)
open Go.RowKit
open Lx (Tk)
open Md
def Hm (z:Nat):(Nat->Prop)->ah->Prop:=fun G w=>G z/\bX w z 50 #[.string ⟨#[]⟩,.slice U 0 0,.slice U 0 0,.slice U 0 0,.slice U 0 0,.slice U 0 0,.slice U 0 0,.slice U 0 0,.slice U 0 0,.slice U 0 0,.slice U 0 0,.slice U 0 0,.slice U 0 0]
theorem VQ (z:Nat):Mv (Hm z):=zx
structure af0 (L:Lk) (g:Nat) (r:R cZ) (K:cZ->P cZ) (B:Nat) (w:ah) (k:Nat) (wr:ah):Prop where
 ex:∃x V d u,run (bd (zL k x) K) u=r/\u.length<k/\ky x d/\d+u.length<=30001/\pV (Hm w.heap.size) w.heap.size B x V wr/\Rd L g u wr
 bt:Bt g w wr
theorem r_ {α:Type} {T:TypeId} {k:Nat} {R:Rec α} {G:Nat->Prop} {w:ah} {v:ag} {l:List α} (hm:fC R) (hs:iC k R) (h:cu T k R G w v l) (hn:l.length<=1000000):∃p m c,v=.slice p m c/\Rw k R G w l p m:=by
 obtain⟨p,c,h1,h2⟩:=h.rw hm hs hn;exact⟨p,_,c,h1,h2⟩
theorem apE {z lo B d:Nat} {x:cZ} {V:Nat->ag} {w:ah} (h:pV (Hm z) lo B x V w) (hd:ky x d) (hdl:d<=30001):∃P,bX w B 50 (cK x P)/\bX w z 50 #[.string ⟨#[]⟩,.slice U 0 0,.slice U 0 0,.slice U 0 0,.slice U 0 0,.slice U 0 0,.slice U 0 0,.slice U 0 0,.slice U 0 0,.slice U 0 0,.slice U 0 0,.slice U 0 0,.slice U 0 0]/\jc (fun k=>lo<=k/\¬k=z/\¬k=B) w x P:=by
 have hm:=UA (VQ z) x V;have h0:∀G,jZ (Hm z) x V 0 G w->G z:=fun G h=>h.1;have Z0:=h.part hm 0;obtain⟨p1,m1,c1,e1,r1⟩:=r_ iI.map NV (h.off hm h0 (j:=1) bS) (by have:=hd.va.len;omega);obtain⟨p2,m2,c2,e2,r2⟩:=r_ je.map acH (h.off hm h0 (j:=2) bS) (by have:=hd.rs.len;omega);obtain⟨p3,m3,c3,e3,r3⟩:=r_ kG.map acN (h.off hm h0 (j:=3) bS) (by have:=hd.st.len;omega);obtain⟨p4,m4,c4,e4,r4⟩:=r_ kF.map acC (h.off hm h0 (j:=4) bS) (by have:=hd.be.len;omega);obtain⟨p5,m5,c5,e5,r5⟩:=r_ dZ.map zI (h.off hm h0 (j:=5) bS) (by have:=hd.qu.len;omega);obtain⟨p6,m6,c6,e6,r6⟩:=r_ dZ.map zI (h.off hm h0 (j:=6) bS) (by have:=hd.sm.len;omega);obtain⟨p7,m7,c7,e7,r7⟩:=r_ dZ.map zI (h.off hm h0 (j:=7) bS) (by have:=hd.ta.len;omega);obtain⟨p8,m8,c8,e8,r8⟩:=r_ dZ.map zI (h.off hm h0 (j:=8) bS) (by have:=hd.le.len;omega);obtain⟨p9,m9,c9,e9,r9⟩:=r_ dZ.map zI (h.off hm h0 (j:=9) bS) (by have:=hd.co.len;omega);obtain⟨pM,m10,c10,e10,yo⟩:=r_ il.map acI (h.off hm h0 (j:=10) bS) (by have:=hd.ro.len;omega);obtain⟨Gq,m11,c11,e11,Gu⟩:=r_ lq.map acK (h.off hm h0 (j:=11) bS) (by have:=hd.ss.len;omega);obtain⟨JQ,m12,c12,e12,r12⟩:=r_ lh.map acF (h.off hm h0 (j:=12) bS) (by have:=hd.la.len;omega);have hb:=h.box;rw[e1,e2,e3,e4,e5,e6,e7,e8,e9,e10,e11,e12] at hb;exact⟨⟨p1,m1,c1,p2,m2,c2,p3,m3,c3,p4,m4,c4,p5,m5,c5,p6,m6,c6,p7,m7,c7,p8,m8,c8,p9,m9,c9,pM,m10,c10,Gq,m11,c11,JQ,m12,c12⟩,hb,Z0.2,⟨r1,r2,r3,r4,r5,r6,r7,r8,r9,yo,Gu,r12⟩⟩
section
variable {L:Lk} {g:Nat} {t:List Tk}
theorem Oc (w:ah) (hR:Rd L g t w):Calls Tryz.prog 86 #[.pointer (aj ⟨g,0,U⟩)] w (PO L g (VR g_) (run sit t) w):=by
 have HN:Hid (∀x v,run xW t=.ok x v->x.size<=20000/\v.length<=30000):=X fun x v h=>by
  obtain⟨h1,d,h2,h3⟩:=Dz.out hR.gd h;exact⟨h3,by have:=hR.small;omega⟩
 refine eD hR ?_;clear hR;intro r HS HR HB hg;have Z:=X (bX.new (w:=w) (t:=50) (c:=#[.string ⟨#[]⟩,.slice U 0 0,.slice U 0 0,.slice U 0 0,.slice U 0 0,.slice U 0 0,.slice U 0 0,.slice U 0 0,.slice U 0 0,.slice U 0 0,.slice U 0 0,.slice U 0 0,.slice U 0 0]));go_enter Tryz.func86,Tryz.ntmps86;go_wp2_with fail;refine po HS HB (Gl _ (HR.out.low qe)) ?_;clear HS HB HR;rintro x1 u1 v1 w1 r1 HS b1 rfl HR HB;have Af:=X (HN.out _ _ r1);replace Z:=bV Z w1;clear b1 r1;have hz1:=Z.out.lt;have hd1:Hid (pV (Hm w.heap.size) w.heap.size w1.heap.size (Cf x1) (fun _=>.slice U 0 0) (w1.alloc (.cells #[.string x1,.slice U 0 0,.slice U 0 0,.slice U 0 0,.slice U 0 0,.slice U 0 0,.slice U 0 0,.slice U 0 0,.slice U 0 0,.slice U 0 0,.slice U 0 0,.slice U 0 0,.slice U 0 0] 50))):=X (gZ.new bX.new (Nat.le_of_lt hz1) ⟨⟨Nat.le_refl _,by omega⟩,cO Z.out qe⟩ zx fun j hj G=>(match j,hj with|1,_=>cu.nil|2,_=>cu.nil|3,_=>cu.nil|4,_=>cu.nil|5,_=>cu.nil|6,_=>cu.nil|7,_=>cu.nil|8,_=>cu.nil|9,_=>cu.nil|10,_=>cu.nil|11,_=>cu.nil|12,_=>cu.nil|n+13,_=>trivial));obtain⟨K,hK⟩:∃K:cZ->P cZ,(fun x=>bd fM fun _=>rt x)=K:=⟨_,rfl⟩
 have HK:=X hK;replace HS:Hid (run (bd (zL FU (Cf x1)) K) u1=r):=X (by rw[← hK];exact HS.out);clear hK Z HN;go_wp2_with (refine adw 50 13 LM.2 rfl _ _ rfl _ #[.string x1,.slice U 0 0,.slice U 0 0,.slice U 0 0,.slice U 0 0,.slice U 0 0,.slice U 0 0,.slice U 0 0,.slice U 0 0,.slice U 0 0,.slice U 0 0,.slice U 0 0,.slice U 0 0] rfl rfl rfl rfl (by simp[Value.oneCell']) ?_)
 go_wp2_with fail;have HR1:Hid (Rd L g u1 (w1.alloc (.cells #[.string x1,.slice U 0 0,.slice U 0 0,.slice U 0 0,.slice U 0 0,.slice U 0 0,.slice U 0 0,.slice U 0 0,.slice U 0 0,.slice U 0 0,.slice U 0 0,.slice U 0 0,.slice U 0 0] 50))):=X (HR.out.low qe);have HB1:Hid (Bt g w (w1.alloc (.cells #[.string x1,.slice U 0 0,.slice U 0 0,.slice U 0 0,.slice U 0 0,.slice U 0 0,.slice U 0 0,.slice U 0 0,.slice U 0 0,.slice U 0 0,.slice U 0 0,.slice U 0 0,.slice U 0 0] 50))):=X qh;clear HR HB;dsimp only [Act.put];go_loopg [] FU (af0 L g r K w1.heap.size w)
 case atStart=>exact⟨⟨Cf x1,_,0,u1,HS.out,by have:=Af.out;unfold FU;omega,ac1 Af.out.1,by have:=Af.out;omega,hd1.out,HR1.out⟩,HB1.out⟩
 case round=>
  obtain⟨⟨x,V,d,u,hs,hk,hx,hl,hd,hR⟩,hb⟩:=hrel;clear HS HB1 HR1 Af hd1;obtain⟨k,rfl⟩:∃k,gk=k+1:=⟨gk-1,by omega⟩
  rw[zL] at hs;have HM:=X (UA (VQ w.heap.size) x V);have HL:=X hl;have HKK:=X hk;have HX:=X hx;have kg:Hid (∀y v,run (FD x) u=.ok y v->∃c,v.length+c=u.length/\1<=c/\ky y (d+c)):=X fun y v h=>by
   obtain⟨h1,c,h2,h3⟩:=(YU hx).out hR.gd h;have:=(Yt x).out hR.gd h;exact⟨c,h2,by omega,h3⟩
  have HD:=X hd;have HR:=X hR;have HB:=X hb;have HS:=X hs;have hbl:=hd.box.lt;clear hl hk hx hd hR hb hs;go_wp2_with fail;refine(dH pG _ (HR.out.low qe) bS).mono ?_;rintro e w8 ⟨b8,⟨i8,rfl,R8⟩|⟨i8,rfl,R8⟩⟩
  · replace HS:=mI (yz HS i8);replace HS:Hid (run (bd fM fun _=>rt x) u.tail=r):=X K6;replace HD:=X (HD.out.up HM.out (w1:=w8) qe);replace HB:=dJ HB w8;replace HR:=X R8;clear b8 R8;clear i8 kg;have rO:=HD.out.box.lt;go_wp2_with fail;refine po HS HB (lF _ (HR.out.low qe)) ?_;clear HS HB HR;rintro x9 u9 v9 w9-HS b9 rfl HR HB;replace HD:=X (HD.out.up HM.out (w1:=w9) qe);clear b9;obtain⟨P,hy,hz,ho⟩:=apE HD.out HX.out ou;have Y:=X hy;have Z:=X hz;have qW:∀W,bT (fun k=>w.heap.size<=k/\¬k=w.heap.size/\¬k=w1.heap.size) w9 W->g_ (fun b=>w.heap.size<=b) W x (cK x P):=fun W q=>⟨P,rfl,ho.map q.size fun b hb hlt=>⟨hb.1,q.block b hlt hb⟩⟩
    clear hy hz ho HD HM HX;obtain⟨W,hP⟩:=jM (c:=cK x P) Z.out LM (XZ _ _) rfl;have j4:=hP.bt;have ig:=X hP.box;have j5:=hP.size;go_wp2_with (first|(refine wpList_load_row rfl 50 _ rfl _ rfl 50 _ (0,0) _ Y.out Tryz.underlying50 rfl dA ?_)|(refine jN rfl 50 _ _ rfl w.heap.size _ rfl rfl hP ?_))
    have bZ:=HB.out;refine af (v:=.agg (cK x P)) ?_ rfl (PO.ok (dD HS) qe ⟨_,rfl,qW _ qe⟩ (HR.out.low qe));exact results_cell_row rfl _ _ w.heap.size 50 _ (0,0) _ rfl ig.out Tryz.underlying50 rfl dA
  · replace HS:=jw (yx HS i8);replace HD:=X (HD.out.up HM.out (w1:=w8) qe);replace HB:=dJ HB w8;replace HR:=X R8;clear b8 R8;clear i8;have rO:=HD.out.box.lt;go_wp2_with fail;refine(aip (Hm w.heap.size) (VQ _) w.heap.size w1.heap.size x V d _ (HR.out.low qe) hg HX.out ou (HD.out.up HM.out qe)).mono ?_;rintro e w9 h9;rcases h9.cases with⟨y9,u9,r9,rfl,b9,⟨V9,D9⟩,R9⟩|⟨u9,r9,rfl,b9⟩
    rotate_left 1
    · have bZ:=HB.out;go_wp2_with fail;exact⟨rfl,PO.no (fI HS r9) (bT.call (S':=fun k=>k<w.heap.size/\¬k=g) qe b9 (fun k hk hs=>⟨hk,hs⟩))⟩
    exact zzb
end
end Ps
end Go.Proofs.YthnillhnjhalmaaGreatDoor
