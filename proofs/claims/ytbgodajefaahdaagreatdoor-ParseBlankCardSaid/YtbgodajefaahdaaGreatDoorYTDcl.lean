/-
  Parts of this proof: The contract of the reader's declaration. The contract of the reader's site. The contract of the reader's part of a model. The contract of the reader's model. The contract of Model. The chapter's examples, as the reader's mathemat.
-/
import Derived.Test.YtbgodajefaahdaaGreatDoorYTRsc
import Derived.Test.YtbgodajefaahdaaGreatDoorYQPlc
import Derived.Test.YtbgodajefaahdaaGreatDoorYTExpr
open Go.World renaming cell?->U,frozen?->ai
open Option renaming none->X,some->C
open Go.Lib renaming hid->A
open Go renaming bodyPost_ret->ae,World->af,Value->ag
open And renaming intro->ah
open Go.RowKit renaming Hid->D
open Go.Proofs.Tryz renaming prog->aj
set_option linter.unusedVariables false
open Go.Lib (hid)
namespace Go.Proofs.YtbgodajefaahdaaGreatDoor
namespace Ps
open Ps.P (len)
open Go.RowKit
open Lx (Tk)
open Md
set_option maxHeartbeats 16000000
def kE (F0:(Nat->Prop)->af->Prop) (x:b_) (V:Nat->ag):Nat->(Nat->Prop)->af->Prop
 | 0=>F0
 | 1=>fun G w=>bZ 93 3 fV G w (V 1) x.va
 | 2=>fun G w=>bZ 111 17 iV G w (V 2) x.rs
 | 3=>fun G w=>bZ 114 3 jZ G w (V 3) x.st
 | 4=>fun G w=>bZ 116 3 jY G w (V 4) x.be
 | 5=>fun G w=>bZ 9 1 dP G w (V 5) x.qu
 | 6=>fun G w=>bZ 9 1 dP G w (V 6) x.sm
 | 7=>fun G w=>bZ 9 1 dP G w (V 7) x.ta
 | 8=>fun G w=>bZ 9 1 dP G w (V 8) x.le
 | 9=>fun G w=>bZ 9 1 dP G w (V 9) x.co
 | 10=>fun G w=>bZ 119 4 gT G w (V 10) x.ro
 | 11=>fun G w=>bZ 122 5 kU G w (V 11) x.ss
 | 12=>fun G w=>bZ 127 3 kT G w (V 12) x.la
 | _+13=>fun _ _=>True
theorem Wv {F0:(Nat->Prop)->af->Prop} (h0:Mv F0) (x:b_) (V:Nat->ag):∀j,Mv (kE F0 x V j)
 | 0=>h0
 | 1=>pY fV.map
 | 2=>pY iV.map
 | 3=>pY jZ.map
 | 4=>pY jY.map
 | 5=>pY dP.map
 | 6=>pY dP.map
 | 7=>pY dP.map
 | 8=>pY dP.map
 | 9=>pY dP.map
 | 10=>pY gT.map
 | 11=>pY kU.map
 | 12=>pY kT.map
 | _+13=>Kr
abbrev qJ (F0:(Nat->Prop)->af->Prop) (lo B:Nat) (x:b_) (V:Nat->ag) (W:af):Prop:=g_ lo B 53 #[.string x.nm,V 1,V 2,V 3,V 4,V 5,V 6,V 7,V 8,V 9,V 10,V 11,V 12] (kE F0 x V) W
def jm (i:Nat) (v:ag) (V:Nat->ag):Nat->ag:=fun j=>if j=i then v else V j
theorem arV {F0:(Nat->Prop)->af->Prop} {x:b_} {V:Nat->ag} {v:ag} {l:List Val}:∀j G W,(if j=1 then fun G w=>bZ 93 3 fV G w v l else kE F0 x V j) G W->kE F0 { x with va:=l } (jm 1 v V) j G W
 | 0,_,_,h=>h
 | 1,_,_,h=>h
 | 2,_,_,h=>h
 | 3,_,_,h=>h
 | 4,_,_,h=>h
 | 5,_,_,h=>h
 | 6,_,_,h=>h
 | 7,_,_,h=>h
 | 8,_,_,h=>h
 | 9,_,_,h=>h
 | 10,_,_,h=>h
 | 11,_,_,h=>h
 | 12,_,_,h=>h
 | _+13,_,_,h=>trivial
theorem arQ {F0:(Nat->Prop)->af->Prop} {x:b_} {V:Nat->ag} {v:ag} {l:List dm}:∀j G W,(if j=2 then fun G w=>bZ 111 17 iV G w v l else kE F0 x V j) G W->kE F0 { x with rs:=l } (jm 2 v V) j G W
 | 0,_,_,h=>h
 | 1,_,_,h=>h
 | 2,_,_,h=>h
 | 3,_,_,h=>h
 | 4,_,_,h=>h
 | 5,_,_,h=>h
 | 6,_,_,h=>h
 | 7,_,_,h=>h
 | 8,_,_,h=>h
 | 9,_,_,h=>h
 | 10,_,_,h=>h
 | 11,_,_,h=>h
 | 12,_,_,h=>h
 | _+13,_,_,h=>trivial
theorem arT {F0:(Nat->Prop)->af->Prop} {x:b_} {V:Nat->ag} {v:ag} {l:List iI}:∀j G W,(if j=3 then fun G w=>bZ 114 3 jZ G w v l else kE F0 x V j) G W->kE F0 { x with st:=l } (jm 3 v V) j G W
 | 0,_,_,h=>h
 | 1,_,_,h=>h
 | 2,_,_,h=>h
 | 3,_,_,h=>h
 | 4,_,_,h=>h
 | 5,_,_,h=>h
 | 6,_,_,h=>h
 | 7,_,_,h=>h
 | 8,_,_,h=>h
 | 9,_,_,h=>h
 | 10,_,_,h=>h
 | 11,_,_,h=>h
 | 12,_,_,h=>h
 | _+13,_,_,h=>trivial
theorem arK {F0:(Nat->Prop)->af->Prop} {x:b_} {V:Nat->ag} {v:ag} {l:List iF}:∀j G W,(if j=4 then fun G w=>bZ 116 3 jY G w v l else kE F0 x V j) G W->kE F0 { x with be:=l } (jm 4 v V) j G W
 | 0,_,_,h=>h
 | 1,_,_,h=>h
 | 2,_,_,h=>h
 | 3,_,_,h=>h
 | 4,_,_,h=>h
 | 5,_,_,h=>h
 | 6,_,_,h=>h
 | 7,_,_,h=>h
 | 8,_,_,h=>h
 | 9,_,_,h=>h
 | 10,_,_,h=>h
 | 11,_,_,h=>h
 | 12,_,_,h=>h
 | _+13,_,_,h=>trivial
theorem arO {F0:(Nat->Prop)->af->Prop} {x:b_} {V:Nat->ag} {v:ag} {l:List ByteArray}:∀j G W,(if j=5 then fun G w=>bZ 9 1 dP G w v l else kE F0 x V j) G W->kE F0 { x with qu:=l } (jm 5 v V) j G W
 | 0,_,_,h=>h
 | 1,_,_,h=>h
 | 2,_,_,h=>h
 | 3,_,_,h=>h
 | 4,_,_,h=>h
 | 5,_,_,h=>h
 | 6,_,_,h=>h
 | 7,_,_,h=>h
 | 8,_,_,h=>h
 | 9,_,_,h=>h
 | 10,_,_,h=>h
 | 11,_,_,h=>h
 | 12,_,_,h=>h
 | _+13,_,_,h=>trivial
theorem arR {F0:(Nat->Prop)->af->Prop} {x:b_} {V:Nat->ag} {v:ag} {l:List ByteArray}:∀j G W,(if j=6 then fun G w=>bZ 9 1 dP G w v l else kE F0 x V j) G W->kE F0 { x with sm:=l } (jm 6 v V) j G W
 | 0,_,_,h=>h
 | 1,_,_,h=>h
 | 2,_,_,h=>h
 | 3,_,_,h=>h
 | 4,_,_,h=>h
 | 5,_,_,h=>h
 | 6,_,_,h=>h
 | 7,_,_,h=>h
 | 8,_,_,h=>h
 | 9,_,_,h=>h
 | 10,_,_,h=>h
 | 11,_,_,h=>h
 | 12,_,_,h=>h
 | _+13,_,_,h=>trivial
theorem arU {F0:(Nat->Prop)->af->Prop} {x:b_} {V:Nat->ag} {v:ag} {l:List ByteArray}:∀j G W,(if j=7 then fun G w=>bZ 9 1 dP G w v l else kE F0 x V j) G W->kE F0 { x with ta:=l } (jm 7 v V) j G W
 | 0,_,_,h=>h
 | 1,_,_,h=>h
 | 2,_,_,h=>h
 | 3,_,_,h=>h
 | 4,_,_,h=>h
 | 5,_,_,h=>h
 | 6,_,_,h=>h
 | 7,_,_,h=>h
 | 8,_,_,h=>h
 | 9,_,_,h=>h
 | 10,_,_,h=>h
 | 11,_,_,h=>h
 | 12,_,_,h=>h
 | _+13,_,_,h=>trivial
theorem arN {F0:(Nat->Prop)->af->Prop} {x:b_} {V:Nat->ag} {v:ag} {l:List ByteArray}:∀j G W,(if j=8 then fun G w=>bZ 9 1 dP G w v l else kE F0 x V j) G W->kE F0 { x with le:=l } (jm 8 v V) j G W
 | 0,_,_,h=>h
 | 1,_,_,h=>h
 | 2,_,_,h=>h
 | 3,_,_,h=>h
 | 4,_,_,h=>h
 | 5,_,_,h=>h
 | 6,_,_,h=>h
 | 7,_,_,h=>h
 | 8,_,_,h=>h
 | 9,_,_,h=>h
 | 10,_,_,h=>h
 | 11,_,_,h=>h
 | 12,_,_,h=>h
 | _+13,_,_,h=>trivial
theorem arL {F0:(Nat->Prop)->af->Prop} {x:b_} {V:Nat->ag} {v:ag} {l:List ByteArray}:∀j G W,(if j=9 then fun G w=>bZ 9 1 dP G w v l else kE F0 x V j) G W->kE F0 { x with co:=l } (jm 9 v V) j G W
 | 0,_,_,h=>h
 | 1,_,_,h=>h
 | 2,_,_,h=>h
 | 3,_,_,h=>h
 | 4,_,_,h=>h
 | 5,_,_,h=>h
 | 6,_,_,h=>h
 | 7,_,_,h=>h
 | 8,_,_,h=>h
 | 9,_,_,h=>h
 | 10,_,_,h=>h
 | 11,_,_,h=>h
 | 12,_,_,h=>h
 | _+13,_,_,h=>trivial
theorem arP {F0:(Nat->Prop)->af->Prop} {x:b_} {V:Nat->ag} {v:ag} {l:List eQ}:∀j G W,(if j=10 then fun G w=>bZ 119 4 gT G w v l else kE F0 x V j) G W->kE F0 { x with ro:=l } (jm 10 v V) j G W
 | 0,_,_,h=>h
 | 1,_,_,h=>h
 | 2,_,_,h=>h
 | 3,_,_,h=>h
 | 4,_,_,h=>h
 | 5,_,_,h=>h
 | 6,_,_,h=>h
 | 7,_,_,h=>h
 | 8,_,_,h=>h
 | 9,_,_,h=>h
 | 10,_,_,h=>h
 | 11,_,_,h=>h
 | 12,_,_,h=>h
 | _+13,_,_,h=>trivial
theorem arS {F0:(Nat->Prop)->af->Prop} {x:b_} {V:Nat->ag} {v:ag} {l:List h_}:∀j G W,(if j=11 then fun G w=>bZ 122 5 kU G w v l else kE F0 x V j) G W->kE F0 { x with ss:=l } (jm 11 v V) j G W
 | 0,_,_,h=>h
 | 1,_,_,h=>h
 | 2,_,_,h=>h
 | 3,_,_,h=>h
 | 4,_,_,h=>h
 | 5,_,_,h=>h
 | 6,_,_,h=>h
 | 7,_,_,h=>h
 | 8,_,_,h=>h
 | 9,_,_,h=>h
 | 10,_,_,h=>h
 | 11,_,_,h=>h
 | 12,_,_,h=>h
 | _+13,_,_,h=>trivial
theorem arM {F0:(Nat->Prop)->af->Prop} {x:b_} {V:Nat->ag} {v:ag} {l:List Md.Lw}:∀j G W,(if j=12 then fun G w=>bZ 127 3 kT G w v l else kE F0 x V j) G W->kE F0 { x with la:=l } (jm 12 v V) j G W
 | 0,_,_,h=>h
 | 1,_,_,h=>h
 | 2,_,_,h=>h
 | 3,_,_,h=>h
 | 4,_,_,h=>h
 | 5,_,_,h=>h
 | 6,_,_,h=>h
 | 7,_,_,h=>h
 | 8,_,_,h=>h
 | 9,_,_,h=>h
 | 10,_,_,h=>h
 | 11,_,_,h=>h
 | 12,_,_,h=>h
 | _+13,_,_,h=>trivial
def DO {α:Type} (L:Lk) (g lo:Nat) (S:α->af->Prop) (r:R α) (w:af) (e:Ending) (w':af):Prop:=
 bR (fun k=>k<lo/\¬k=g) w w'/\match r with
  | .ok y u=>e=.returned (.tuple #[])/\S y w'/\Rd L g u w'
  | .no u=>e=.panicked (yz (hd u).l)
section
variable {α:Type} {L:Lk} {g lo:Nat} {S:α->af->Prop} {r:R α} {w w':af} {e:Ending} {y:α} {u:List Tk}
theorem DO.ok (hr:r=.ok y u) (hb:bR (fun k=>k<lo/\¬k=g) w w') (hS:S y w') (hR:Rd L g u w'):DO L g lo S r w (.returned (.tuple #[])) w':=by subst hr;exact⟨hb,rfl,hS,hR⟩
theorem DO.no (hr:r=.no u) (hb:bR (fun k=>k<lo/\¬k=g) w w'):DO L g lo S r w (.panicked (yz (hd u).l)) w':=by subst hr;exact⟨hb,rfl⟩
theorem DO.cases (h:DO L g lo S r w e w'):(∃y u,r=.ok y u/\e=.returned (.tuple #[])/\bR (fun k=>k<lo/\¬k=g) w w'/\S y w'/\Rd L g u w')∨(∃u,r=.no u/\e=.panicked (yz (hd u).l)/\bR (fun k=>k<lo/\¬k=g) w w'):=by
 obtain⟨hb,h⟩:=h
 cases r with
 | ok y u=>exact .inl ⟨y,u,rfl,h.1,hb,h.2.1,h.2.2⟩
 | no u=>exact .inr ⟨u,rfl,h,hb⟩
end
theorem iJ {g lo:Nat} {a w:af} (h:Bt g a w):bR (fun k=>k<lo/\¬k=g) a w:=h.mono fun k _ hk=>hk.2
section
variable {L:Lk} {g:Nat} {t:List Tk}
theorem lM {p:Prop} (h:p:=by omega):p:=h
set_option maxRecDepth 100000 in
theorem akK (F0:(Nat->Prop)->af->Prop) (h0:Mv F0) (lo B:Nat) (x:b_) (V:Nat->ag) (d:Nat) (w:af) (hR:Rd L g t w) (hlo:g<lo) (hd:kP x d) (hdl:d<=30001) (hD:qJ F0 lo B x V w):Calls aj 106 #[.pointer (C ⟨g,0,X⟩),.pointer (C ⟨B,0,X⟩)] w (DO L g lo (fun y W=>∃V,qJ F0 lo B y V W) (run (Au x) t) w):=by
 obtain⟨r,hr⟩:∃r,run (Au x) t=r:=⟨_,rfl⟩
 rw[hr];have HS:=A hr;have hg:=hR.blk;have HR:=A hR;have HB:D (Bt g w w):=A (bR.refl _ _);clear hR hr;have HM:=A (Wv h0 x V);have HD:=A hD;have HL:=A hd;have am5:=hD.zx;have hblt:=hD.box.lt;clear hD hd;go_enter Tryz.func106,Tryz.ntmps106;go_wp2_with fail;refine(dL adJ _ (HR.out.low qe) (by decide)).mono ?_;rintro e w1 ⟨b1,⟨i1,rfl,R1⟩|⟨i1,rfl,R1⟩⟩
 · replace HS:=dY HS i1;replace HD:=A (HD.out.up HM.out (w1:=w1) qe);replace HB:D (Bt g w w1):=A qh;replace HR:=A R1;clear b1 R1;clear i1;have lm:U w1 ⟨B,1,X⟩=C (V 1):=HD.out.cell rfl;go_wp2_with fail;go_region_law (first|(rw[if_pos (by rfl)];refine Lib.wp_append_run _ _ _ _ _ rfl _ _ rfl rfl _ _ hrun ?_)|(go_simp;go_at_call 62;refine(afA _ (HR.out.low qe)).mono ?_;rintro e' wa h3;rcases h3.cases with⟨x3,u3,v3,r3,rfl,b3,V3,R3⟩|⟨u3,r3,rfl,b3⟩;rotate_left 1;(have bU:=HB.out;exact⟨rfl,DO.no (dJ HS r3) (iJ qe)⟩);obtain rfl:=V3;obtain⟨v5,w5,hrun,⟨p5,n5,rfl⟩,k5,f5,D5,q5⟩:=HD.out.push abJ fV.map P_ HM.out (w1:=wa) qe (i:=1) rfl (by decide) rfl (y:=x3) (ce:=lZ x3) rfl (by have:=HL.out.va.len;omega);have nG:U wa ⟨B,1,X⟩=C (V 1):=(fA HD.out.box (S:=fun k=>k≠g) qe lM).get rfl;have iM:U (wa.alloc (.cells (lZ x3) 93)) ⟨B,1,X⟩=C (V 1):=(fA HD.out.box (S:=fun k=>k≠g) qe lM).get rfl;dsimp only [lZ] at hrun iM ⊢))
   all_goals
    replace HS:=bY HS r3;have jq:D (qJ F0 lo B { x with va:=x.va++[x3] } (jm 1 (.slice p5 (x.va.length+1) n5) V) (w5.setCell ⟨B,1,X⟩ (.slice p5 (x.va.length+1) n5))):=A (D5.cast arV rfl);have qF:bR (fun k=>k<lo/\¬k=g) w (w5.setCell ⟨B,1,X⟩ (.slice p5 _ n5)):=bR.call (S':=fun k=>k<lo) (iJ qh) q5 (fun k _ h=>h.1);have fM:=R3.low (w2:=w5.setCell ⟨B,1,X⟩ (.slice p5 _ n5)) (q5.mono fun k _ hk=>by have hk':k<=g:=hk;omega);have HQ:=A (ah qF fM);clear D5 q5 R3 b3 hrun k5 f5 qF fM;go_wp2_with fail
    (first|go_end0|refine ae (results_none rfl _ _ _) rfl ?_)
    exact DO.ok (dA HS) HQ.out.1 ⟨_,jq.out⟩ HQ.out.2
 replace HS:=dX HS i1;replace HD:=A (HD.out.up HM.out (w1:=w1) qe);replace HB:D (Bt g w w1):=A qh;replace HR:=A R1;clear b1 R1;clear i1;go_wp2_with fail;refine(dL adq _ (HR.out.low qe) (by decide)).mono ?_;rintro e w2 ⟨b2,⟨i2,rfl,R2⟩|⟨i2,rfl,R2⟩⟩
 · replace HS:=dY HS i2;replace HD:=A (HD.out.up HM.out (w1:=w2) qe);replace HB:D (Bt g w w2):=A qh;replace HR:=A R2;clear b2 R2;clear i2;have lm:U w2 ⟨B,2,X⟩=C (V 2):=HD.out.cell rfl;go_wp2_with fail;go_region_law (first|(rw[if_pos (by rfl)];refine Lib.wp_append_run _ _ _ _ _ rfl _ _ rfl rfl _ _ hrun ?_)|(go_simp;go_at_call 152;refine(ap8 _ (HR.out.low qe)).mono ?_;rintro e' wa h3;rcases h3.cases with⟨x3,u3,v3,r3,rfl,b3,V3,R3⟩|⟨u3,r3,rfl,b3⟩;rotate_left 1;(have bU:=HB.out;exact⟨rfl,DO.no (dJ HS r3) (iJ qe)⟩);obtain⟨_,rfl,P3,rfl,o3⟩:=V3;obtain⟨v5,w5,hrun,⟨p5,n5,rfl⟩,k5,f5,D5,q5⟩:=HD.out.push amE iV.map aeS HM.out (w1:=wa) qe (i:=2) rfl (by decide) rfl (y:=x3) (ce:=dI x3 P3) ⟨P3,rfl,o3⟩ (by have:=HL.out.rs.len;omega);have nG:U wa ⟨B,2,X⟩=C (V 2):=(fA HD.out.box (S:=fun k=>k≠g) qe lM).get rfl;have iM:U (wa.alloc (.cells (dI x3 P3) 111)) ⟨B,2,X⟩=C (V 2):=(fA HD.out.box (S:=fun k=>k≠g) qe lM).get rfl;dsimp only [dI] at hrun iM ⊢))
   all_goals
    replace HS:=bY HS r3;have jq:D (qJ F0 lo B { x with rs:=x.rs++[x3] } (jm 2 (.slice p5 (x.rs.length+1) n5) V) (w5.setCell ⟨B,2,X⟩ (.slice p5 (x.rs.length+1) n5))):=A (D5.cast arQ rfl);have qF:bR (fun k=>k<lo/\¬k=g) w (w5.setCell ⟨B,2,X⟩ (.slice p5 _ n5)):=bR.call (S':=fun k=>k<lo) (iJ qh) q5 (fun k _ h=>h.1);have fM:=R3.low (w2:=w5.setCell ⟨B,2,X⟩ (.slice p5 _ n5)) (q5.mono fun k _ hk=>by have hk':k<=g:=hk;omega);have HQ:=A (ah qF fM);clear D5 q5 R3 b3 hrun k5 f5 qF fM;go_wp2_with fail
    (first|go_end0|refine ae (results_none rfl _ _ _) rfl ?_)
    exact DO.ok (dA HS) HQ.out.1 ⟨_,jq.out⟩ HQ.out.2
 replace HS:=dX HS i2;replace HD:=A (HD.out.up HM.out (w1:=w2) qe);replace HB:D (Bt g w w2):=A qh;replace HR:=A R2;clear b2 R2;clear i2;go_wp2_with fail;refine(dL adD _ (HR.out.low qe) (by decide)).mono ?_;rintro e w3 ⟨b3,⟨i3,rfl,R3⟩|⟨i3,rfl,R3⟩⟩
 · replace HS:=dY HS i3;replace HD:=A (HD.out.up HM.out (w1:=w3) qe);replace HB:D (Bt g w w3):=A qh;replace HR:=A R3;clear b3 R3;clear i3;have lm:U w3 ⟨B,3,X⟩=C (V 3):=HD.out.cell rfl;go_wp2_with fail;go_region_law (first|(rw[if_pos (by rfl)];refine Lib.wp_append_run _ _ _ _ _ rfl _ _ rfl rfl _ _ hrun ?_)|(go_simp;go_at_call 153;refine(arZ _ (HR.out.low qe)).mono ?_;rintro e' wa h3;rcases h3.cases with⟨x3,u3,v3,r3,rfl,b3,V3,R3⟩|⟨u3,r3,rfl,b3⟩;rotate_left 1;(have bU:=HB.out;exact⟨rfl,DO.no (dJ HS r3) (iJ qe)⟩);obtain rfl:=V3;obtain⟨v5,w5,hrun,⟨p5,n5,rfl⟩,k5,f5,D5,q5⟩:=HD.out.push amH jZ.map aeY HM.out (w1:=wa) qe (i:=3) rfl (by decide) rfl (y:=x3) (ce:=lD x3) rfl (by have:=HL.out.st.len;omega);have nG:U wa ⟨B,3,X⟩=C (V 3):=(fA HD.out.box (S:=fun k=>k≠g) qe lM).get rfl;have iM:U (wa.alloc (.cells (lD x3) 114)) ⟨B,3,X⟩=C (V 3):=(fA HD.out.box (S:=fun k=>k≠g) qe lM).get rfl;dsimp only [lD] at hrun iM ⊢))
   all_goals
    replace HS:=bY HS r3;have jq:D (qJ F0 lo B { x with st:=x.st++[x3] } (jm 3 (.slice p5 (x.st.length+1) n5) V) (w5.setCell ⟨B,3,X⟩ (.slice p5 (x.st.length+1) n5))):=A (D5.cast arT rfl);have qF:bR (fun k=>k<lo/\¬k=g) w (w5.setCell ⟨B,3,X⟩ (.slice p5 _ n5)):=bR.call (S':=fun k=>k<lo) (iJ qh) q5 (fun k _ h=>h.1);have fM:=R3.low (w2:=w5.setCell ⟨B,3,X⟩ (.slice p5 _ n5)) (q5.mono fun k _ hk=>by have hk':k<=g:=hk;omega);have HQ:=A (ah qF fM);clear D5 q5 R3 b3 hrun k5 f5 qF fM;go_wp2_with fail
    (first|go_end0|refine ae (results_none rfl _ _ _) rfl ?_)
    exact DO.ok (dA HS) HQ.out.1 ⟨_,jq.out⟩ HQ.out.2
 replace HS:=dX HS i3;replace HD:=A (HD.out.up HM.out (w1:=w3) qe);replace HB:D (Bt g w w3):=A qh;replace HR:=A R3;clear b3 R3;clear i3;go_wp2_with fail;refine(dL ac4 _ (HR.out.low qe) (by decide)).mono ?_;rintro e w4 ⟨b4,⟨i4,rfl,R4⟩|⟨i4,rfl,R4⟩⟩
 · replace HS:=dY HS i4;replace HD:=A (HD.out.up HM.out (w1:=w4) qe);replace HB:D (Bt g w w4):=A qh;replace HR:=A R4;clear b4 R4;clear i4;have lm:U w4 ⟨B,4,X⟩=C (V 4):=HD.out.cell rfl;go_wp2_with fail;go_region_law (first|(rw[if_pos (by rfl)];refine Lib.wp_append_run _ _ _ _ _ rfl _ _ rfl rfl _ _ hrun ?_)|(go_simp;go_at_call 154;refine(ai1 _ (HR.out.low qe)).mono ?_;rintro e' wa h3;rcases h3.cases with⟨x3,u3,v3,r3,rfl,b3,V3,R3⟩|⟨u3,r3,rfl,b3⟩;rotate_left 1;(have bU:=HB.out;exact⟨rfl,DO.no (dJ HS r3) (iJ qe)⟩);obtain rfl:=V3;obtain⟨v5,w5,hrun,⟨p5,n5,rfl⟩,k5,f5,D5,q5⟩:=HD.out.push amB jY.map aeN HM.out (w1:=wa) qe (i:=4) rfl (by decide) rfl (y:=x3) (ce:=lC x3) rfl (by have:=HL.out.be.len;omega);have nG:U wa ⟨B,4,X⟩=C (V 4):=(fA HD.out.box (S:=fun k=>k≠g) qe lM).get rfl;have iM:U (wa.alloc (.cells (lC x3) 116)) ⟨B,4,X⟩=C (V 4):=(fA HD.out.box (S:=fun k=>k≠g) qe lM).get rfl;dsimp only [lC] at hrun iM ⊢))
   all_goals
    replace HS:=bY HS r3;have jq:D (qJ F0 lo B { x with be:=x.be++[x3] } (jm 4 (.slice p5 (x.be.length+1) n5) V) (w5.setCell ⟨B,4,X⟩ (.slice p5 (x.be.length+1) n5))):=A (D5.cast arK rfl);have qF:bR (fun k=>k<lo/\¬k=g) w (w5.setCell ⟨B,4,X⟩ (.slice p5 _ n5)):=bR.call (S':=fun k=>k<lo) (iJ qh) q5 (fun k _ h=>h.1);have fM:=R3.low (w2:=w5.setCell ⟨B,4,X⟩ (.slice p5 _ n5)) (q5.mono fun k _ hk=>by have hk':k<=g:=hk;omega);have HQ:=A (ah qF fM);clear D5 q5 R3 b3 hrun k5 f5 qF fM;go_wp2_with fail
    (first|go_end0|refine ae (results_none rfl _ _ _) rfl ?_)
    exact DO.ok (dA HS) HQ.out.1 ⟨_,jq.out⟩ HQ.out.2
 replace HS:=dX HS i4;replace HD:=A (HD.out.up HM.out (w1:=w4) qe);replace HB:D (Bt g w w4):=A qh;replace HR:=A R4;clear b4 R4;clear i4;go_wp2_with fail;refine(dL ado _ (HR.out.low qe) (by decide)).mono ?_;rintro e w5 ⟨b5,⟨i5,rfl,R5⟩|⟨i5,rfl,R5⟩⟩
 · replace HS:=dY HS i5;replace HD:=A (HD.out.up HM.out (w1:=w5) qe);replace HB:D (Bt g w w5):=A qh;replace HR:=A R5;clear b5 R5;clear i5;have lm:U w5 ⟨B,5,X⟩=C (V 5):=HD.out.cell rfl;go_wp2_with fail;go_region_law (first|(rw[if_pos (by rfl)];refine Lib.wp_append_run _ _ _ _ _ rfl _ _ rfl rfl _ _ hrun ?_)|(go_simp;go_at_call 105;refine(GR _ (HR.out.low qe)).mono ?_;rintro e' wa h3;rcases h3.cases with⟨x3,u3,v3,r3,rfl,b3,V3,R3⟩|⟨u3,r3,rfl,b3⟩;rotate_left 1;(have bU:=HB.out;exact⟨rfl,DO.no (dJ HS r3) (iJ qe)⟩);obtain rfl:=V3;obtain⟨v5,w5,hrun,⟨p5,n5,rfl⟩,k5,f5,D5,q5⟩:=HD.out.push JY dP.map zN HM.out (w1:=wa) qe (i:=5) rfl (by decide) rfl (y:=x3) (ce:=#[.string x3]) rfl (by have:=HL.out.qu.len;omega);have nG:U wa ⟨B,5,X⟩=C (V 5):=(fA HD.out.box (S:=fun k=>k≠g) qe lM).get rfl;have iM:U (wa.alloc (.cells (#[.string x3]) 9)) ⟨B,5,X⟩=C (V 5):=(fA HD.out.box (S:=fun k=>k≠g) qe lM).get rfl))
   all_goals
    replace HS:=bY HS r3;have jq:D (qJ F0 lo B { x with qu:=x.qu++[x3] } (jm 5 (.slice p5 (x.qu.length+1) n5) V) (w5.setCell ⟨B,5,X⟩ (.slice p5 (x.qu.length+1) n5))):=A (D5.cast arO rfl);have qF:bR (fun k=>k<lo/\¬k=g) w (w5.setCell ⟨B,5,X⟩ (.slice p5 _ n5)):=bR.call (S':=fun k=>k<lo) (iJ qh) q5 (fun k _ h=>h.1);have fM:=R3.low (w2:=w5.setCell ⟨B,5,X⟩ (.slice p5 _ n5)) (q5.mono fun k _ hk=>by have hk':k<=g:=hk;omega);have HQ:=A (ah qF fM);clear D5 q5 R3 b3 hrun k5 f5 qF fM;go_wp2_with fail
    (first|go_end0|refine ae (results_none rfl _ _ _) rfl ?_)
    exact DO.ok (dA HS) HQ.out.1 ⟨_,jq.out⟩ HQ.out.2
 replace HS:=dX HS i5;replace HD:=A (HD.out.up HM.out (w1:=w5) qe);replace HB:D (Bt g w w5):=A qh;replace HR:=A R5;clear b5 R5;clear i5;go_wp2_with fail;refine(dL adE _ (HR.out.low qe) (by decide)).mono ?_;rintro e w6 ⟨b6,⟨i6,rfl,R6⟩|⟨i6,rfl,R6⟩⟩
 · replace HS:=dY HS i6;replace HD:=A (HD.out.up HM.out (w1:=w6) qe);replace HB:D (Bt g w w6):=A qh;replace HR:=A R6;clear b6 R6;clear i6;have lm:U w6 ⟨B,6,X⟩=C (V 6):=HD.out.cell rfl;go_wp2_with fail;go_region_law (first|(rw[if_pos (by rfl)];refine Lib.wp_append_run _ _ _ _ _ rfl _ _ rfl rfl _ _ hrun ?_)|(go_simp;go_at_call 105;refine(GR _ (HR.out.low qe)).mono ?_;rintro e' wa h3;rcases h3.cases with⟨x3,u3,v3,r3,rfl,b3,V3,R3⟩|⟨u3,r3,rfl,b3⟩;rotate_left 1;(have bU:=HB.out;exact⟨rfl,DO.no (dJ HS r3) (iJ qe)⟩);obtain rfl:=V3;obtain⟨v5,w5,hrun,⟨p5,n5,rfl⟩,k5,f5,D5,q5⟩:=HD.out.push JY dP.map zN HM.out (w1:=wa) qe (i:=6) rfl (by decide) rfl (y:=x3) (ce:=#[.string x3]) rfl (by have:=HL.out.sm.len;omega);have nG:U wa ⟨B,6,X⟩=C (V 6):=(fA HD.out.box (S:=fun k=>k≠g) qe lM).get rfl;have iM:U (wa.alloc (.cells (#[.string x3]) 9)) ⟨B,6,X⟩=C (V 6):=(fA HD.out.box (S:=fun k=>k≠g) qe lM).get rfl))
   all_goals
    replace HS:=bY HS r3;have jq:D (qJ F0 lo B { x with sm:=x.sm++[x3] } (jm 6 (.slice p5 (x.sm.length+1) n5) V) (w5.setCell ⟨B,6,X⟩ (.slice p5 (x.sm.length+1) n5))):=A (D5.cast arR rfl);have qF:bR (fun k=>k<lo/\¬k=g) w (w5.setCell ⟨B,6,X⟩ (.slice p5 _ n5)):=bR.call (S':=fun k=>k<lo) (iJ qh) q5 (fun k _ h=>h.1);have fM:=R3.low (w2:=w5.setCell ⟨B,6,X⟩ (.slice p5 _ n5)) (q5.mono fun k _ hk=>by have hk':k<=g:=hk;omega);have HQ:=A (ah qF fM);clear D5 q5 R3 b3 hrun k5 f5 qF fM;go_wp2_with fail
    (first|go_end0|refine ae (results_none rfl _ _ _) rfl ?_)
    exact DO.ok (dA HS) HQ.out.1 ⟨_,jq.out⟩ HQ.out.2
 replace HS:=dX HS i6;replace HD:=A (HD.out.up HM.out (w1:=w6) qe);replace HB:D (Bt g w w6):=A qh;replace HR:=A R6;clear b6 R6;clear i6;go_wp2_with fail;refine(dL adG _ (HR.out.low qe) (by decide)).mono ?_;rintro e w7 ⟨b7,⟨i7,rfl,R7⟩|⟨i7,rfl,R7⟩⟩
 · replace HS:=dY HS i7;replace HD:=A (HD.out.up HM.out (w1:=w7) qe);replace HB:D (Bt g w w7):=A qh;replace HR:=A R7;clear b7 R7;clear i7;have lm:U w7 ⟨B,7,X⟩=C (V 7):=HD.out.cell rfl;go_wp2_with fail;go_region_law (first|(rw[if_pos (by rfl)];refine Lib.wp_append_run _ _ _ _ _ rfl _ _ rfl rfl _ _ hrun ?_)|(go_simp;go_at_call 105;refine(GR _ (HR.out.low qe)).mono ?_;rintro e' wa h3;rcases h3.cases with⟨x3,u3,v3,r3,rfl,b3,V3,R3⟩|⟨u3,r3,rfl,b3⟩;rotate_left 1;(have bU:=HB.out;exact⟨rfl,DO.no (dJ HS r3) (iJ qe)⟩);obtain rfl:=V3;obtain⟨v5,w5,hrun,⟨p5,n5,rfl⟩,k5,f5,D5,q5⟩:=HD.out.push JY dP.map zN HM.out (w1:=wa) qe (i:=7) rfl (by decide) rfl (y:=x3) (ce:=#[.string x3]) rfl (by have:=HL.out.ta.len;omega);have nG:U wa ⟨B,7,X⟩=C (V 7):=(fA HD.out.box (S:=fun k=>k≠g) qe lM).get rfl;have iM:U (wa.alloc (.cells (#[.string x3]) 9)) ⟨B,7,X⟩=C (V 7):=(fA HD.out.box (S:=fun k=>k≠g) qe lM).get rfl))
   all_goals
    replace HS:=bY HS r3;have jq:D (qJ F0 lo B { x with ta:=x.ta++[x3] } (jm 7 (.slice p5 (x.ta.length+1) n5) V) (w5.setCell ⟨B,7,X⟩ (.slice p5 (x.ta.length+1) n5))):=A (D5.cast arU rfl);have qF:bR (fun k=>k<lo/\¬k=g) w (w5.setCell ⟨B,7,X⟩ (.slice p5 _ n5)):=bR.call (S':=fun k=>k<lo) (iJ qh) q5 (fun k _ h=>h.1);have fM:=R3.low (w2:=w5.setCell ⟨B,7,X⟩ (.slice p5 _ n5)) (q5.mono fun k _ hk=>by have hk':k<=g:=hk;omega);have HQ:=A (ah qF fM);clear D5 q5 R3 b3 hrun k5 f5 qF fM;go_wp2_with fail
    (first|go_end0|refine ae (results_none rfl _ _ _) rfl ?_)
    exact DO.ok (dA HS) HQ.out.1 ⟨_,jq.out⟩ HQ.out.2
 replace HS:=dX HS i7;replace HD:=A (HD.out.up HM.out (w1:=w7) qe);replace HB:D (Bt g w w7):=A qh;replace HR:=A R7;clear b7 R7;clear i7;go_wp2_with fail;refine(dL OL _ (HR.out.low qe) (by decide)).mono ?_;rintro e w8 ⟨b8,⟨i8,rfl,R8⟩|⟨i8,rfl,R8⟩⟩
 · replace HS:=dY HS i8;replace HD:=A (HD.out.up HM.out (w1:=w8) qe);replace HB:D (Bt g w w8):=A qh;replace HR:=A R8;clear b8 R8;clear i8;have lm:U w8 ⟨B,8,X⟩=C (V 8):=HD.out.cell rfl;go_wp2_with fail;go_region_law (first|(rw[if_pos (by rfl)];refine Lib.wp_append_run _ _ _ _ _ rfl _ _ rfl rfl _ _ hrun ?_)|(go_simp;go_at_call 105;refine(GR _ (HR.out.low qe)).mono ?_;rintro e' wa h3;rcases h3.cases with⟨x3,u3,v3,r3,rfl,b3,V3,R3⟩|⟨u3,r3,rfl,b3⟩;rotate_left 1;(have bU:=HB.out;exact⟨rfl,DO.no (dJ HS r3) (iJ qe)⟩);obtain rfl:=V3;obtain⟨v5,w5,hrun,⟨p5,n5,rfl⟩,k5,f5,D5,q5⟩:=HD.out.push JY dP.map zN HM.out (w1:=wa) qe (i:=8) rfl (by decide) rfl (y:=x3) (ce:=#[.string x3]) rfl (by have:=HL.out.le.len;omega);have nG:U wa ⟨B,8,X⟩=C (V 8):=(fA HD.out.box (S:=fun k=>k≠g) qe lM).get rfl;have iM:U (wa.alloc (.cells (#[.string x3]) 9)) ⟨B,8,X⟩=C (V 8):=(fA HD.out.box (S:=fun k=>k≠g) qe lM).get rfl))
   all_goals
    replace HS:=bY HS r3;have jq:D (qJ F0 lo B { x with le:=x.le++[x3] } (jm 8 (.slice p5 (x.le.length+1) n5) V) (w5.setCell ⟨B,8,X⟩ (.slice p5 (x.le.length+1) n5))):=A (D5.cast arN rfl);have qF:bR (fun k=>k<lo/\¬k=g) w (w5.setCell ⟨B,8,X⟩ (.slice p5 _ n5)):=bR.call (S':=fun k=>k<lo) (iJ qh) q5 (fun k _ h=>h.1);have fM:=R3.low (w2:=w5.setCell ⟨B,8,X⟩ (.slice p5 _ n5)) (q5.mono fun k _ hk=>by have hk':k<=g:=hk;omega);have HQ:=A (ah qF fM);clear D5 q5 R3 b3 hrun k5 f5 qF fM;go_wp2_with fail
    (first|go_end0|refine ae (results_none rfl _ _ _) rfl ?_)
    exact DO.ok (dA HS) HQ.out.1 ⟨_,jq.out⟩ HQ.out.2
 replace HS:=dX HS i8;replace HD:=A (HD.out.up HM.out (w1:=w8) qe);replace HB:D (Bt g w w8):=A qh;replace HR:=A R8;clear b8 R8;clear i8;go_wp2_with fail;refine(dL ac7 _ (HR.out.low qe) (by decide)).mono ?_;rintro e w9 ⟨b9,⟨i9,rfl,R9⟩|⟨i9,rfl,R9⟩⟩
 · replace HS:=dY HS i9;replace HD:=A (HD.out.up HM.out (w1:=w9) qe);replace HB:D (Bt g w w9):=A qh;replace HR:=A R9;clear b9 R9;clear i9;have lm:U w9 ⟨B,9,X⟩=C (V 9):=HD.out.cell rfl;go_wp2_with fail;go_region_law (first|(rw[if_pos (by rfl)];refine Lib.wp_append_run _ _ _ _ _ rfl _ _ rfl rfl _ _ hrun ?_)|(go_simp;go_at_call 105;refine(GR _ (HR.out.low qe)).mono ?_;rintro e' wa h3;rcases h3.cases with⟨x3,u3,v3,r3,rfl,b3,V3,R3⟩|⟨u3,r3,rfl,b3⟩;rotate_left 1;(have bU:=HB.out;exact⟨rfl,DO.no (dJ HS r3) (iJ qe)⟩);obtain rfl:=V3;obtain⟨v5,w5,hrun,⟨p5,n5,rfl⟩,k5,f5,D5,q5⟩:=HD.out.push JY dP.map zN HM.out (w1:=wa) qe (i:=9) rfl (by decide) rfl (y:=x3) (ce:=#[.string x3]) rfl (by have:=HL.out.co.len;omega);have nG:U wa ⟨B,9,X⟩=C (V 9):=(fA HD.out.box (S:=fun k=>k≠g) qe lM).get rfl;have iM:U (wa.alloc (.cells (#[.string x3]) 9)) ⟨B,9,X⟩=C (V 9):=(fA HD.out.box (S:=fun k=>k≠g) qe lM).get rfl))
   all_goals
    replace HS:=bY HS r3;have jq:D (qJ F0 lo B { x with co:=x.co++[x3] } (jm 9 (.slice p5 (x.co.length+1) n5) V) (w5.setCell ⟨B,9,X⟩ (.slice p5 (x.co.length+1) n5))):=A (D5.cast arL rfl);have qF:bR (fun k=>k<lo/\¬k=g) w (w5.setCell ⟨B,9,X⟩ (.slice p5 _ n5)):=bR.call (S':=fun k=>k<lo) (iJ qh) q5 (fun k _ h=>h.1);have fM:=R3.low (w2:=w5.setCell ⟨B,9,X⟩ (.slice p5 _ n5)) (q5.mono fun k _ hk=>by have hk':k<=g:=hk;omega);have HQ:=A (ah qF fM);clear D5 q5 R3 b3 hrun k5 f5 qF fM;go_wp2_with fail
    (first|go_end0|refine ae (results_none rfl _ _ _) rfl ?_)
    exact DO.ok (dA HS) HQ.out.1 ⟨_,jq.out⟩ HQ.out.2
 replace HS:=dX HS i9;replace HD:=A (HD.out.up HM.out (w1:=w9) qe);replace HB:D (Bt g w w9):=A qh;replace HR:=A R9;clear b9 R9;clear i9;go_wp2_with fail;refine(dL adt _ (HR.out.low qe) (by decide)).mono ?_;rintro e eX ⟨b10,⟨i10,rfl,jK⟩|⟨i10,rfl,jK⟩⟩
 · replace HS:=dY HS i10;replace HD:=A (HD.out.up HM.out (w1:=eX) qe);replace HB:D (Bt g w eX):=A qh;replace HR:=A jK;clear b10 jK;clear i10;have lm:U eX ⟨B,10,X⟩=C (V 10):=HD.out.cell rfl;go_wp2_with fail;go_region_law (first|(rw[if_pos (by rfl)];refine Lib.wp_append_run _ _ _ _ _ rfl _ _ rfl rfl _ _ hrun ?_)|(go_simp;go_at_call 155;refine(P5 _ (HR.out.low qe)).mono ?_;rintro e' wa h3;rcases h3.cases with⟨x3,u3,v3,r3,rfl,b3,V3,R3⟩|⟨u3,r3,rfl,b3⟩;rotate_left 1;(have bU:=HB.out;exact⟨rfl,DO.no (dJ HS r3) (iJ qe)⟩);obtain⟨_,rfl,P3,rfl,o3⟩:=V3;obtain⟨v5,w5,hrun,⟨p5,n5,rfl⟩,k5,f5,D5,q5⟩:=HD.out.push amF gT.map aeT HM.out (w1:=wa) qe (i:=10) rfl (by decide) rfl (y:=x3) (ce:=fJ x3 P3) ⟨P3,rfl,o3⟩ (by have:=HL.out.ro.len;omega);have nG:U wa ⟨B,10,X⟩=C (V 10):=(fA HD.out.box (S:=fun k=>k≠g) qe lM).get rfl;have iM:U (wa.alloc (.cells (fJ x3 P3) 119)) ⟨B,10,X⟩=C (V 10):=(fA HD.out.box (S:=fun k=>k≠g) qe lM).get rfl;dsimp only [fJ] at hrun iM ⊢))
   all_goals
    replace HS:=bY HS r3;have jq:D (qJ F0 lo B { x with ro:=x.ro++[x3] } (jm 10 (.slice p5 (x.ro.length+1) n5) V) (w5.setCell ⟨B,10,X⟩ (.slice p5 (x.ro.length+1) n5))):=A (D5.cast arP rfl);have qF:bR (fun k=>k<lo/\¬k=g) w (w5.setCell ⟨B,10,X⟩ (.slice p5 _ n5)):=bR.call (S':=fun k=>k<lo) (iJ qh) q5 (fun k _ h=>h.1);have fM:=R3.low (w2:=w5.setCell ⟨B,10,X⟩ (.slice p5 _ n5)) (q5.mono fun k _ hk=>by have hk':k<=g:=hk;omega);have HQ:=A (ah qF fM);clear D5 q5 R3 b3 hrun k5 f5 qF fM;go_wp2_with fail
    (first|go_end0|refine ae (results_none rfl _ _ _) rfl ?_)
    exact DO.ok (dA HS) HQ.out.1 ⟨_,jq.out⟩ HQ.out.2
 replace HS:=dX HS i10;replace HD:=A (HD.out.up HM.out (w1:=eX) qe);replace HB:D (Bt g w eX):=A qh;replace HR:=A jK;clear b10 jK;clear i10;go_wp2_with fail;refine(dL adB _ (HR.out.low qe) (by decide)).mono ?_;rintro e iC ⟨b11,⟨i11,rfl,lW⟩|⟨i11,rfl,lW⟩⟩
 · replace HS:=dY HS i11;replace HD:=A (HD.out.up HM.out (w1:=iC) qe);replace HB:D (Bt g w iC):=A qh;replace HR:=A lW;clear b11 lW;clear i11;have lm:U iC ⟨B,11,X⟩=C (V 11):=HD.out.cell rfl;go_wp2_with fail;go_region_law (first|(rw[if_pos (by rfl)];refine Lib.wp_append_run _ _ _ _ _ rfl _ _ rfl rfl _ _ hrun ?_)|(go_simp;go_at_call 156;refine(arG _ (HR.out.low qe)).mono ?_;rintro e' wa h3;rcases h3.cases with⟨x3,u3,v3,r3,rfl,b3,V3,R3⟩|⟨u3,r3,rfl,b3⟩;rotate_left 1;(have bU:=HB.out;exact⟨rfl,DO.no (dJ HS r3) (iJ qe)⟩);obtain⟨_,rfl,P3,rfl,o3⟩:=V3;obtain⟨v5,w5,hrun,⟨p5,n5,rfl⟩,k5,f5,D5,q5⟩:=HD.out.push amG kU.map aeV HM.out (w1:=wa) qe (i:=11) rfl (by decide) rfl (y:=x3) (ce:=fB x3 P3) ⟨P3,rfl,o3⟩ (by have:=HL.out.ss.len;omega);have nG:U wa ⟨B,11,X⟩=C (V 11):=(fA HD.out.box (S:=fun k=>k≠g) qe lM).get rfl;have iM:U (wa.alloc (.cells (fB x3 P3) 122)) ⟨B,11,X⟩=C (V 11):=(fA HD.out.box (S:=fun k=>k≠g) qe lM).get rfl;dsimp only [fB] at hrun iM ⊢))
   all_goals
    replace HS:=bY HS r3;have jq:D (qJ F0 lo B { x with ss:=x.ss++[x3] } (jm 11 (.slice p5 (x.ss.length+1) n5) V) (w5.setCell ⟨B,11,X⟩ (.slice p5 (x.ss.length+1) n5))):=A (D5.cast arS rfl);have qF:bR (fun k=>k<lo/\¬k=g) w (w5.setCell ⟨B,11,X⟩ (.slice p5 _ n5)):=bR.call (S':=fun k=>k<lo) (iJ qh) q5 (fun k _ h=>h.1);have fM:=R3.low (w2:=w5.setCell ⟨B,11,X⟩ (.slice p5 _ n5)) (q5.mono fun k _ hk=>by have hk':k<=g:=hk;omega);have HQ:=A (ah qF fM);clear D5 q5 R3 b3 hrun k5 f5 qF fM;go_wp2_with fail
    (first|go_end0|refine ae (results_none rfl _ _ _) rfl ?_)
    exact DO.ok (dA HS) HQ.out.1 ⟨_,jq.out⟩ HQ.out.2
 replace HS:=dX HS i11;replace HD:=A (HD.out.up HM.out (w1:=iC) qe);replace HB:D (Bt g w iC):=A qh;replace HR:=A lW;clear b11 lW;clear i11;go_wp2_with fail;refine(dL ac5 _ (HR.out.low qe) (by decide)).mono ?_;rintro e lK ⟨b12,⟨i12,rfl,qy⟩|⟨i12,rfl,qy⟩⟩
 · replace HS:=dY HS i12;replace HD:=A (HD.out.up HM.out (w1:=lK) qe);replace HB:D (Bt g w lK):=A qh;replace HR:=A qy;clear b12 qy;clear i12;have lm:U lK ⟨B,12,X⟩=C (V 12):=HD.out.cell rfl;go_wp2_with fail;go_region_law (first|(rw[if_pos (by rfl)];refine Lib.wp_append_run _ _ _ _ _ rfl _ _ rfl rfl _ _ hrun ?_)|(go_simp;go_at_call 157;refine(anT _ (HR.out.low qe)).mono ?_;rintro e' wa h3;rcases h3.cases with⟨x3,u3,v3,r3,rfl,b3,V3,R3⟩|⟨u3,r3,rfl,b3⟩;rotate_left 1;(have bU:=HB.out;exact⟨rfl,DO.no (dJ HS r3) (iJ qe)⟩);obtain⟨_,rfl,P3,rfl,o3⟩:=V3;obtain⟨v5,w5,hrun,⟨p5,n5,rfl⟩,k5,f5,D5,q5⟩:=HD.out.push gLw kT.map aeQ HM.out (w1:=wa) qe (i:=12) rfl (by decide) rfl (y:=x3) (ce:=fo x3 P3) ⟨P3,rfl,o3⟩ (by have:=HL.out.la.len;omega);have nG:U wa ⟨B,12,X⟩=C (V 12):=(fA HD.out.box (S:=fun k=>k≠g) qe lM).get rfl;have iM:U (wa.alloc (.cells (fo x3 P3) 127)) ⟨B,12,X⟩=C (V 12):=(fA HD.out.box (S:=fun k=>k≠g) qe lM).get rfl;dsimp only [fo] at hrun iM ⊢))
   all_goals
    replace HS:=bY HS r3;have jq:D (qJ F0 lo B { x with la:=x.la++[x3] } (jm 12 (.slice p5 (x.la.length+1) n5) V) (w5.setCell ⟨B,12,X⟩ (.slice p5 (x.la.length+1) n5))):=A (D5.cast arM rfl);have qF:bR (fun k=>k<lo/\¬k=g) w (w5.setCell ⟨B,12,X⟩ (.slice p5 _ n5)):=bR.call (S':=fun k=>k<lo) (iJ qh) q5 (fun k _ h=>h.1);have fM:=R3.low (w2:=w5.setCell ⟨B,12,X⟩ (.slice p5 _ n5)) (q5.mono fun k _ hk=>by have hk':k<=g:=hk;omega);have HQ:=A (ah qF fM);clear D5 q5 R3 b3 hrun k5 f5 qF fM;go_wp2_with fail
    (first|go_end0|refine ae (results_none rfl _ _ _) rfl ?_)
    exact DO.ok (dA HS) HQ.out.1 ⟨_,jq.out⟩ HQ.out.2
 replace HS:=dX HS i12;replace HD:=A (HD.out.up HM.out (w1:=lK) qe);replace HB:D (Bt g w lK):=A qh;replace HR:=A qy;clear b12 qy;clear i12;go_wp2_with fail;refine(BC _ (HR.out.low qe)).mono ?_;rintro e LF ⟨rfl,I9⟩;have bU:=HB.out;go_wp2_with fail;exact⟨rfl,DO.no (Lc HS) (iJ (by have q:Bt g _ LF:=bR.of I9;exact qe))⟩
end
end Ps
namespace Ps
open Ps.P (rt bd len)
open Go.RowKit
open Lx (Tk)
open Md
set_option maxHeartbeats 2000000
def Im (z:Nat):(Nat->Prop)->af->Prop:=fun G w=>G z/\bT w z 53 #[.string ⟨#[]⟩,.slice X 0 0,.slice X 0 0,.slice X 0 0,.slice X 0 0,.slice X 0 0,.slice X 0 0,.slice X 0 0,.slice X 0 0,.slice X 0 0,.slice X 0 0,.slice X 0 0,.slice X 0 0]
theorem Yg (z:Nat):Mv (Im z):=zA
structure aie (L:Lk) (g:Nat) (r:R b_) (K:b_->P b_) (B:Nat) (w:af) (k:Nat) (wr:af):Prop where
 ex:∃x V d u,run (bd (yF k x) K) u=r/\u.length<k/\kP x d/\d+u.length<=30001/\qJ (Im w.heap.size) w.heap.size B x V wr/\Rd L g u wr
 bt:Bt g w wr
theorem sM {α:Type} {T:TypeId} {k:Nat} {R:Rec α} {G:Nat->Prop} {w:af} {v:ag} {l:List α} (hm:fC R) (hs:iH k R) (h:bZ T k R G w v l) (hn:l.length<=1000000):∃p m c,v=.slice p m c/\Rw k R G w l p m:=by
 obtain⟨p,c,h1,h2⟩:=h.rw hm hs hn;exact⟨p,_,c,h1,h2⟩
theorem arW {z lo B d:Nat} {x:b_} {V:Nat->ag} {w:af} (h:qJ (Im z) lo B x V w) (hd:kP x d) (hdl:d<=30001):∃P,bT w B 53 (bX x P)/\bT w z 53 #[.string ⟨#[]⟩,.slice X 0 0,.slice X 0 0,.slice X 0 0,.slice X 0 0,.slice X 0 0,.slice X 0 0,.slice X 0 0,.slice X 0 0,.slice X 0 0,.slice X 0 0,.slice X 0 0,.slice X 0 0]/\iT (fun k=>lo<=k/\¬k=z/\¬k=B) w x P:=by
 have hm:=Wv (Yg z) x V;have h0:∀G,kE (Im z) x V 0 G w->G z:=fun G h=>h.1;have Z0:=h.part hm 0;obtain⟨p1,m1,c1,e1,r1⟩:=sM fV.map P_ (h.off hm h0 (j:=1) (by decide)) (by have:=hd.va.len;omega);obtain⟨p2,m2,c2,e2,r2⟩:=sM iV.map aeS (h.off hm h0 (j:=2) (by decide)) (by have:=hd.rs.len;omega);obtain⟨p3,m3,c3,e3,r3⟩:=sM jZ.map aeY (h.off hm h0 (j:=3) (by decide)) (by have:=hd.st.len;omega);obtain⟨p4,m4,c4,e4,r4⟩:=sM jY.map aeN (h.off hm h0 (j:=4) (by decide)) (by have:=hd.be.len;omega);obtain⟨p5,m5,c5,e5,r5⟩:=sM dP.map zN (h.off hm h0 (j:=5) (by decide)) (by have:=hd.qu.len;omega);obtain⟨p6,m6,c6,e6,r6⟩:=sM dP.map zN (h.off hm h0 (j:=6) (by decide)) (by have:=hd.sm.len;omega);obtain⟨p7,m7,c7,e7,r7⟩:=sM dP.map zN (h.off hm h0 (j:=7) (by decide)) (by have:=hd.ta.len;omega);obtain⟨p8,m8,c8,e8,r8⟩:=sM dP.map zN (h.off hm h0 (j:=8) (by decide)) (by have:=hd.le.len;omega);obtain⟨p9,m9,c9,e9,r9⟩:=sM dP.map zN (h.off hm h0 (j:=9) (by decide)) (by have:=hd.co.len;omega);obtain⟨oF,m10,c10,e10,jC⟩:=sM gT.map aeT (h.off hm h0 (j:=10) (by decide)) (by have:=hd.ro.len;omega);obtain⟨C_,m11,c11,e11,rF⟩:=sM kU.map aeV (h.off hm h0 (j:=11) (by decide)) (by have:=hd.ss.len;omega);obtain⟨EP,m12,c12,e12,Dl⟩:=sM kT.map aeQ (h.off hm h0 (j:=12) (by decide)) (by have:=hd.la.len;omega);have hb:=h.box;rw[e1,e2,e3,e4,e5,e6,e7,e8,e9,e10,e11,e12] at hb;exact⟨⟨p1,m1,c1,p2,m2,c2,p3,m3,c3,p4,m4,c4,p5,m5,c5,p6,m6,c6,p7,m7,c7,p8,m8,c8,p9,m9,c9,oF,m10,c10,C_,m11,c11,EP,m12,c12⟩,hb,Z0.2,⟨r1,r2,r3,r4,r5,r6,r7,r8,r9,jC,rF,Dl⟩⟩
section
variable {L:Lk} {g:Nat} {t:List Tk}
set_option maxRecDepth 100000 in
theorem Qe (w:af) (hR:Rd L g t w):Calls aj 64 #[.pointer (C ⟨g,0,X⟩)] w (PO L g (VR gH) (run sit t) w):=by
 have HN:D (∀x v,run ui t=.ok x v->x.size<=20000/\v.length<=30000):=A fun x v h=>by
  obtain⟨h1,d,h2,h3⟩:=Eo.out hR.gd h;exact⟨h3,by have:=hR.small;omega⟩
 obtain⟨r,hr⟩:∃r,run sit t=r:=⟨_,rfl⟩
 rw[hr];have HS:=A hr;have hg:=hR.blk;have HR:=A hR;have HB:D (Bt g w w):=A (bR.refl _ _);clear hR hr;have Z:=A (bT.new (w:=w) (t:=53) (c:=#[.string ⟨#[]⟩,.slice X 0 0,.slice X 0 0,.slice X 0 0,.slice X 0 0,.slice X 0 0,.slice X 0 0,.slice X 0 0,.slice X 0 0,.slice X 0 0,.slice X 0 0,.slice X 0 0,.slice X 0 0]));go_enter Tryz.func64,Tryz.ntmps64;go_wp2_with fail;refine(GR _ (HR.out.low qe)).mono ?_;rintro e w1 h1;rcases h1.cases with⟨x1,u1,v1,r1,rfl,b1,V1,R1⟩|⟨u1,r1,rfl,b1⟩
 rotate_left 1
 · have bU:=HB.out;go_wp2_with fail;exact⟨rfl,PO.no (dJ HS (by assumption)) qe⟩
 replace HS:=bY HS r1;have Ag:=A (HN.out _ _ r1);replace Z:=A (bS (w2:=w1) Z.out qe);replace HB:D (Bt g w w1):=A qh;replace HR:=A R1;clear b1 R1;clear r1 h1;obtain rfl:=V1;have hz1:=Z.out.lt;have hd1:D (qJ (Im w.heap.size) w.heap.size w1.heap.size (Dr x1) (fun _=>.slice X 0 0) (w1.alloc (.cells #[.string x1,.slice X 0 0,.slice X 0 0,.slice X 0 0,.slice X 0 0,.slice X 0 0,.slice X 0 0,.slice X 0 0,.slice X 0 0,.slice X 0 0,.slice X 0 0,.slice X 0 0,.slice X 0 0] 53))):=A (g_.new bT.new (Nat.le_of_lt hz1) ⟨⟨Nat.le_refl _,by omega⟩,bS Z.out qe⟩ zA fun j hj G=>(match j,hj with|1,_=>bZ.nil|2,_=>bZ.nil|3,_=>bZ.nil|4,_=>bZ.nil|5,_=>bZ.nil|6,_=>bZ.nil|7,_=>bZ.nil|8,_=>bZ.nil|9,_=>bZ.nil|10,_=>bZ.nil|11,_=>bZ.nil|12,_=>bZ.nil|n+13,_=>trivial));obtain⟨K,hK⟩:∃K:b_->P b_,(fun x=>bd fU fun _=>rt x)=K:=⟨_,rfl⟩
 have HK:=A hK;replace HS:D (run (bd (yF FU (Dr x1)) K) u1=r):=A (by rw[← hK];exact HS.out);clear hK Z HN;go_wp2_with (refine afH 53 13 M7.2 rfl _ _ rfl _ #[.string x1,.slice X 0 0,.slice X 0 0,.slice X 0 0,.slice X 0 0,.slice X 0 0,.slice X 0 0,.slice X 0 0,.slice X 0 0,.slice X 0 0,.slice X 0 0,.slice X 0 0,.slice X 0 0] rfl rfl rfl rfl (by simp[Value.oneCell']) ?_)
 go_wp2_with fail;have HR1:D (Rd L g u1 (w1.alloc (.cells #[.string x1,.slice X 0 0,.slice X 0 0,.slice X 0 0,.slice X 0 0,.slice X 0 0,.slice X 0 0,.slice X 0 0,.slice X 0 0,.slice X 0 0,.slice X 0 0,.slice X 0 0,.slice X 0 0] 53))):=A (HR.out.low qe);have HB1:D (Bt g w (w1.alloc (.cells #[.string x1,.slice X 0 0,.slice X 0 0,.slice X 0 0,.slice X 0 0,.slice X 0 0,.slice X 0 0,.slice X 0 0,.slice X 0 0,.slice X 0 0,.slice X 0 0,.slice X 0 0,.slice X 0 0] 53))):=A qh;clear HR HB;dsimp only [Act.put];go_loopg [] FU (aie L g r K w1.heap.size w)
 case atStart=>exact⟨⟨Dr x1,_,0,u1,HS.out,by have:=Ag.out;unfold FU;omega,ae_ Ag.out.1,by have:=Ag.out;omega,hd1.out,HR1.out⟩,HB1.out⟩
 case round=>
  obtain⟨⟨x,V,d,u,hs,hk,hx,hl,hd,hR⟩,hb⟩:=hrel;clear HS HB1 HR1 Ag hd1;obtain⟨k,rfl⟩:∃k,gk=k+1:=⟨gk-1,by omega⟩
  rw[yF] at hs;have HM:=A (Wv (Yg w.heap.size) x V);have HL:=A hl;have HKK:=A hk;have HX:=A hx;have lT:D (∀y v,run (Au x) u=.ok y v->∃c,v.length+c=u.length/\1<=c/\kP y (d+c)):=A fun y v h=>by
   obtain⟨h1,c,h2,h3⟩:=(aaM hx).out hR.gd h;have:=(aam x).out hR.gd h;exact⟨c,h2,by omega,h3⟩
  have HD:=A hd;have HR:=A hR;have HB:=A hb;have HS:=A hs;have hbl:=hd.box.lt;clear hl hk hx hd hR hb hs;go_wp2_with fail;refine(dL qD _ (HR.out.low qe) (by decide)).mono ?_;rintro e w8 ⟨b8,⟨i8,rfl,R8⟩|⟨i8,rfl,R8⟩⟩
  · replace HS:=nJ (yI HS i8);replace HS:D (run (bd fU fun _=>rt x) u.tail=r):=A (by have h:=HS.out;rw[← HK.out] at h;exact h);replace HD:=A (HD.out.up HM.out (w1:=w8) qe);replace HB:D (Bt g w w8):=A qh;replace HR:=A R8;clear b8 R8;clear i8 lT;have sw:=HD.out.box.lt;go_wp2_with fail;refine(mg _ (HR.out.low qe)).mono ?_;rintro e w9 h9;rcases h9.cases with⟨x9,u9,v9,r9,rfl,b9,V9,R9⟩|⟨u9,r9,rfl,b9⟩
    rotate_left 1
    · have bU:=HB.out;go_wp2_with fail;exact⟨rfl,PO.no (dJ HS (by assumption)) qe⟩
    replace HS:=bY HS r9;replace HD:=A (HD.out.up HM.out (w1:=w9) qe);replace HB:D (Bt g w w9):=A qh;replace HR:=A R9;clear b9 R9;clear r9 h9;obtain rfl:=V9;obtain⟨P,hy,hz,ho⟩:=arW HD.out HX.out (by have:=HL.out;omega);have Y:=A hy;have Z:=A hz;have qW:∀W,bR (fun k=>w.heap.size<=k/\¬k=w.heap.size/\¬k=w1.heap.size) w9 W->gH (fun b=>w.heap.size<=b) W x (bX x P):=fun W q=>⟨P,rfl,ho.map q.size fun b hb hlt=>⟨hb.1,q.block b hlt hb⟩⟩
    clear hy hz ho HD HM HX;obtain⟨W,hP⟩:=gM (c:=bX x P) Z.out M7 (ZV _ _) rfl;have gY:=hP.bt;have eT:=A hP.box;have gZ:=hP.size;go_wp2_with (first|(refine wpList_load_row rfl 53 _ rfl _ rfl 53 _ (0,0) _ Y.out Tryz.underlying53 rfl (by kernel_rfl) ?_)|(refine gN rfl 53 _ _ rfl w.heap.size _ rfl rfl hP ?_))
    have bU:=HB.out;refine ae (v:=.agg (bX x P)) ?_ rfl (PO.ok (dA HS) qe ⟨_,rfl,qW _ qe⟩ (HR.out.low qe));exact results_cell_row rfl _ _ w.heap.size 53 _ (0,0) _ rfl eT.out Tryz.underlying53 rfl (by kernel_rfl)
  · replace HS:=jG (yH HS i8);replace HD:=A (HD.out.up HM.out (w1:=w8) qe);replace HB:D (Bt g w w8):=A qh;replace HR:=A R8;clear b8 R8;clear i8;have sw:=HD.out.box.lt;go_wp2_with fail;refine(akK (Im w.heap.size) (Yg _) w.heap.size w1.heap.size x V d _ (HR.out.low qe) hg HX.out (by have:=HL.out;omega) (HD.out.up HM.out qe)).mono ?_;rintro e w9 h9;rcases h9.cases with⟨y9,u9,r9,rfl,b9,⟨V9,D9⟩,R9⟩|⟨u9,r9,rfl,b9⟩
    rotate_left 1
    · have bU:=HB.out;go_wp2_with fail;exact⟨rfl,PO.no (dJ HS r9) (bR.call (S':=fun k=>k<w.heap.size/\¬k=g) qe b9 (fun k hk hs=>⟨hk,hs⟩))⟩
    have FN:=A (lT.out _ _ r9);replace HS:=bY HS r9;replace HB:D (Bt g w w9):=A (by have bU:=HB.out;exact bR.call (S':=fun k=>k<w.heap.size/\¬k=g) bU b9 (fun k hk hs=>⟨hk,hs⟩));replace HD:=A D9;replace HR:=A R9;clear D9 R9 b9 r9 h9 HM HX lT;go_wp2_with fail;go_roundg k
    case measure=>omega
    case rel=>
     obtain⟨c,h1,h2,h3⟩:=FN.out;exact⟨⟨y9,V9,d+c,u9,HS.out,by have:=HKK.out;omega,h3,by have:=HL.out;omega,HD.out,HR.out⟩,HB.out⟩
end
end Ps
namespace Ps
open Ps.P (len)
open Go.RowKit
open Lx (Tk)
open Md
set_option maxHeartbeats 16000000
def A7 (F0:(Nat->Prop)->af->Prop) (x:dx) (V:Nat->ag):Nat->(Nat->Prop)->af->Prop
 | 0=>F0
 | 1=>fun G w=>bZ 93 3 fV G w (V 1) x.pa
 | 2=>fun G w=>bZ 53 13 gH G w (V 2) x.si
 | 3=>fun G w=>bZ 73 3 ng G w (V 3) x.li
 | _+4=>fun _ _=>True
theorem Ko {F0:(Nat->Prop)->af->Prop} (h0:Mv F0) (x:dx) (V:Nat->ag):∀j,Mv (A7 F0 x V j)
 | 0=>h0
 | 1=>pY fV.map
 | 2=>pY gH.map
 | 3=>pY ng.map
 | _+4=>Kr
abbrev CW (F0:(Nat->Prop)->af->Prop) (lo B:Nat) (x:dx) (V:Nat->ag) (W:af):Prop:=g_ lo B 27 #[.string x.nm,V 1,V 2,V 3] (A7 F0 x V) W
theorem aoi {F0:(Nat->Prop)->af->Prop} {x:dx} {V:Nat->ag} {v:ag} {l:List Val}:∀j G W,(if j=1 then fun G w=>bZ 93 3 fV G w v l else A7 F0 x V j) G W->A7 F0 { x with pa:=l } (jm 1 v V) j G W
 | 0,_,_,h=>h
 | 1,_,_,h=>h
 | 2,_,_,h=>h
 | 3,_,_,h=>h
 | _+4,_,_,h=>trivial
theorem aoj {F0:(Nat->Prop)->af->Prop} {x:dx} {V:Nat->ag} {v:ag} {l:List b_}:∀j G W,(if j=2 then fun G w=>bZ 53 13 gH G w v l else A7 F0 x V j) G W->A7 F0 { x with si:=l } (jm 2 v V) j G W
 | 0,_,_,h=>h
 | 1,_,_,h=>h
 | 2,_,_,h=>h
 | 3,_,_,h=>h
 | _+4,_,_,h=>trivial
theorem aoh {F0:(Nat->Prop)->af->Prop} {x:dx} {V:Nat->ag} {v:ag} {l:List gz}:∀j G W,(if j=3 then fun G w=>bZ 73 3 ng G w v l else A7 F0 x V j) G W->A7 F0 { x with li:=l } (jm 3 v V) j G W
 | 0,_,_,h=>h
 | 1,_,_,h=>h
 | 2,_,_,h=>h
 | 3,_,_,h=>h
 | _+4,_,_,h=>trivial
section
variable {L:Lk} {g:Nat} {t:List Tk}
set_option maxRecDepth 100000 in
theorem apw (F0:(Nat->Prop)->af->Prop) (h0:Mv F0) (lo B:Nat) (x:dx) (V:Nat->ag) (d:Nat) (w:af) (hR:Rd L g t w) (hlo:g<lo) (hd:qG x d) (hdl:d<=30001) (hD:CW F0 lo B x V w):Calls aj 32 #[.pointer (C ⟨g,0,X⟩),.pointer (C ⟨B,0,X⟩)] w (DO L g lo (fun y W=>∃V,CW F0 lo B y V W) (run (prt x) t) w):=by
 obtain⟨r,hr⟩:∃r,run (prt x) t=r:=⟨_,rfl⟩
 rw[hr];have HS:=A hr;have hg:=hR.blk;have HR:=A hR;have HB:D (Bt g w w):=A (bR.refl _ _);clear hR hr;have HM:=A (Ko h0 x V);have HD:=A hD;have HL:=A hd;have am5:=hD.zx;have hblt:=hD.box.lt;clear hD hd;go_enter Tryz.func32,Tryz.ntmps32;go_wp2_with fail;refine(dL adm _ (HR.out.low qe) (by decide)).mono ?_;rintro e w1 ⟨b1,⟨i1,rfl,R1⟩|⟨i1,rfl,R1⟩⟩
 · replace HS:=dY HS i1;replace HD:=A (HD.out.up HM.out (w1:=w1) qe);replace HB:D (Bt g w w1):=A qh;replace HR:=A R1;clear b1 R1;clear i1;have lm:U w1 ⟨B,1,X⟩=C (V 1):=HD.out.cell rfl;go_wp2_with fail;go_region_law (first|(rw[if_pos (by rfl)];refine Lib.wp_append_run _ _ _ _ _ rfl _ _ rfl rfl _ _ hrun ?_)|(go_simp;go_at_call 62;refine(afA _ (HR.out.low qe)).mono ?_;rintro e' wa h3;rcases h3.cases with⟨x3,u3,v3,r3,rfl,b3,V3,R3⟩|⟨u3,r3,rfl,b3⟩;rotate_left 1;(have bU:=HB.out;exact⟨rfl,DO.no (dJ HS r3) (iJ qe)⟩);obtain rfl:=V3;obtain⟨v5,w5,hrun,⟨p5,n5,rfl⟩,k5,f5,D5,q5⟩:=HD.out.push abJ fV.map P_ HM.out (w1:=wa) qe (i:=1) rfl (by decide) rfl (y:=x3) (ce:=lZ x3) rfl (by have:=HL.out.pa.len;omega);have nG:U wa ⟨B,1,X⟩=C (V 1):=(fA HD.out.box (S:=fun k=>k≠g) qe (by omega)).get rfl;have iM:U (wa.alloc (.cells (lZ x3) 93)) ⟨B,1,X⟩=C (V 1):=(fA HD.out.box (S:=fun k=>k≠g) qe (by omega)).get rfl;dsimp only [lZ] at hrun iM ⊢))
   all_goals
    replace HS:=bY HS r3;have jq:D (CW F0 lo B { x with pa:=x.pa++[x3] } (jm 1 (.slice p5 (x.pa.length+1) n5) V) (w5.setCell ⟨B,1,X⟩ (.slice p5 (x.pa.length+1) n5))):=A (D5.cast aoi rfl);have qF:bR (fun k=>k<lo/\¬k=g) w (w5.setCell ⟨B,1,X⟩ (.slice p5 _ n5)):=bR.call (S':=fun k=>k<lo) (iJ qh) q5 (fun k _ h=>h.1);have fM:=R3.low (w2:=w5.setCell ⟨B,1,X⟩ (.slice p5 _ n5)) (q5.mono fun k _ hk=>by have hk':k<=g:=hk;omega);have HQ:=A (ah qF fM);clear D5 q5 R3 b3 hrun k5 f5 qF fM;go_wp2_with fail
    (first|go_end0|refine ae (results_none rfl _ _ _) rfl ?_)
    exact DO.ok (dA HS) HQ.out.1 ⟨_,jq.out⟩ HQ.out.2
 replace HS:=dX HS i1;replace HD:=A (HD.out.up HM.out (w1:=w1) qe);replace HB:D (Bt g w w1):=A qh;replace HR:=A R1;clear b1 R1;clear i1;go_wp2_with fail;refine(dL adh _ (HR.out.low qe) (by decide)).mono ?_;rintro e w3 ⟨b3,⟨i3,rfl,R3⟩|⟨i3,rfl,R3⟩⟩
 · replace HS:=jG (dY HS i3);replace HD:=A (HD.out.up HM.out (w1:=w3) qe);replace HB:D (Bt g w w3):=A qh;replace HR:=A R3;clear b3 R3;clear i3;have lm:U w3 ⟨B,3,X⟩=C (V 3):=HD.out.cell rfl;go_wp2_with fail;go_region_law (first
    | (rw[if_pos (by rfl)];refine Lib.wp_append_run _ _ _ _ _ rfl _ _ rfl rfl _ _ hrun ?_)
    | (go_simp;go_at_call 63;refine(mh _ (R5.low qe)).mono ?_;rintro e' wc h6;rcases h6.cases with⟨x6,u6,v6,r6,rfl,b6,V6,R6⟩|⟨u6,r6,rfl,b6⟩;rotate_left 1;(have bU:=HB.out;exact⟨rfl,DO.no (dJ S5 r6) (iJ qe)⟩);obtain⟨rfl,-,-⟩:=V6;have S6:=jG (bY S5 r6);obtain⟨v7,w7,hrun,⟨p7,n7,rfl⟩,k7,f7,D7,q7⟩:=HD.out.push amD ng.map aeP HM.out (w1:=wc) qe (i:=3) rfl (by decide) rfl (y:=(⟨x4,x5,x6⟩:gz)) (ce:=oN ⟨x4,x5,x6⟩) rfl (by have:=HL.out.li.len;omega);have lc:U wc ⟨B,3,X⟩=C (V 3):=(fA HD.out.box (S:=fun k=>k≠g) qe (by omega)).get rfl;have ld:U (wc.alloc (.cells (oN ⟨x4,x5,x6⟩) 73)) ⟨B,3,X⟩=C (V 3):=(fA HD.out.box (S:=fun k=>k≠g) qe (by omega)).get rfl;dsimp only [oN] at hrun ld ⊢)
    | (go_simp;go_at_call 59;refine(jR _ (R4.low qe)).mono ?_;rintro e' wb h5;rcases h5.cases with⟨x5,u5,v5,r5,rfl,b5,V5,R5⟩|⟨u5,r5,rfl,b5⟩;rotate_left 1;(have bU:=HB.out;exact⟨rfl,DO.no (dJ S4 r5) (iJ qe)⟩);obtain rfl:=V5;have S5:=jG (bY S4 r5);have lb:U wb ⟨B,3,X⟩=C (V 3):=(fA HD.out.box (S:=fun k=>k≠g) qe (by omega)).get rfl)
    | (go_simp;go_at_call 59;refine(jR _ (HR.out.low qe)).mono ?_;rintro e' wa h4;rcases h4.cases with⟨x4,u4,v4,r4,rfl,b4,V4,R4⟩|⟨u4,r4,rfl,b4⟩;rotate_left 1;(have bU:=HB.out;exact⟨rfl,DO.no (dJ HS r4) (iJ qe)⟩);obtain rfl:=V4;have S4:=jG (bY HS r4);have la:U wa ⟨B,3,X⟩=C (V 3):=(fA HD.out.box (S:=fun k=>k≠g) qe (by omega)).get rfl))
   all_goals
    have jq:D (CW F0 lo B { x with li:=x.li++[(⟨x4,x5,x6⟩:gz)] } (jm 3 (.slice p7 (x.li.length+1) n7) V) (w7.setCell ⟨B,3,X⟩ (.slice p7 (x.li.length+1) n7))):=A (D7.cast aoh rfl);have qF:bR (fun k=>k<lo/\¬k=g) w (w7.setCell ⟨B,3,X⟩ (.slice p7 _ n7)):=bR.call (S':=fun k=>k<lo) (iJ (w:=wc) qh) q7 (fun k _ h=>h.1);have fM:=A (R6.low (w2:=w7.setCell ⟨B,3,X⟩ (.slice p7 _ n7)) (q7.mono fun k _ hk=>by have hk':k<=g:=hk;omega));have HQ:=A qF;have MB:=A (Ko h0 { x with li:=x.li++[(⟨x4,x5,x6⟩:gz)] } (jm 3 (.slice p7 (x.li.length+1) n7) V));clear D7 q7 R4 R5 R6 b4 b5 b6 hrun k7 f7 qF HR HB HD r4 r5 r6 h4 h5 h6 S4 S5 HS;go_wp2_with fail;refine(mg _ (fM.out.low qe)).mono ?_;rintro e w9 h9;rcases h9.cases with⟨x9,u9,v9,r9,rfl,b9,V9,R9⟩|⟨u9,r9,rfl,b9⟩
    rotate_left 1
    · have tN:=HQ.out;go_wp2_with fail;exact⟨rfl,DO.no (dJ S6 r9) qe⟩
    obtain rfl:=V9;have HS9:=nJ (bY S6 r9);have HE:=A (ah (jq.out.up MB.out (w1:=w9) qe) (ah R9 (show bR (fun k=>k<lo/\¬k=g) w w9 by have tN:=HQ.out;exact qe)));clear fM HQ R9 b9 jq r9 h9;go_wp2_with fail
    (first|go_end0|refine ae (results_none rfl _ _ _) rfl ?_)
    exact DO.ok (dA HS9) HE.out.2.2 ⟨_,HE.out.1⟩ HE.out.2.1
 replace HS:=dX HS i3;replace HD:=A (HD.out.up HM.out (w1:=w3) qe);replace HB:D (Bt g w w3):=A qh;replace HR:=A R3;clear b3 R3;clear i3;go_wp2_with fail;refine(dL ady _ (HR.out.low qe) (by decide)).mono ?_;rintro e w2 ⟨b2,⟨i2,rfl,R2⟩|⟨i2,rfl,R2⟩⟩
 · replace HS:=dY HS i2;replace HD:=A (HD.out.up HM.out (w1:=w2) qe);replace HB:D (Bt g w w2):=A qh;replace HR:=A R2;clear b2 R2;clear i2;have lm:U w2 ⟨B,2,X⟩=C (V 2):=HD.out.cell rfl;go_wp2_with fail;go_region_law (first|(rw[if_pos (by rfl)];refine Lib.wp_append_run _ _ _ _ _ rfl _ _ rfl rfl _ _ hrun ?_)|(go_simp;go_at_call 64;refine(Qe _ (HR.out.low qe)).mono ?_;rintro e' wa h3;rcases h3.cases with⟨x3,u3,v3,r3,rfl,b3,V3,R3⟩|⟨u3,r3,rfl,b3⟩;rotate_left 1;(have bU:=HB.out;exact⟨rfl,DO.no (dJ HS r3) (iJ qe)⟩);obtain⟨_,rfl,P3,rfl,o3⟩:=V3;obtain⟨v5,w5,hrun,⟨p5,n5,rfl⟩,k5,f5,D5,q5⟩:=HD.out.push anB gH.map aeW HM.out (w1:=wa) qe (i:=2) rfl (by decide) rfl (y:=x3) (ce:=bX x3 P3) ⟨P3,rfl,o3⟩ (by have:=HL.out.si.len;omega);have nG:U wa ⟨B,2,X⟩=C (V 2):=(fA HD.out.box (S:=fun k=>k≠g) qe (by omega)).get rfl;have iM:U (wa.alloc (.cells (bX x3 P3) 53)) ⟨B,2,X⟩=C (V 2):=(fA HD.out.box (S:=fun k=>k≠g) qe (by omega)).get rfl;dsimp only [bX] at hrun iM ⊢))
   all_goals
    replace HS:=bY HS r3;have jq:D (CW F0 lo B { x with si:=x.si++[x3] } (jm 2 (.slice p5 (x.si.length+1) n5) V) (w5.setCell ⟨B,2,X⟩ (.slice p5 (x.si.length+1) n5))):=A (D5.cast aoj rfl);have qF:bR (fun k=>k<lo/\¬k=g) w (w5.setCell ⟨B,2,X⟩ (.slice p5 _ n5)):=bR.call (S':=fun k=>k<lo) (iJ qh) q5 (fun k _ h=>h.1);have fM:=R3.low (w2:=w5.setCell ⟨B,2,X⟩ (.slice p5 _ n5)) (q5.mono fun k _ hk=>by have hk':k<=g:=hk;omega);have HQ:=A (ah qF fM);clear D5 q5 R3 b3 hrun k5 f5 qF fM;go_wp2_with fail
    (first|go_end0|refine ae (results_none rfl _ _ _) rfl ?_)
    exact DO.ok (dA HS) HQ.out.1 ⟨_,jq.out⟩ HQ.out.2
 replace HS:=dX HS i2;replace HD:=A (HD.out.up HM.out (w1:=w2) qe);replace HB:D (Bt g w w2):=A qh;replace HR:=A R2;clear b2 R2;clear i2;go_wp2_with fail;refine(BC _ (HR.out.low qe)).mono ?_;rintro e LF ⟨rfl,I9⟩;have bU:=HB.out;go_wp2_with fail;exact⟨rfl,DO.no (Lc HS) (iJ (by have q:Bt g _ LF:=bR.of I9;exact qe))⟩
end
end Ps
namespace Ps
open Ps.P (rt bd len)
open Go.RowKit
open Lx (Tk)
open Md
set_option maxHeartbeats 2000000
def Il (z:Nat):(Nat->Prop)->af->Prop:=fun G w=>G z/\bT w z 27 #[.string ⟨#[]⟩,.slice X 0 0,.slice X 0 0,.slice X 0 0]
theorem Q9 (z:Nat):Mv (Il z):=zA
structure ah8 (L:Lk) (g:Nat) (r:R dx) (K:dx->P dx) (B:Nat) (w:af) (k:Nat) (wr:af):Prop where
 ex:∃x V d u,run (bd (AZ k x) K) u=r/\u.length<k/\qG x d/\d+u.length<=30001/\CW (Il w.heap.size) w.heap.size B x V wr/\Rd L g u wr
 bt:Bt g w wr
theorem aok {z lo B d:Nat} {x:dx} {V:Nat->ag} {w:af} (h:CW (Il z) lo B x V w) (hd:qG x d) (hdl:d<=30001):∃P,bT w B 27 (dB x P)/\bT w z 27 #[.string ⟨#[]⟩,.slice X 0 0,.slice X 0 0,.slice X 0 0]/\iG (fun k=>lo<=k/\¬k=z/\¬k=B) w x P:=by
 have hm:=Ko (Q9 z) x V;have h0:∀G,A7 (Il z) x V 0 G w->G z:=fun G h=>h.1;have Z0:=h.part hm 0;obtain⟨p1,m1,c1,e1,r1⟩:=sM fV.map P_ (h.off hm h0 (j:=1) (by decide)) (by have:=hd.pa.len;omega);obtain⟨p2,m2,c2,e2,r2⟩:=sM gH.map aeW (h.off hm h0 (j:=2) (by decide)) (by have:=hd.si.len;omega);obtain⟨p3,m3,c3,e3,r3⟩:=sM ng.map aeP (h.off hm h0 (j:=3) (by decide)) (by have:=hd.li.len;omega);have hb:=h.box;rw[e1,e2,e3] at hb;exact⟨⟨p1,m1,c1,p2,m2,c2,p3,m3,c3⟩,hb,Z0.2,⟨r1,r2,r3⟩⟩
section
variable {L:Lk} {g:Nat} {t:List Tk}
set_option maxRecDepth 100000 in
theorem aop (w:af) (hR:Rd L g t w):Calls aj 14 #[.pointer (C ⟨g,0,X⟩)] w (PE g (VR Aj) (run vK t) w):=by
 have HN:D (∀x v,run (vL GD) t=.ok x v->x.size<=20000/\v.length<=30000):=A fun x v h=>by
  obtain⟨h1,d,h2,h3⟩:=(JB (s:=GD) (by decide)).out hR.gd h;exact⟨h3.2,by have:=hR.small;omega⟩
 obtain⟨r,hr⟩:∃r,run vK t=r:=⟨_,rfl⟩
 rw[hr];have HS:=A hr;have hg:=hR.blk;have HR:=A hR;have HB:D (Bt g w w):=A (bR.refl _ _);clear hR hr;have Z:=A (bT.new (w:=w) (t:=27) (c:=#[.string ⟨#[]⟩,.slice X 0 0,.slice X 0 0,.slice X 0 0]));go_enter Tryz.func14,Tryz.ntmps14;go_wp2_with fail;refine(O8 _ _ (HR.out.low qe) (by decide)).mono ?_;rintro e w1 h1;rcases h1.cases with⟨x1,u1,v1,r1,rfl,b1,V1,R1⟩|⟨u1,r1,rfl,b1⟩
 rotate_left 1
 · have bU:=HB.out;go_wp2_with fail;exact⟨rfl,PE.no (dJ HS r1) qe⟩
 have Ag:=A (HN.out _ _ r1);replace HS:=bY HS r1;replace Z:=A (bS (w2:=w1) Z.out qe);replace HB:D (Bt g w w1):=A qh;replace HR:=A R1;clear b1 R1;clear r1 h1;obtain rfl:=V1;have hz1:=Z.out.lt;have hd1:D (CW (Il w.heap.size) w.heap.size w1.heap.size ⟨x1,[],[],[]⟩ (fun _=>.slice X 0 0) (w1.alloc (.cells #[.string x1,.slice X 0 0,.slice X 0 0,.slice X 0 0] 27))):=A (g_.new bT.new (Nat.le_of_lt hz1) ⟨⟨Nat.le_refl _,by omega⟩,bS Z.out qe⟩ zA fun j hj G=>(match j,hj with|1,_=>bZ.nil|2,_=>bZ.nil|3,_=>bZ.nil|n+4,_=>trivial));obtain⟨K,hK⟩:∃K:dx->P dx,(fun m=>bd fU fun _=>bd q_ fun _=>rt m)=K:=⟨_,rfl⟩
 have HK:=A hK;replace HS:D (run (bd fU fun _=>bd (AZ FU ⟨x1,[],[],[]⟩) K) u1=r):=A (by rw[← hK];exact HS.out);clear hK Z HN;go_wp2_with fail;refine(mg _ (HR.out.low qe)).mono ?_;rintro e w2 h2;rcases h2.cases with⟨x2,u2,v2,r2,rfl,b2,V2,R2⟩|⟨u2,r2,rfl,b2⟩
 rotate_left 1
 · have bU:=HB.out;go_wp2_with fail;exact⟨rfl,PE.no (dJ HS r2) qe⟩
 have DW:=A (oP.out HR.out.gd r2).2;replace HS:=bY HS r2;have HD:=A (hd1.out.up (Ko (Q9 _) _ _) (w1:=w2) qe);replace HB:D (Bt g w w2):=A qh;replace HR:=A R2;clear b2 R2;clear r2 h2 hd1;obtain rfl:=V2;go_wp2_with fail;go_loopg [] FU (ah8 L g r K w1.heap.size w)
 case atStart=>exact⟨⟨⟨x1,[],[],[]⟩,(fun _=>.slice X 0 0),0,u2,HS.out,by have h1:=Ag.out;have h2:=DW.out;unfold FU;omega,⟨Ag.out.1,.nil,.nil,.nil⟩,by have h1:=Ag.out;have h2:=DW.out;omega,HD.out,HR.out⟩,HB.out⟩
 case round=>
  obtain⟨⟨x,V,d,u,hs,hk,hx,hl,hd,hR⟩,hb⟩:=hrel;clear HS HB HR Ag DW HD;obtain⟨k,rfl⟩:∃k,gk=k+1:=⟨gk-1,by omega⟩
  rw[AZ] at hs;have HM:=A (Ko (Q9 w.heap.size) x V);have HL:=A hl;have HKK:=A hk;have HX:=A hx;have lT:D (∀y v,run (prt x) u=.ok y v->∃c,v.length+c=u.length/\1<=c/\qG y (d+c)):=A fun y v h=>by
   obtain⟨h1,c,h2,h3⟩:=(aa0 hx).out hR.gd h;have:=(ak5 x).out hR.gd h;exact⟨c,h2,by omega,h3⟩
  have HD:=A hd;have HR:=A hR;have HB:=A hb;have HS:=A hs;have hbl:=hd.box.lt;clear hl hk hx hd hR hb hs;go_wp2_with fail;refine(dL qD _ (HR.out.low qe) (by decide)).mono ?_;rintro e w8 ⟨b8,⟨i8,rfl,R8⟩|⟨i8,rfl,R8⟩⟩
  · replace HS:=nJ (yI HS i8);replace HS:D (run (bd fU fun _=>bd q_ fun _=>rt x) u.tail=r):=A (by have h:=HS.out;rw[← HK.out] at h;exact h);replace HD:=A (HD.out.up HM.out (w1:=w8) qe);replace HB:D (Bt g w w8):=A qh;replace HR:=A R8;clear b8 R8;clear i8 lT;have sw:=HD.out.box.lt;go_wp2_with fail;refine(mg _ (HR.out.low qe)).mono ?_;rintro e w9 h9;rcases h9.cases with⟨x9,u9,v9,r9,rfl,b9,V9,R9⟩|⟨u9,r9,rfl,b9⟩
    rotate_left 1
    · have bU:=HB.out;go_wp2_with fail;exact⟨rfl,PE.no (dJ HS r9) qe⟩
    replace HS:=bY HS r9;replace HD:=A (HD.out.up HM.out (w1:=w9) qe);replace HB:D (Bt g w w9):=A qh;replace HR:=A R9;clear b9 R9;clear r9 h9;obtain rfl:=V9;have Ev:=HD.out.box.lt;go_wp2_with fail;refine(Tu _ (HR.out.low qe)).mono ?_;rintro e eX h10;rcases h10.cases with⟨Hg,iP,v10,jC,rfl,b10,Al⟩|⟨iP,jC,rfl,b10⟩
    rotate_left 1
    · have bU:=HB.out;go_wp2_with fail;exact⟨rfl,PE.no (dJ HS jC) qe⟩
    replace HS:=bY HS jC;obtain rfl:=Al;replace HD:=A (HD.out.up HM.out (w1:=eX) qe);replace HB:D (Bt g w eX):=A qh;clear jC h10 b10;obtain⟨P,hy,hz,ho⟩:=aok HD.out HX.out (by have:=HL.out;omega);have Y:=A hy;have Z:=A hz;have qW:∀W,bR (fun k=>w.heap.size<=k/\¬k=w.heap.size/\¬k=w1.heap.size) eX W->Aj (fun b=>w.heap.size<=b) W x (dB x P):=fun W q=>⟨P,rfl,ho.map q.size fun b hb hlt=>⟨hb.1,q.block b hlt hb⟩⟩
    clear hy hz ho HD HM HX;obtain⟨W,hP⟩:=gM (c:=dB x P) Z.out aiR (ZT _ _) rfl;have gY:=hP.bt;have eT:=A hP.box;have gZ:=hP.size;go_wp2_with (first|(refine wpList_load_row rfl 27 _ rfl _ rfl 27 _ (0,0) _ Y.out Tryz.underlying27 rfl (by kernel_rfl) ?_)|(refine gN rfl 27 _ _ rfl w.heap.size _ rfl rfl hP ?_))
    have bU:=HB.out;refine ae (v:=.agg (dB x P)) ?_ rfl (PE.ok (dA HS) qe ⟨_,rfl,qW _ qe⟩);exact results_cell_row rfl _ _ w.heap.size 27 _ (0,0) _ rfl eT.out Tryz.underlying27 rfl (by kernel_rfl)
  · replace HS:=jG (yH HS i8);replace HD:=A (HD.out.up HM.out (w1:=w8) qe);replace HB:D (Bt g w w8):=A qh;replace HR:=A R8;clear b8 R8;clear i8;have sw:=HD.out.box.lt;go_wp2_with fail;refine(apw (Il w.heap.size) (Q9 _) w.heap.size w1.heap.size x V d _ (HR.out.low qe) hg HX.out (by have:=HL.out;omega) (HD.out.up HM.out qe)).mono ?_;rintro e w9 h9;rcases h9.cases with⟨y9,u9,r9,rfl,b9,⟨V9,D9⟩,R9⟩|⟨u9,r9,rfl,b9⟩
    rotate_left 1
    · have bU:=HB.out;go_wp2_with fail;exact⟨rfl,PE.no (dJ HS r9) (bR.call (S':=fun k=>k<w.heap.size/\¬k=g) qe b9 (fun k hk hs=>⟨hk,hs⟩))⟩
    have FN:=A (lT.out _ _ r9);replace HS:=bY HS r9;replace HB:D (Bt g w w9):=A (by have bU:=HB.out;exact bR.call (S':=fun k=>k<w.heap.size/\¬k=g) bU b9 (fun k hk hs=>⟨hk,hs⟩));replace HD:=A D9;replace HR:=A R9;clear D9 R9 b9 r9 h9 HM HX lT;go_wp2_with fail;go_roundg k
    case measure=>omega
    case rel=>
     obtain⟨c,h1,h2,h3⟩:=FN.out;exact⟨⟨y9,V9,d+c,u9,HS.out,by have:=HKK.out;omega,h3,by have:=HL.out;omega,HD.out,HR.out⟩,HB.out⟩
end
end Ps
namespace Ps
open Go.RowKit
open Lx (bs mt BX eP mW fI EN He)
open Ex (Lo)
open Md (Rw bT dx kS dB iG oZ)
set_option maxHeartbeats 600000
def nM:dx:=⟨mt,[],[],[]⟩
def Pp:kS:=⟨X,0,0,X,0,0,X,0,0⟩
def kY (s:List UInt8):dx×Int×Int:=jS nM vK oZ s
theorem U0 {G:Nat->Prop} {w:af}:iG G w nM Pp:=⟨Rw.nil,Rw.nil,Rw.nil⟩
def MO (q:dx×Int×Int) (w:af) (e:Ending) (w':af):Prop:=Below w.heap.size w w'/\∃P,e=.returned (.tuple #[.agg (dB q.1 P),.int .i64 q.2.1,.int .i64 q.2.2])/\iG (fun b=>w.heap.size<=b) w' q.1 P
theorem MO.mk {q:dx×Int×Int} {w w':af} {x:dx} {P:kS} {a b:Int} (hq:q=(x,a,b)) (hb:Below w.heap.size w w') (hk:iG (fun b=>w.heap.size<=b) w' x P):MO q w (.returned (.tuple #[.agg (dB x P),.int .i64 a,.int .i64 b])) w':=by subst hq;exact⟨hb,P,rfl,hk⟩
theorem L9 {p:Prop} (h:p:=by
 exact aeE rfl _ _ w.heap.size 27 _ (0,0) _ rfl (lu Z.out rfl) Tryz.underlying27 rfl (by kernel_rfl) rfl rfl
 ):p:=h
theorem agK {p:Prop} (h:p:=by have bU:=HB.out;have q1:=hb2;have q:bR (fun k=>k<w.heap.size) _ w2:=bR.of q1;exact qe):p:=h
theorem agL {p:Prop} (h:p:=by have q1:=hb2;have q:bR (fun k=>k=w.heap.size+1) _ w2:=bR.of q1;exact qe):p:=h
theorem agM {p:Prop} (h:p:=by have q1:=hb2;have q:bR (fun k=>k=w.heap.size) _ w2:=bR.of q1;exact qe):p:=h
theorem agN {p:Prop} (h:p:=by have q1:=hb;have q:bR (fun k=>k=w.heap.size) _ w1:=bR.of q1;exact qe):p:=h
set_option maxRecDepth 100000 in
theorem ap4 (s:ByteArray) (w:af) (hs:s.size<=9223372036854775807) (hE:Nu.Env w):Calls aj 13 #[.string s,.func (.func 14) #[] #[],.func (.func 15) #[] #[]] w (MO (kY (bs s)) w):=by
 have HE:D (∀W,Below w.heap.size w W->Calls aj 27 #[.string s] W (BX W (eP (bs s)) (mW (bs s)) (fI (bs s)))):=A fun W hW=>He s W hs (hE.below hW);clear hE hs;have Z:=A (bT.new (w:=w) (t:=27) (c:=#[.string ⟨#[]⟩,.slice X 0 0,.slice X 0 0,.slice X 0 0]));have n0:bT ((w.alloc (.cells #[.string ⟨#[]⟩,.slice X 0 0,.slice X 0 0,.slice X 0 0] 27)).alloc (.cells #[.string ⟨#[]⟩,.slice X 0 0,.slice X 0 0,.slice X 0 0] 27)) (w.heap.size+1) 27 #[.string ⟨#[]⟩,.slice X 0 0,.slice X 0 0,.slice X 0 0]:=by
  have h:=bT.new (w:=w.alloc (.cells #[.string ⟨#[]⟩,.slice X 0 0,.slice X 0 0,.slice X 0 0] 27)) (t:=27) (c:=#[.string ⟨#[]⟩,.slice X 0 0,.slice X 0 0,.slice X 0 0]);rwa [show(w.alloc (.cells #[.string ⟨#[]⟩,.slice X 0 0,.slice X 0 0,.slice X 0 0] 27)).heap.size=w.heap.size+1 by simp] at h
 have N:=A n0;clear n0;obtain⟨E,yf⟩:∃E,fI (bs s)=E:=⟨_,rfl⟩
 obtain⟨q,hq⟩:∃q,kY (bs s)=q:=⟨_,rfl⟩
 rw[yf] at HE;rw[hq];have jr:=A yf;have HQ:=A hq;clear yf hq;go_enter Tryz.func13,Tryz.ntmps13;go_wp2_with fail;refine(HE.out _ bl).mono ?_;rintro e w1 ⟨v1,rfl,ho,hb⟩;clear HE;replace Z:=A (bS (w2:=w1) Z.out agN);replace N:=A (bS (w2:=w1) N.out (by have q1:=hb;have q:bR (fun k=>k=w.heap.size+1) _ w1:=bR.of q1;exact qe));have HB:D (bR (fun k=>k<w.heap.size) w w1):=A (by have q1:=hb;have q:bR (fun k=>k<w.heap.size) _ w1:=bR.of q1;exact qe);have HO:=A ho;have hz:=Z.out.lt;have hn:=N.out.lt;clear hb ho;by_cases h0:E=0
 · have b0:(E != 0)=false:=by simp[h0]
   subst h0;obtain⟨hgd,nu⟩:=Az jr.out;obtain⟨p,c,rfl,ht,hc,hp⟩:=EN HO.out;have hne:=hgd.ne;obtain⟨g,rfl,hg⟩:∃g,p=C ⟨g,0,X⟩/\w.heap.size<=g:=by
    rcases hp with⟨-,h⟩|⟨g,h,h2⟩
    · omega
    · exact⟨g,h,by simp at h2;omega⟩
   have HT:=A ht;have HG:=A hgd;have HF:=A nu;clear ht hgd nu hc hp hg hne HO;go_wp2_with fail;refine(amq 14 vK ⟨g,0,(eP (bs s)).length,c,eP (bs s)⟩ w1 (fun _ _=>rfl) HT.out HG.out HF.out (fun g W hR=>aop W hR)).mono ?_;rintro e w2 h2;obtain⟨hb2,⟨x2,u2,v2,r2,rfl,V2⟩|⟨u2,r2,rfl⟩⟩:=h2.cases
   · obtain⟨c2,rfl,P2,rfl,k2⟩:=V2;have hsz:=aom HG.out HF.out r2;have HX:D ((oZ x2=0->q=(x2,0,0))/\(¬oZ x2=0->q=(nM,0,oZ x2))):=A ⟨fun h=>HQ.out.symm.trans (G8 jr.out r2 h),fun h=>HQ.out.symm.trans (G6 jr.out r2 h)⟩;have HC:=A (fun W (hI:iG (Lo W.heap.size) W x2 P2)=>Md.pO Md.anP x2 P2 W hI hsz.z);replace Z:=A (bS (w2:=w2) Z.out agM);replace N:=A (bS (w2:=w2) N.out agL);replace HB:D (bR (fun k=>k<w.heap.size) w w2):=A agK;have KX:D (iG (fun b=>w.heap.size+1<b) w2 x2 P2):=A (k2.map (Nat.le_refl _) fun b hb hlt=>⟨by
      have hb':w1.heap.size<=b:=hb
      show w.heap.size+1<b
      omega,rfl⟩)
     have Y:=A (bT.new (w:=w2) (t:=27) (c:=dB x2 P2));have hs2:w1.heap.size<=w2.heap.size:=hb2.size;clear h2 r2 hb2 hsz k2 HQ jr HT HG HF;obtain⟨V,hV⟩:∃V,oZ x2=V:=⟨_,rfl⟩
     rw[hV] at HX HC;clear hV;dsimp only [dB] at Y ⊢;have l0:U _ ⟨_,0,X⟩=C (.string x2.nm):=Y.out.get rfl;have l1:U _ ⟨_,1,X⟩=C (.slice P2.pap P2.sO P2.sN):=Y.out.get rfl;have l2:U _ ⟨_,2,X⟩=C (.slice P2.rH P2.ig P2.qg):=Y.out.get rfl;have l3:U _ ⟨_,3,X⟩=C (.slice P2.xm P2.lim P2.yx):=Y.out.get rfl;go_wp2_with fail;refine(HC.out _ (iG.all (KX.out.map (H:=fun b=>w.heap.size+1<b) (by simp) (fun b hb hlt=>⟨hb,by show(w2.heap.push _)[b]?=_;rw[Array.getElem?_push,if_neg (by omega)]⟩)))).mono ?_;rintro e w3 ⟨rfl,hb3⟩;clear l0 l1 l2 l3 HC;replace Z:=A (bS (w2:=w3) Z.out (by have q1:=hb3;have q:bR (fun k=>k=w.heap.size) _ w3:=bR.of q1;exact qe));replace N:=A (bS (w2:=w3) N.out (by have q1:=hb3;have q:bR (fun k=>k=w.heap.size+1) _ w3:=bR.of q1;exact qe));replace HB:D (bR (fun k=>k<w.heap.size) w w3):=A (by have bU:=HB.out;have q1:=hb3;have q:bR (fun k=>k<w.heap.size) _ w3:=bR.of q1;exact qe);replace Y:=A (bS (w2:=w3) Y.out (by have q1:=hb3;have q:bR (fun k=>k=w2.heap.size) _ w3:=bR.of q1;exact qe));have KK:D (iG (fun b=>w.heap.size+1<b) w3 x2 P2):=A (by
      have q1:=hb3;have q:bR (fun b=>w.heap.size+1<b) w2 w3:=by
       have q2:bR (fun b=>w.heap.size+1<b) _ w3:=bR.of q1;exact qe
      exact KX.out.map q.size (fun b hb hlt=>⟨hb,q.block b hlt hb⟩))
     have hs3:=Y.out.lt;clear hb3 KX;by_cases h1:V=0
     · have b1:(V != 0)=false:=by simp[h1]
       have hx:=A (HX.out.1 h1);clear h1 HX;have l0:U _ ⟨_,0,X⟩=C (.string x2.nm):=Y.out.get rfl;have l1:U _ ⟨_,1,X⟩=C (.slice P2.pap P2.sO P2.sN):=Y.out.get rfl;have l2:U _ ⟨_,2,X⟩=C (.slice P2.rH P2.ig P2.qg):=Y.out.get rfl;have l3:U _ ⟨_,3,X⟩=C (.slice P2.xm P2.lim P2.yx):=Y.out.get rfl;have y0:U _ ⟨_,0,X⟩=C (.string ⟨#[]⟩):=Z.out.get rfl;have y1:U _ ⟨_,1,X⟩=C (.slice X 0 0):=Z.out.get rfl;have y2:U _ ⟨_,2,X⟩=C (.slice X 0 0):=Z.out.get rfl;have y3:U _ ⟨_,3,X⟩=C (.slice X 0 0):=Z.out.get rfl;have fz:∀i,ai _ ⟨_,i,X⟩=false:=fun i=>df (i:=i) Z.out;go_wp2_with fail;have q:∀W,bR (fun b=>w.heap.size+1<b) w3 W->iG (fun b=>w.heap.size<=b) W x2 P2:=fun W q=>KK.out.map q.size (fun b hb hlt=>⟨by show w.heap.size<=b;have hb':w.heap.size+1<b:=hb;omega,q.block b hlt hb⟩);refine ae (v:=.tuple #[.agg (dB x2 P2),.int .i64 0,.int .i64 0]) ?_ rfl (MO.mk hx.out (oq qh) (q _ qe));exact L9
     · have b1:(V != 0)=true:=by simp[h1]
       have hx:=A (HX.out.2 h1);clear h1 HX;have l0:U _ ⟨_,0,X⟩=C (.string ⟨#[]⟩):=N.out.get rfl;have l1:U _ ⟨_,1,X⟩=C (.slice X 0 0):=N.out.get rfl;have l2:U _ ⟨_,2,X⟩=C (.slice X 0 0):=N.out.get rfl;have l3:U _ ⟨_,3,X⟩=C (.slice X 0 0):=N.out.get rfl;have y0:U _ ⟨_,0,X⟩=C (.string ⟨#[]⟩):=Z.out.get rfl;have y1:U _ ⟨_,1,X⟩=C (.slice X 0 0):=Z.out.get rfl;have y2:U _ ⟨_,2,X⟩=C (.slice X 0 0):=Z.out.get rfl;have y3:U _ ⟨_,3,X⟩=C (.slice X 0 0):=Z.out.get rfl;have fz:∀i,ai _ ⟨_,i,X⟩=false:=fun i=>df (i:=i) Z.out;go_wp2_with fail;refine ae (v:=.tuple #[.agg (dB nM Pp),.int .i64 0,.int .i64 V]) ?_ rfl (MO.mk hx.out (oq qh) (U0));exact L9
   · have HX:=A (HQ.out.symm.trans (Dm jr.out r2));replace Z:=A (bS (w2:=w2) Z.out agM);replace N:=A (bS (w2:=w2) N.out agL);replace HB:D (bR (fun k=>k<w.heap.size) w w2):=A agK;clear h2 r2 hb2 HQ jr HT HG HF;replace Z:=A (bS (w2:=w2.alloc (.cells #[.string ⟨#[]⟩,.slice X 0 0,.slice X 0 0,.slice X 0 0] 27)) Z.out qe);replace N:=A (bS (w2:=w2.alloc (.cells #[.string ⟨#[]⟩,.slice X 0 0,.slice X 0 0,.slice X 0 0] 27)) N.out qe);have l0:U _ ⟨_,0,X⟩=C (.string ⟨#[]⟩):=N.out.get rfl;have l1:U _ ⟨_,1,X⟩=C (.slice X 0 0):=N.out.get rfl;have l2:U _ ⟨_,2,X⟩=C (.slice X 0 0):=N.out.get rfl;have l3:U _ ⟨_,3,X⟩=C (.slice X 0 0):=N.out.get rfl;have y0:U _ ⟨_,0,X⟩=C (.string ⟨#[]⟩):=Z.out.get rfl;have y1:U _ ⟨_,1,X⟩=C (.slice X 0 0):=Z.out.get rfl;have y2:U _ ⟨_,2,X⟩=C (.slice X 0 0):=Z.out.get rfl;have y3:U _ ⟨_,3,X⟩=C (.slice X 0 0):=Z.out.get rfl;have fz:∀i,ai _ ⟨_,i,X⟩=false:=fun i=>df (i:=i) Z.out;go_wp2_with fail;refine ae (v:=.tuple #[.agg (dB nM Pp),.int .i64 (hd u2).l,.int .i64 9]) ?_ rfl (MO.mk HX.out (oq qh) (U0));exact L9
 · have b0:(E != 0)=true:=by simp[h0]
   have HX:=A (HQ.out.symm.trans (G7 (by rw[jr.out];exact h0)));clear h0 HO;have l0:U _ ⟨_,0,X⟩=C (.string ⟨#[]⟩):=N.out.get rfl;have l1:U _ ⟨_,1,X⟩=C (.slice X 0 0):=N.out.get rfl;have l2:U _ ⟨_,2,X⟩=C (.slice X 0 0):=N.out.get rfl;have l3:U _ ⟨_,3,X⟩=C (.slice X 0 0):=N.out.get rfl;have y0:U _ ⟨_,0,X⟩=C (.string ⟨#[]⟩):=Z.out.get rfl;have y1:U _ ⟨_,1,X⟩=C (.slice X 0 0):=Z.out.get rfl;have y2:U _ ⟨_,2,X⟩=C (.slice X 0 0):=Z.out.get rfl;have y3:U _ ⟨_,3,X⟩=C (.slice X 0 0):=Z.out.get rfl;have fz:∀i,ai _ ⟨_,i,X⟩=false:=fun i=>df (i:=i) Z.out;go_wp2_with fail;refine ae (v:=.tuple #[.agg (dB nM Pp),.int .i64 (mW (bs s):Int),.int .i64 E]) ?_ rfl (MO.mk (by rw[HX.out,jr.out]) (oq qh) (U0));exact L9
set_option maxRecDepth 100000 in
theorem aps (s:ByteArray) (w:af) (hs:s.size<=9223372036854775807) (hE:Nu.Env w):Calls aj 6 #[.string s] w (MO (kY (bs s)) w):=by
 have HC:=A (fun W (hW:Nu.Env W)=>ap4 s W hs hW);have HE:=A hE;obtain⟨⟨x,a,b⟩,hq⟩:∃q,kY (bs s)=q:=⟨_,rfl⟩
 rw[hq] at HC ⊢;clear hE hs hq;have Z:=A (bT.new (w:=w) (t:=27) (c:=#[.string ⟨#[]⟩,.slice X 0 0,.slice X 0 0,.slice X 0 0]));go_enter Tryz.func6,Tryz.ntmps6;go_wp2_with fail;refine(HC.out _ (HE.out.below bl)).mono ?_;rintro e w1 ⟨hb,P,rfl,hk⟩;have HB:=A hb;have HK:=A hk;replace Z:=A (bS (w2:=w1) Z.out agN);clear hb hk HC;dsimp only [dB];have y0:U _ ⟨_,0,X⟩=C (.string ⟨#[]⟩):=Z.out.get rfl;have y1:U _ ⟨_,1,X⟩=C (.slice X 0 0):=Z.out.get rfl;have y2:U _ ⟨_,2,X⟩=C (.slice X 0 0):=Z.out.get rfl;have y3:U _ ⟨_,3,X⟩=C (.slice X 0 0):=Z.out.get rfl;have fz:∀i,ai _ ⟨_,i,X⟩=false:=fun i=>df (i:=i) Z.out;go_wp2_with fail;have HBE:D (bR (fun k=>k<w.heap.size) w w1):=A (by have q:bR (fun k=>k<w.heap.size) _ w1:=bR.of HB.out;exact qe);have qW:∀W,bR (fun k=>¬k=w.heap.size) w1 W->iG (fun b=>w.heap.size<=b) W x P:=fun W q=>HK.out.map q.size fun b hb hlt=>by
  have hb':_<=b:=hb;simp at hb'
  exact⟨by show w.heap.size<=b;omega,q.block b hlt (by omega)⟩
 refine ae (v:=.tuple #[.agg (dB x P),.int .i64 a,.int .i64 b]) ?_ rfl (MO.mk rfl (oq (by have bU:=HBE.out;exact qe)) (qW _ qe));exact L9
end Ps
namespace Ps
open Lx (bs mt)
open Ex (Ex)
open Sm (St zD)
open Md (dx)
def Av:Ex:=.mk 16 mt 0 [.mk 5 mt 0 [iO 1 3],.mk 10 mt 0 [.mk 10 mt 0 [iO 1 1,iO 1 2],A9 3 ⟨#[120]⟩]]
def Aw:Ex:=.mk 7 mt 0 [.mk 5 mt 0 [iO 1 3]]
def Cn:Ex:=iO 1 (-3)
def exM:dx:=⟨⟨#[109]⟩,[],[Dr ⟨#[97]⟩],[]⟩
def Og:List St:=[.mk 6 ⟨#[114]⟩ mt (iO 1 2) (iO 1 1) [] zD true [] []]
theorem apV:qE (bs ⟨#[49,32,45,32,50,32,45,32,120,32,62,32,45,51]⟩)=(Av,0,0):=by kernel_rfl
theorem apW:qE (bs ⟨#[100,117,114,40,45,51,41]⟩)=(Aw,0,0):=by kernel_rfl
theorem rd_c:qE (bs ⟨#[40,45,51,41]⟩)=(Cn,0,0):=by kernel_rfl
theorem apX:qE (bs ⟨#[97,32,60,32,98,32,60,32,99]⟩)=(nX,1,9):=by kernel_rfl
theorem apY:kY (bs ⟨#[109,111,100,101,108,32,109,10,115,105,116,101,32,97,10,101,110,100,10,101,110,100,10]⟩)=(exM,0,0):=by kernel_rfl
theorem apZ:kY (bs ⟨#[109,111,100,101,108,32,109,10,115,105,116,101,32,105,102,10,101,110,100,10,101,110,100,10]⟩)=(nM,2,9):=by kernel_rfl
theorem ap0:kZ (bs ⟨#[104,111,108,100,32,100,117,114,40,50,41,10,104,111,108,100,32,104,111,108,100,10]⟩)=([],2,9):=by kernel_rfl
theorem ap1:kZ (bs ⟨#[115,101,105,122,101,32,114,32,50,32,112,114,105,111,32,49,32,112,114,101,101,109,112,116]⟩)=(Og,0,0):=by kernel_rfl
end Ps
end Go.Proofs.YtbgodajefaahdaaGreatDoor
