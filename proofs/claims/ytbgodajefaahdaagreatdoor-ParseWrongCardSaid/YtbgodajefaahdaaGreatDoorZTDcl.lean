/-
  Parts of this proof: The contract of the reader's declaration. The contract of the reader's site. The contract of the reader's part of a model. The contract of the reader's model. The contract of Model.
-/
import Derived.Test.YtbgodajefaahdaaGreatDoorZTRou
import Derived.Test.YtbgodajefaahdaaGreatDoorZQPlc
import Derived.Test.YtbgodajefaahdaaGreatDoorZQLws
set_option linter.unusedVariables false
open Go.Lib (hid)
namespace Go.Proofs.YtbgodajefaahdaaGreatDoor.Ps
open Go.Proofs.YtbgodajefaahdaaGreatDoor.Ps.P (len)
open Go.RowKit
open Go.Proofs.YtbgodajefaahdaaGreatDoor.Lx (Tk)
open Go.Proofs.YtbgodajefaahdaaGreatDoor.Md
set_option maxHeartbeats 16000000
def steF (F0:(Nat->Prop)->World->Prop) (x:Ste) (V:Nat->Value):Nat->(Nat->Prop)->World->Prop
 | 0=>F0
 | 1=>fun G w=>OwnF 93 3 RVal G w (V 1) x.va
 | 2=>fun G w=>OwnF 111 17 RRes G w (V 2) x.rs
 | 3=>fun G w=>OwnF 114 3 RSto G w (V 3) x.st
 | 4=>fun G w=>OwnF 116 3 RBlt G w (V 4) x.be
 | 5=>fun G w=>OwnF 9 1 RTxt G w (V 5) x.qu
 | 6=>fun G w=>OwnF 9 1 RTxt G w (V 6) x.sm
 | 7=>fun G w=>OwnF 9 1 RTxt G w (V 7) x.ta
 | 8=>fun G w=>OwnF 9 1 RTxt G w (V 8) x.le
 | 9=>fun G w=>OwnF 9 1 RTxt G w (V 9) x.co
 | 10=>fun G w=>OwnF 119 4 RRou G w (V 10) x.ro
 | 11=>fun G w=>OwnF 122 5 RSta G w (V 11) x.ss
 | 12=>fun G w=>OwnF 127 3 RLw G w (V 12) x.la
 | _+13=>fun _ _=>True
theorem steF_mv {F0:(Nat->Prop)->World->Prop} (h0:Mv F0) (x:Ste) (V:Nat->Value):∀j,Mv (steF F0 x V j)
 | 0=>h0
 | 1=>mv_own RVal.map
 | 2=>mv_own RRes.map
 | 3=>mv_own RSto.map
 | 4=>mv_own RBlt.map
 | 5=>mv_own RTxt.map
 | 6=>mv_own RTxt.map
 | 7=>mv_own RTxt.map
 | 8=>mv_own RTxt.map
 | 9=>mv_own RTxt.map
 | 10=>mv_own RRou.map
 | 11=>mv_own RSta.map
 | 12=>mv_own RLw.map
 | _+13=>mv_true
abbrev steB (F0:(Nat->Prop)->World->Prop) (lo B:Nat) (x:Ste) (V:Nat->Value) (W:World):Prop:=Bld lo B 53 #[.string x.nm,V 1,V 2,V 3,V 4,V 5,V 6,V 7,V 8,V 9,V 10,V 11,V 12] (steF F0 x V) W
def vPut (i:Nat) (v:Value) (V:Nat->Value):Nat->Value:=fun j=>if j=i then v else V j
theorem steF_va {F0:(Nat->Prop)->World->Prop} {x:Ste} {V:Nat->Value} {v:Value} {l:List Val}:∀j G W,(if j=1 then fun G w=>OwnF 93 3 RVal G w v l else steF F0 x V j) G W->steF F0 { x with va:=l } (vPut 1 v V) j G W
 | 0,_,_,h=>h
 | 1,_,_,h=>h
 | 2,_,_,h=>h
 | 3,_,_,h=>h
 | 4,_,_,h=>h
 | 5,_,_,h=>h
 | 6,_,_,h=>h
 | 7,_,_,h=>h
 | 8,_,_,h=>h
 | 9,_,_,h=>h
 | 10,_,_,h=>h
 | 11,_,_,h=>h
 | 12,_,_,h=>h
 | _+13,_,_,h=>trivial
theorem steF_rs {F0:(Nat->Prop)->World->Prop} {x:Ste} {V:Nat->Value} {v:Value} {l:List Res}:∀j G W,(if j=2 then fun G w=>OwnF 111 17 RRes G w v l else steF F0 x V j) G W->steF F0 { x with rs:=l } (vPut 2 v V) j G W
 | 0,_,_,h=>h
 | 1,_,_,h=>h
 | 2,_,_,h=>h
 | 3,_,_,h=>h
 | 4,_,_,h=>h
 | 5,_,_,h=>h
 | 6,_,_,h=>h
 | 7,_,_,h=>h
 | 8,_,_,h=>h
 | 9,_,_,h=>h
 | 10,_,_,h=>h
 | 11,_,_,h=>h
 | 12,_,_,h=>h
 | _+13,_,_,h=>trivial
theorem steF_st {F0:(Nat->Prop)->World->Prop} {x:Ste} {V:Nat->Value} {v:Value} {l:List Sto}:∀j G W,(if j=3 then fun G w=>OwnF 114 3 RSto G w v l else steF F0 x V j) G W->steF F0 { x with st:=l } (vPut 3 v V) j G W
 | 0,_,_,h=>h
 | 1,_,_,h=>h
 | 2,_,_,h=>h
 | 3,_,_,h=>h
 | 4,_,_,h=>h
 | 5,_,_,h=>h
 | 6,_,_,h=>h
 | 7,_,_,h=>h
 | 8,_,_,h=>h
 | 9,_,_,h=>h
 | 10,_,_,h=>h
 | 11,_,_,h=>h
 | 12,_,_,h=>h
 | _+13,_,_,h=>trivial
theorem steF_be {F0:(Nat->Prop)->World->Prop} {x:Ste} {V:Nat->Value} {v:Value} {l:List Blt}:∀j G W,(if j=4 then fun G w=>OwnF 116 3 RBlt G w v l else steF F0 x V j) G W->steF F0 { x with be:=l } (vPut 4 v V) j G W
 | 0,_,_,h=>h
 | 1,_,_,h=>h
 | 2,_,_,h=>h
 | 3,_,_,h=>h
 | 4,_,_,h=>h
 | 5,_,_,h=>h
 | 6,_,_,h=>h
 | 7,_,_,h=>h
 | 8,_,_,h=>h
 | 9,_,_,h=>h
 | 10,_,_,h=>h
 | 11,_,_,h=>h
 | 12,_,_,h=>h
 | _+13,_,_,h=>trivial
theorem steF_qu {F0:(Nat->Prop)->World->Prop} {x:Ste} {V:Nat->Value} {v:Value} {l:List ByteArray}:∀j G W,(if j=5 then fun G w=>OwnF 9 1 RTxt G w v l else steF F0 x V j) G W->steF F0 { x with qu:=l } (vPut 5 v V) j G W
 | 0,_,_,h=>h
 | 1,_,_,h=>h
 | 2,_,_,h=>h
 | 3,_,_,h=>h
 | 4,_,_,h=>h
 | 5,_,_,h=>h
 | 6,_,_,h=>h
 | 7,_,_,h=>h
 | 8,_,_,h=>h
 | 9,_,_,h=>h
 | 10,_,_,h=>h
 | 11,_,_,h=>h
 | 12,_,_,h=>h
 | _+13,_,_,h=>trivial
theorem steF_sm {F0:(Nat->Prop)->World->Prop} {x:Ste} {V:Nat->Value} {v:Value} {l:List ByteArray}:∀j G W,(if j=6 then fun G w=>OwnF 9 1 RTxt G w v l else steF F0 x V j) G W->steF F0 { x with sm:=l } (vPut 6 v V) j G W
 | 0,_,_,h=>h
 | 1,_,_,h=>h
 | 2,_,_,h=>h
 | 3,_,_,h=>h
 | 4,_,_,h=>h
 | 5,_,_,h=>h
 | 6,_,_,h=>h
 | 7,_,_,h=>h
 | 8,_,_,h=>h
 | 9,_,_,h=>h
 | 10,_,_,h=>h
 | 11,_,_,h=>h
 | 12,_,_,h=>h
 | _+13,_,_,h=>trivial
theorem steF_ta {F0:(Nat->Prop)->World->Prop} {x:Ste} {V:Nat->Value} {v:Value} {l:List ByteArray}:∀j G W,(if j=7 then fun G w=>OwnF 9 1 RTxt G w v l else steF F0 x V j) G W->steF F0 { x with ta:=l } (vPut 7 v V) j G W
 | 0,_,_,h=>h
 | 1,_,_,h=>h
 | 2,_,_,h=>h
 | 3,_,_,h=>h
 | 4,_,_,h=>h
 | 5,_,_,h=>h
 | 6,_,_,h=>h
 | 7,_,_,h=>h
 | 8,_,_,h=>h
 | 9,_,_,h=>h
 | 10,_,_,h=>h
 | 11,_,_,h=>h
 | 12,_,_,h=>h
 | _+13,_,_,h=>trivial
theorem steF_le {F0:(Nat->Prop)->World->Prop} {x:Ste} {V:Nat->Value} {v:Value} {l:List ByteArray}:∀j G W,(if j=8 then fun G w=>OwnF 9 1 RTxt G w v l else steF F0 x V j) G W->steF F0 { x with le:=l } (vPut 8 v V) j G W
 | 0,_,_,h=>h
 | 1,_,_,h=>h
 | 2,_,_,h=>h
 | 3,_,_,h=>h
 | 4,_,_,h=>h
 | 5,_,_,h=>h
 | 6,_,_,h=>h
 | 7,_,_,h=>h
 | 8,_,_,h=>h
 | 9,_,_,h=>h
 | 10,_,_,h=>h
 | 11,_,_,h=>h
 | 12,_,_,h=>h
 | _+13,_,_,h=>trivial
theorem steF_co {F0:(Nat->Prop)->World->Prop} {x:Ste} {V:Nat->Value} {v:Value} {l:List ByteArray}:∀j G W,(if j=9 then fun G w=>OwnF 9 1 RTxt G w v l else steF F0 x V j) G W->steF F0 { x with co:=l } (vPut 9 v V) j G W
 | 0,_,_,h=>h
 | 1,_,_,h=>h
 | 2,_,_,h=>h
 | 3,_,_,h=>h
 | 4,_,_,h=>h
 | 5,_,_,h=>h
 | 6,_,_,h=>h
 | 7,_,_,h=>h
 | 8,_,_,h=>h
 | 9,_,_,h=>h
 | 10,_,_,h=>h
 | 11,_,_,h=>h
 | 12,_,_,h=>h
 | _+13,_,_,h=>trivial
theorem steF_ro {F0:(Nat->Prop)->World->Prop} {x:Ste} {V:Nat->Value} {v:Value} {l:List Rou}:∀j G W,(if j=10 then fun G w=>OwnF 119 4 RRou G w v l else steF F0 x V j) G W->steF F0 { x with ro:=l } (vPut 10 v V) j G W
 | 0,_,_,h=>h
 | 1,_,_,h=>h
 | 2,_,_,h=>h
 | 3,_,_,h=>h
 | 4,_,_,h=>h
 | 5,_,_,h=>h
 | 6,_,_,h=>h
 | 7,_,_,h=>h
 | 8,_,_,h=>h
 | 9,_,_,h=>h
 | 10,_,_,h=>h
 | 11,_,_,h=>h
 | 12,_,_,h=>h
 | _+13,_,_,h=>trivial
theorem steF_ss {F0:(Nat->Prop)->World->Prop} {x:Ste} {V:Nat->Value} {v:Value} {l:List Sta}:∀j G W,(if j=11 then fun G w=>OwnF 122 5 RSta G w v l else steF F0 x V j) G W->steF F0 { x with ss:=l } (vPut 11 v V) j G W
 | 0,_,_,h=>h
 | 1,_,_,h=>h
 | 2,_,_,h=>h
 | 3,_,_,h=>h
 | 4,_,_,h=>h
 | 5,_,_,h=>h
 | 6,_,_,h=>h
 | 7,_,_,h=>h
 | 8,_,_,h=>h
 | 9,_,_,h=>h
 | 10,_,_,h=>h
 | 11,_,_,h=>h
 | 12,_,_,h=>h
 | _+13,_,_,h=>trivial
theorem steF_la {F0:(Nat->Prop)->World->Prop} {x:Ste} {V:Nat->Value} {v:Value} {l:List Md.Lw}:∀j G W,(if j=12 then fun G w=>OwnF 127 3 RLw G w v l else steF F0 x V j) G W->steF F0 { x with la:=l } (vPut 12 v V) j G W
 | 0,_,_,h=>h
 | 1,_,_,h=>h
 | 2,_,_,h=>h
 | 3,_,_,h=>h
 | 4,_,_,h=>h
 | 5,_,_,h=>h
 | 6,_,_,h=>h
 | 7,_,_,h=>h
 | 8,_,_,h=>h
 | 9,_,_,h=>h
 | 10,_,_,h=>h
 | 11,_,_,h=>h
 | 12,_,_,h=>h
 | _+13,_,_,h=>trivial
def DO {α:Type} (L:Lk) (g lo:Nat) (S:α->World->Prop) (r:R α) (w:World) (e:Ending) (w':World):Prop:=
 Eqv (fun k=>k<lo/\¬k=g) w w'/\match r with
  | .ok y u=>e=.returned (.tuple #[])/\S y w'/\Rd L g u w'
  | .no u=>e=.panicked (mal (hd u).l)
section
variable {α:Type} {L:Lk} {g lo:Nat} {S:α->World->Prop} {r:R α} {w w':World} {e:Ending} {y:α} {u:List Tk}
theorem DO.ok (hr:r=.ok y u) (hb:Eqv (fun k=>k<lo/\¬k=g) w w') (hS:S y w') (hR:Rd L g u w'):DO L g lo S r w (.returned (.tuple #[])) w':=by subst hr;exact⟨hb,rfl,hS,hR⟩
theorem DO.no (hr:r=.no u) (hb:Eqv (fun k=>k<lo/\¬k=g) w w'):DO L g lo S r w (.panicked (mal (hd u).l)) w':=by subst hr;exact⟨hb,rfl⟩
theorem DO.cases (h:DO L g lo S r w e w'):(∃y u,r=.ok y u/\e=.returned (.tuple #[])/\Eqv (fun k=>k<lo/\¬k=g) w w'/\S y w'/\Rd L g u w')∨(∃u,r=.no u/\e=.panicked (mal (hd u).l)/\Eqv (fun k=>k<lo/\¬k=g) w w'):=by
 obtain⟨hb,h⟩:=h
 cases r with
 | ok y u=>exact .inl ⟨y,u,rfl,h.1,hb,h.2.1,h.2.2⟩
 | no u=>exact .inr ⟨u,rfl,h,hb⟩
end
theorem bt_lo {g lo:Nat} {a w:World} (h:Bt g a w):Eqv (fun k=>k<lo/\¬k=g) a w:=h.mono fun k _ hk=>hk.2
section
variable {L:Lk} {g:Nat} {t:List Tk}
theorem zFQ_0 {p:Prop} (h:p:=by omega):p:=h
set_option maxRecDepth 100000 in
theorem declaration_any (F0:(Nat->Prop)->World->Prop) (h0:Mv F0) (lo B:Nat) (x:Ste) (V:Nat->Value) (d:Nat) (w:World) (hR:Rd L g t w) (hlo:g<lo) (hd:sSte x d) (hdl:d<=30001) (hD:steB F0 lo B x V w):Calls Tryz.prog 106 #[.pointer (some ⟨g,0,none⟩),.pointer (some ⟨B,0,none⟩)] w (DO L g lo (fun y W=>∃V,steB F0 lo B y V W) (run (dcl x) t) w):=by
 obtain⟨r,hr⟩:∃r,run (dcl x) t=r:=⟨_,rfl⟩
 rw[hr];have HS:=hid hr;have hg:=hR.blk;have HR:=hid hR;have HB:Hid (Bt g w w):=hid (Eqv.refl _ _);clear hR hr;have HM:=hid (steF_mv h0 x V);have HD:=hid hD;have HL:=hid hd;have hblo:=hD.lob;have hblt:=hD.box.lt;clear hD hd;go_enter Tryz.func106,Tryz.ntmps106;go_wp2_with fail;refine(accept_any kVar _ (HR.out.low qe) (by decide)).mono ?_;rintro e w1 ⟨b1,⟨i1,rfl,R1⟩|⟨i1,rfl,R1⟩⟩
 · replace HS:=st_yes HS i1;replace HD:=hid (HD.out.up HM.out (w1:=w1) qe);replace HB:Hid (Bt g w w1):=hid qh;replace HR:=hid R1;clear b1 R1;clear i1;have lm:World.cell? w1 ⟨B,1,none⟩=some (V 1):=HD.out.cell rfl;go_wp2_with fail;go_region_law (first|(rw[if_pos (by rfl)];refine Lib.wp_append_run _ _ _ _ _ rfl _ _ rfl rfl _ _ hrun ?_)|(go_simp;go_at_call 62;refine(value_any _ (HR.out.low qe)).mono ?_;rintro e' wa h3;rcases h3.cases with⟨x3,u3,v3,r3,rfl,b3,V3,R3⟩|⟨u3,r3,rfl,b3⟩;rotate_left 1;(have HBB:=HB.out;exact⟨rfl,DO.no (st_no HS r3) (bt_lo qe)⟩);obtain rfl:=V3;obtain⟨v5,w5,hrun,⟨p5,n5,rfl⟩,k5,f5,D5,q5⟩:=HD.out.push gVal RVal.map sVal_ HM.out (w1:=wa) qe (i:=1) rfl (by decide) rfl (y:=x3) (ce:=cVal x3) rfl (by have:=HL.out.va.len;omega);have lm2:World.cell? wa ⟨B,1,none⟩=some (V 1):=(box_but HD.out.box (S:=fun k=>k≠g) qe zFQ_0).get rfl;have lm3:World.cell? (wa.alloc (.cells (cVal x3) 93)) ⟨B,1,none⟩=some (V 1):=(box_but HD.out.box (S:=fun k=>k≠g) qe zFQ_0).get rfl;dsimp only [cVal] at hrun lm3 ⊢))
   all_goals
    replace HS:=st_ok HS r3;have HD':Hid (steB F0 lo B { x with va:=x.va++[x3] } (vPut 1 (.slice p5 (x.va.length+1) n5) V) (w5.setCell ⟨B,1,none⟩ (.slice p5 (x.va.length+1) n5))):=hid (D5.cast steF_va rfl);have qF:Eqv (fun k=>k<lo/\¬k=g) w (w5.setCell ⟨B,1,none⟩ (.slice p5 _ n5)):=Eqv.call (S':=fun k=>k<lo) (bt_lo qh) q5 (fun k _ h=>h.1);have hrF:=R3.low (w2:=w5.setCell ⟨B,1,none⟩ (.slice p5 _ n5)) (q5.mono fun k _ hk=>by have hk':k<=g:=hk;omega);have HQ:=hid (And.intro qF hrF);clear D5 q5 R3 b3 hrun k5 f5 qF hrF;go_wp2_with fail
    (first|go_end0|refine bodyPost_ret (results_none rfl _ _ _) rfl ?_)
    exact DO.ok (st_end HS) HQ.out.1 ⟨_,HD'.out⟩ HQ.out.2
 replace HS:=st_not HS i1;replace HD:=hid (HD.out.up HM.out (w1:=w1) qe);replace HB:Hid (Bt g w w1):=hid qh;replace HR:=hid R1;clear b1 R1;clear i1;go_wp2_with fail;refine(accept_any kResource _ (HR.out.low qe) (by decide)).mono ?_;rintro e w2 ⟨b2,⟨i2,rfl,R2⟩|⟨i2,rfl,R2⟩⟩
 · replace HS:=st_yes HS i2;replace HD:=hid (HD.out.up HM.out (w1:=w2) qe);replace HB:Hid (Bt g w w2):=hid qh;replace HR:=hid R2;clear b2 R2;clear i2;have lm:World.cell? w2 ⟨B,2,none⟩=some (V 2):=HD.out.cell rfl;go_wp2_with fail;go_region_law (first|(rw[if_pos (by rfl)];refine Lib.wp_append_run _ _ _ _ _ rfl _ _ rfl rfl _ _ hrun ?_)|(go_simp;go_at_call 152;refine(resource_any _ (HR.out.low qe)).mono ?_;rintro e' wa h3;rcases h3.cases with⟨x3,u3,v3,r3,rfl,b3,V3,R3⟩|⟨u3,r3,rfl,b3⟩;rotate_left 1;(have HBB:=HB.out;exact⟨rfl,DO.no (st_no HS r3) (bt_lo qe)⟩);obtain⟨_,rfl,P3,rfl,o3⟩:=V3;obtain⟨v5,w5,hrun,⟨p5,n5,rfl⟩,k5,f5,D5,q5⟩:=HD.out.push gRes RRes.map sRes_ HM.out (w1:=wa) qe (i:=2) rfl (by decide) rfl (y:=x3) (ce:=cRes x3 P3) ⟨P3,rfl,o3⟩ (by have:=HL.out.rs.len;omega);have lm2:World.cell? wa ⟨B,2,none⟩=some (V 2):=(box_but HD.out.box (S:=fun k=>k≠g) qe zFQ_0).get rfl;have lm3:World.cell? (wa.alloc (.cells (cRes x3 P3) 111)) ⟨B,2,none⟩=some (V 2):=(box_but HD.out.box (S:=fun k=>k≠g) qe zFQ_0).get rfl;dsimp only [cRes] at hrun lm3 ⊢))
   all_goals
    replace HS:=st_ok HS r3;have HD':Hid (steB F0 lo B { x with rs:=x.rs++[x3] } (vPut 2 (.slice p5 (x.rs.length+1) n5) V) (w5.setCell ⟨B,2,none⟩ (.slice p5 (x.rs.length+1) n5))):=hid (D5.cast steF_rs rfl);have qF:Eqv (fun k=>k<lo/\¬k=g) w (w5.setCell ⟨B,2,none⟩ (.slice p5 _ n5)):=Eqv.call (S':=fun k=>k<lo) (bt_lo qh) q5 (fun k _ h=>h.1);have hrF:=R3.low (w2:=w5.setCell ⟨B,2,none⟩ (.slice p5 _ n5)) (q5.mono fun k _ hk=>by have hk':k<=g:=hk;omega);have HQ:=hid (And.intro qF hrF);clear D5 q5 R3 b3 hrun k5 f5 qF hrF;go_wp2_with fail
    (first|go_end0|refine bodyPost_ret (results_none rfl _ _ _) rfl ?_)
    exact DO.ok (st_end HS) HQ.out.1 ⟨_,HD'.out⟩ HQ.out.2
 replace HS:=st_not HS i2;replace HD:=hid (HD.out.up HM.out (w1:=w2) qe);replace HB:Hid (Bt g w w2):=hid qh;replace HR:=hid R2;clear b2 R2;clear i2;go_wp2_with fail;refine(accept_any kStore _ (HR.out.low qe) (by decide)).mono ?_;rintro e w3 ⟨b3,⟨i3,rfl,R3⟩|⟨i3,rfl,R3⟩⟩
 · replace HS:=st_yes HS i3;replace HD:=hid (HD.out.up HM.out (w1:=w3) qe);replace HB:Hid (Bt g w w3):=hid qh;replace HR:=hid R3;clear b3 R3;clear i3;have lm:World.cell? w3 ⟨B,3,none⟩=some (V 3):=HD.out.cell rfl;go_wp2_with fail;go_region_law (first|(rw[if_pos (by rfl)];refine Lib.wp_append_run _ _ _ _ _ rfl _ _ rfl rfl _ _ hrun ?_)|(go_simp;go_at_call 153;refine(store_any _ (HR.out.low qe)).mono ?_;rintro e' wa h3;rcases h3.cases with⟨x3,u3,v3,r3,rfl,b3,V3,R3⟩|⟨u3,r3,rfl,b3⟩;rotate_left 1;(have HBB:=HB.out;exact⟨rfl,DO.no (st_no HS r3) (bt_lo qe)⟩);obtain rfl:=V3;obtain⟨v5,w5,hrun,⟨p5,n5,rfl⟩,k5,f5,D5,q5⟩:=HD.out.push gSto RSto.map sSto_ HM.out (w1:=wa) qe (i:=3) rfl (by decide) rfl (y:=x3) (ce:=cSto x3) rfl (by have:=HL.out.st.len;omega);have lm2:World.cell? wa ⟨B,3,none⟩=some (V 3):=(box_but HD.out.box (S:=fun k=>k≠g) qe zFQ_0).get rfl;have lm3:World.cell? (wa.alloc (.cells (cSto x3) 114)) ⟨B,3,none⟩=some (V 3):=(box_but HD.out.box (S:=fun k=>k≠g) qe zFQ_0).get rfl;dsimp only [cSto] at hrun lm3 ⊢))
   all_goals
    replace HS:=st_ok HS r3;have HD':Hid (steB F0 lo B { x with st:=x.st++[x3] } (vPut 3 (.slice p5 (x.st.length+1) n5) V) (w5.setCell ⟨B,3,none⟩ (.slice p5 (x.st.length+1) n5))):=hid (D5.cast steF_st rfl);have qF:Eqv (fun k=>k<lo/\¬k=g) w (w5.setCell ⟨B,3,none⟩ (.slice p5 _ n5)):=Eqv.call (S':=fun k=>k<lo) (bt_lo qh) q5 (fun k _ h=>h.1);have hrF:=R3.low (w2:=w5.setCell ⟨B,3,none⟩ (.slice p5 _ n5)) (q5.mono fun k _ hk=>by have hk':k<=g:=hk;omega);have HQ:=hid (And.intro qF hrF);clear D5 q5 R3 b3 hrun k5 f5 qF hrF;go_wp2_with fail
    (first|go_end0|refine bodyPost_ret (results_none rfl _ _ _) rfl ?_)
    exact DO.ok (st_end HS) HQ.out.1 ⟨_,HD'.out⟩ HQ.out.2
 replace HS:=st_not HS i3;replace HD:=hid (HD.out.up HM.out (w1:=w3) qe);replace HB:Hid (Bt g w w3):=hid qh;replace HR:=hid R3;clear b3 R3;clear i3;go_wp2_with fail;refine(accept_any kBelt _ (HR.out.low qe) (by decide)).mono ?_;rintro e w4 ⟨b4,⟨i4,rfl,R4⟩|⟨i4,rfl,R4⟩⟩
 · replace HS:=st_yes HS i4;replace HD:=hid (HD.out.up HM.out (w1:=w4) qe);replace HB:Hid (Bt g w w4):=hid qh;replace HR:=hid R4;clear b4 R4;clear i4;have lm:World.cell? w4 ⟨B,4,none⟩=some (V 4):=HD.out.cell rfl;go_wp2_with fail;go_region_law (first|(rw[if_pos (by rfl)];refine Lib.wp_append_run _ _ _ _ _ rfl _ _ rfl rfl _ _ hrun ?_)|(go_simp;go_at_call 154;refine(belt_any _ (HR.out.low qe)).mono ?_;rintro e' wa h3;rcases h3.cases with⟨x3,u3,v3,r3,rfl,b3,V3,R3⟩|⟨u3,r3,rfl,b3⟩;rotate_left 1;(have HBB:=HB.out;exact⟨rfl,DO.no (st_no HS r3) (bt_lo qe)⟩);obtain rfl:=V3;obtain⟨v5,w5,hrun,⟨p5,n5,rfl⟩,k5,f5,D5,q5⟩:=HD.out.push gBlt RBlt.map sBlt_ HM.out (w1:=wa) qe (i:=4) rfl (by decide) rfl (y:=x3) (ce:=cBlt x3) rfl (by have:=HL.out.be.len;omega);have lm2:World.cell? wa ⟨B,4,none⟩=some (V 4):=(box_but HD.out.box (S:=fun k=>k≠g) qe zFQ_0).get rfl;have lm3:World.cell? (wa.alloc (.cells (cBlt x3) 116)) ⟨B,4,none⟩=some (V 4):=(box_but HD.out.box (S:=fun k=>k≠g) qe zFQ_0).get rfl;dsimp only [cBlt] at hrun lm3 ⊢))
   all_goals
    replace HS:=st_ok HS r3;have HD':Hid (steB F0 lo B { x with be:=x.be++[x3] } (vPut 4 (.slice p5 (x.be.length+1) n5) V) (w5.setCell ⟨B,4,none⟩ (.slice p5 (x.be.length+1) n5))):=hid (D5.cast steF_be rfl);have qF:Eqv (fun k=>k<lo/\¬k=g) w (w5.setCell ⟨B,4,none⟩ (.slice p5 _ n5)):=Eqv.call (S':=fun k=>k<lo) (bt_lo qh) q5 (fun k _ h=>h.1);have hrF:=R3.low (w2:=w5.setCell ⟨B,4,none⟩ (.slice p5 _ n5)) (q5.mono fun k _ hk=>by have hk':k<=g:=hk;omega);have HQ:=hid (And.intro qF hrF);clear D5 q5 R3 b3 hrun k5 f5 qF hrF;go_wp2_with fail
    (first|go_end0|refine bodyPost_ret (results_none rfl _ _ _) rfl ?_)
    exact DO.ok (st_end HS) HQ.out.1 ⟨_,HD'.out⟩ HQ.out.2
 replace HS:=st_not HS i4;replace HD:=hid (HD.out.up HM.out (w1:=w4) qe);replace HB:Hid (Bt g w w4):=hid qh;replace HR:=hid R4;clear b4 R4;clear i4;go_wp2_with fail;refine(accept_any kQueue _ (HR.out.low qe) (by decide)).mono ?_;rintro e w5 ⟨b5,⟨i5,rfl,R5⟩|⟨i5,rfl,R5⟩⟩
 · replace HS:=st_yes HS i5;replace HD:=hid (HD.out.up HM.out (w1:=w5) qe);replace HB:Hid (Bt g w w5):=hid qh;replace HR:=hid R5;clear b5 R5;clear i5;have lm:World.cell? w5 ⟨B,5,none⟩=some (V 5):=HD.out.cell rfl;go_wp2_with fail;go_region_law (first|(rw[if_pos (by rfl)];refine Lib.wp_append_run _ _ _ _ _ rfl _ _ rfl rfl _ _ hrun ?_)|(go_simp;go_at_call 105;refine(nameLine_any _ (HR.out.low qe)).mono ?_;rintro e' wa h3;rcases h3.cases with⟨x3,u3,v3,r3,rfl,b3,V3,R3⟩|⟨u3,r3,rfl,b3⟩;rotate_left 1;(have HBB:=HB.out;exact⟨rfl,DO.no (st_no HS r3) (bt_lo qe)⟩);obtain rfl:=V3;obtain⟨v5,w5,hrun,⟨p5,n5,rfl⟩,k5,f5,D5,q5⟩:=HD.out.push kTxt RTxt.map sTxt_ HM.out (w1:=wa) qe (i:=5) rfl (by decide) rfl (y:=x3) (ce:=#[.string x3]) rfl (by have:=HL.out.qu.len;omega);have lm2:World.cell? wa ⟨B,5,none⟩=some (V 5):=(box_but HD.out.box (S:=fun k=>k≠g) qe zFQ_0).get rfl;have lm3:World.cell? (wa.alloc (.cells (#[.string x3]) 9)) ⟨B,5,none⟩=some (V 5):=(box_but HD.out.box (S:=fun k=>k≠g) qe zFQ_0).get rfl))
   all_goals
    replace HS:=st_ok HS r3;have HD':Hid (steB F0 lo B { x with qu:=x.qu++[x3] } (vPut 5 (.slice p5 (x.qu.length+1) n5) V) (w5.setCell ⟨B,5,none⟩ (.slice p5 (x.qu.length+1) n5))):=hid (D5.cast steF_qu rfl);have qF:Eqv (fun k=>k<lo/\¬k=g) w (w5.setCell ⟨B,5,none⟩ (.slice p5 _ n5)):=Eqv.call (S':=fun k=>k<lo) (bt_lo qh) q5 (fun k _ h=>h.1);have hrF:=R3.low (w2:=w5.setCell ⟨B,5,none⟩ (.slice p5 _ n5)) (q5.mono fun k _ hk=>by have hk':k<=g:=hk;omega);have HQ:=hid (And.intro qF hrF);clear D5 q5 R3 b3 hrun k5 f5 qF hrF;go_wp2_with fail
    (first|go_end0|refine bodyPost_ret (results_none rfl _ _ _) rfl ?_)
    exact DO.ok (st_end HS) HQ.out.1 ⟨_,HD'.out⟩ HQ.out.2
 replace HS:=st_not HS i5;replace HD:=hid (HD.out.up HM.out (w1:=w5) qe);replace HB:Hid (Bt g w w5):=hid qh;replace HR:=hid R5;clear b5 R5;clear i5;go_wp2_with fail;refine(accept_any kStream _ (HR.out.low qe) (by decide)).mono ?_;rintro e w6 ⟨b6,⟨i6,rfl,R6⟩|⟨i6,rfl,R6⟩⟩
 · replace HS:=st_yes HS i6;replace HD:=hid (HD.out.up HM.out (w1:=w6) qe);replace HB:Hid (Bt g w w6):=hid qh;replace HR:=hid R6;clear b6 R6;clear i6;have lm:World.cell? w6 ⟨B,6,none⟩=some (V 6):=HD.out.cell rfl;go_wp2_with fail;go_region_law (first|(rw[if_pos (by rfl)];refine Lib.wp_append_run _ _ _ _ _ rfl _ _ rfl rfl _ _ hrun ?_)|(go_simp;go_at_call 105;refine(nameLine_any _ (HR.out.low qe)).mono ?_;rintro e' wa h3;rcases h3.cases with⟨x3,u3,v3,r3,rfl,b3,V3,R3⟩|⟨u3,r3,rfl,b3⟩;rotate_left 1;(have HBB:=HB.out;exact⟨rfl,DO.no (st_no HS r3) (bt_lo qe)⟩);obtain rfl:=V3;obtain⟨v5,w5,hrun,⟨p5,n5,rfl⟩,k5,f5,D5,q5⟩:=HD.out.push kTxt RTxt.map sTxt_ HM.out (w1:=wa) qe (i:=6) rfl (by decide) rfl (y:=x3) (ce:=#[.string x3]) rfl (by have:=HL.out.sm.len;omega);have lm2:World.cell? wa ⟨B,6,none⟩=some (V 6):=(box_but HD.out.box (S:=fun k=>k≠g) qe zFQ_0).get rfl;have lm3:World.cell? (wa.alloc (.cells (#[.string x3]) 9)) ⟨B,6,none⟩=some (V 6):=(box_but HD.out.box (S:=fun k=>k≠g) qe zFQ_0).get rfl))
   all_goals
    replace HS:=st_ok HS r3;have HD':Hid (steB F0 lo B { x with sm:=x.sm++[x3] } (vPut 6 (.slice p5 (x.sm.length+1) n5) V) (w5.setCell ⟨B,6,none⟩ (.slice p5 (x.sm.length+1) n5))):=hid (D5.cast steF_sm rfl);have qF:Eqv (fun k=>k<lo/\¬k=g) w (w5.setCell ⟨B,6,none⟩ (.slice p5 _ n5)):=Eqv.call (S':=fun k=>k<lo) (bt_lo qh) q5 (fun k _ h=>h.1);have hrF:=R3.low (w2:=w5.setCell ⟨B,6,none⟩ (.slice p5 _ n5)) (q5.mono fun k _ hk=>by have hk':k<=g:=hk;omega);have HQ:=hid (And.intro qF hrF);clear D5 q5 R3 b3 hrun k5 f5 qF hrF;go_wp2_with fail
    (first|go_end0|refine bodyPost_ret (results_none rfl _ _ _) rfl ?_)
    exact DO.ok (st_end HS) HQ.out.1 ⟨_,HD'.out⟩ HQ.out.2
 replace HS:=st_not HS i6;replace HD:=hid (HD.out.up HM.out (w1:=w6) qe);replace HB:Hid (Bt g w w6):=hid qh;replace HR:=hid R6;clear b6 R6;clear i6;go_wp2_with fail;refine(accept_any kTally _ (HR.out.low qe) (by decide)).mono ?_;rintro e w7 ⟨b7,⟨i7,rfl,R7⟩|⟨i7,rfl,R7⟩⟩
 · replace HS:=st_yes HS i7;replace HD:=hid (HD.out.up HM.out (w1:=w7) qe);replace HB:Hid (Bt g w w7):=hid qh;replace HR:=hid R7;clear b7 R7;clear i7;have lm:World.cell? w7 ⟨B,7,none⟩=some (V 7):=HD.out.cell rfl;go_wp2_with fail;go_region_law (first|(rw[if_pos (by rfl)];refine Lib.wp_append_run _ _ _ _ _ rfl _ _ rfl rfl _ _ hrun ?_)|(go_simp;go_at_call 105;refine(nameLine_any _ (HR.out.low qe)).mono ?_;rintro e' wa h3;rcases h3.cases with⟨x3,u3,v3,r3,rfl,b3,V3,R3⟩|⟨u3,r3,rfl,b3⟩;rotate_left 1;(have HBB:=HB.out;exact⟨rfl,DO.no (st_no HS r3) (bt_lo qe)⟩);obtain rfl:=V3;obtain⟨v5,w5,hrun,⟨p5,n5,rfl⟩,k5,f5,D5,q5⟩:=HD.out.push kTxt RTxt.map sTxt_ HM.out (w1:=wa) qe (i:=7) rfl (by decide) rfl (y:=x3) (ce:=#[.string x3]) rfl (by have:=HL.out.ta.len;omega);have lm2:World.cell? wa ⟨B,7,none⟩=some (V 7):=(box_but HD.out.box (S:=fun k=>k≠g) qe zFQ_0).get rfl;have lm3:World.cell? (wa.alloc (.cells (#[.string x3]) 9)) ⟨B,7,none⟩=some (V 7):=(box_but HD.out.box (S:=fun k=>k≠g) qe zFQ_0).get rfl))
   all_goals
    replace HS:=st_ok HS r3;have HD':Hid (steB F0 lo B { x with ta:=x.ta++[x3] } (vPut 7 (.slice p5 (x.ta.length+1) n5) V) (w5.setCell ⟨B,7,none⟩ (.slice p5 (x.ta.length+1) n5))):=hid (D5.cast steF_ta rfl);have qF:Eqv (fun k=>k<lo/\¬k=g) w (w5.setCell ⟨B,7,none⟩ (.slice p5 _ n5)):=Eqv.call (S':=fun k=>k<lo) (bt_lo qh) q5 (fun k _ h=>h.1);have hrF:=R3.low (w2:=w5.setCell ⟨B,7,none⟩ (.slice p5 _ n5)) (q5.mono fun k _ hk=>by have hk':k<=g:=hk;omega);have HQ:=hid (And.intro qF hrF);clear D5 q5 R3 b3 hrun k5 f5 qF hrF;go_wp2_with fail
    (first|go_end0|refine bodyPost_ret (results_none rfl _ _ _) rfl ?_)
    exact DO.ok (st_end HS) HQ.out.1 ⟨_,HD'.out⟩ HQ.out.2
 replace HS:=st_not HS i7;replace HD:=hid (HD.out.up HM.out (w1:=w7) qe);replace HB:Hid (Bt g w w7):=hid qh;replace HR:=hid R7;clear b7 R7;clear i7;go_wp2_with fail;refine(accept_any kLevel _ (HR.out.low qe) (by decide)).mono ?_;rintro e w8 ⟨b8,⟨i8,rfl,R8⟩|⟨i8,rfl,R8⟩⟩
 · replace HS:=st_yes HS i8;replace HD:=hid (HD.out.up HM.out (w1:=w8) qe);replace HB:Hid (Bt g w w8):=hid qh;replace HR:=hid R8;clear b8 R8;clear i8;have lm:World.cell? w8 ⟨B,8,none⟩=some (V 8):=HD.out.cell rfl;go_wp2_with fail;go_region_law (first|(rw[if_pos (by rfl)];refine Lib.wp_append_run _ _ _ _ _ rfl _ _ rfl rfl _ _ hrun ?_)|(go_simp;go_at_call 105;refine(nameLine_any _ (HR.out.low qe)).mono ?_;rintro e' wa h3;rcases h3.cases with⟨x3,u3,v3,r3,rfl,b3,V3,R3⟩|⟨u3,r3,rfl,b3⟩;rotate_left 1;(have HBB:=HB.out;exact⟨rfl,DO.no (st_no HS r3) (bt_lo qe)⟩);obtain rfl:=V3;obtain⟨v5,w5,hrun,⟨p5,n5,rfl⟩,k5,f5,D5,q5⟩:=HD.out.push kTxt RTxt.map sTxt_ HM.out (w1:=wa) qe (i:=8) rfl (by decide) rfl (y:=x3) (ce:=#[.string x3]) rfl (by have:=HL.out.le.len;omega);have lm2:World.cell? wa ⟨B,8,none⟩=some (V 8):=(box_but HD.out.box (S:=fun k=>k≠g) qe zFQ_0).get rfl;have lm3:World.cell? (wa.alloc (.cells (#[.string x3]) 9)) ⟨B,8,none⟩=some (V 8):=(box_but HD.out.box (S:=fun k=>k≠g) qe zFQ_0).get rfl))
   all_goals
    replace HS:=st_ok HS r3;have HD':Hid (steB F0 lo B { x with le:=x.le++[x3] } (vPut 8 (.slice p5 (x.le.length+1) n5) V) (w5.setCell ⟨B,8,none⟩ (.slice p5 (x.le.length+1) n5))):=hid (D5.cast steF_le rfl);have qF:Eqv (fun k=>k<lo/\¬k=g) w (w5.setCell ⟨B,8,none⟩ (.slice p5 _ n5)):=Eqv.call (S':=fun k=>k<lo) (bt_lo qh) q5 (fun k _ h=>h.1);have hrF:=R3.low (w2:=w5.setCell ⟨B,8,none⟩ (.slice p5 _ n5)) (q5.mono fun k _ hk=>by have hk':k<=g:=hk;omega);have HQ:=hid (And.intro qF hrF);clear D5 q5 R3 b3 hrun k5 f5 qF hrF;go_wp2_with fail
    (first|go_end0|refine bodyPost_ret (results_none rfl _ _ _) rfl ?_)
    exact DO.ok (st_end HS) HQ.out.1 ⟨_,HD'.out⟩ HQ.out.2
 replace HS:=st_not HS i8;replace HD:=hid (HD.out.up HM.out (w1:=w8) qe);replace HB:Hid (Bt g w w8):=hid qh;replace HR:=hid R8;clear b8 R8;clear i8;go_wp2_with fail;refine(accept_any kCount _ (HR.out.low qe) (by decide)).mono ?_;rintro e w9 ⟨b9,⟨i9,rfl,R9⟩|⟨i9,rfl,R9⟩⟩
 · replace HS:=st_yes HS i9;replace HD:=hid (HD.out.up HM.out (w1:=w9) qe);replace HB:Hid (Bt g w w9):=hid qh;replace HR:=hid R9;clear b9 R9;clear i9;have lm:World.cell? w9 ⟨B,9,none⟩=some (V 9):=HD.out.cell rfl;go_wp2_with fail;go_region_law (first|(rw[if_pos (by rfl)];refine Lib.wp_append_run _ _ _ _ _ rfl _ _ rfl rfl _ _ hrun ?_)|(go_simp;go_at_call 105;refine(nameLine_any _ (HR.out.low qe)).mono ?_;rintro e' wa h3;rcases h3.cases with⟨x3,u3,v3,r3,rfl,b3,V3,R3⟩|⟨u3,r3,rfl,b3⟩;rotate_left 1;(have HBB:=HB.out;exact⟨rfl,DO.no (st_no HS r3) (bt_lo qe)⟩);obtain rfl:=V3;obtain⟨v5,w5,hrun,⟨p5,n5,rfl⟩,k5,f5,D5,q5⟩:=HD.out.push kTxt RTxt.map sTxt_ HM.out (w1:=wa) qe (i:=9) rfl (by decide) rfl (y:=x3) (ce:=#[.string x3]) rfl (by have:=HL.out.co.len;omega);have lm2:World.cell? wa ⟨B,9,none⟩=some (V 9):=(box_but HD.out.box (S:=fun k=>k≠g) qe zFQ_0).get rfl;have lm3:World.cell? (wa.alloc (.cells (#[.string x3]) 9)) ⟨B,9,none⟩=some (V 9):=(box_but HD.out.box (S:=fun k=>k≠g) qe zFQ_0).get rfl))
   all_goals
    replace HS:=st_ok HS r3;have HD':Hid (steB F0 lo B { x with co:=x.co++[x3] } (vPut 9 (.slice p5 (x.co.length+1) n5) V) (w5.setCell ⟨B,9,none⟩ (.slice p5 (x.co.length+1) n5))):=hid (D5.cast steF_co rfl);have qF:Eqv (fun k=>k<lo/\¬k=g) w (w5.setCell ⟨B,9,none⟩ (.slice p5 _ n5)):=Eqv.call (S':=fun k=>k<lo) (bt_lo qh) q5 (fun k _ h=>h.1);have hrF:=R3.low (w2:=w5.setCell ⟨B,9,none⟩ (.slice p5 _ n5)) (q5.mono fun k _ hk=>by have hk':k<=g:=hk;omega);have HQ:=hid (And.intro qF hrF);clear D5 q5 R3 b3 hrun k5 f5 qF hrF;go_wp2_with fail
    (first|go_end0|refine bodyPost_ret (results_none rfl _ _ _) rfl ?_)
    exact DO.ok (st_end HS) HQ.out.1 ⟨_,HD'.out⟩ HQ.out.2
 replace HS:=st_not HS i9;replace HD:=hid (HD.out.up HM.out (w1:=w9) qe);replace HB:Hid (Bt g w w9):=hid qh;replace HR:=hid R9;clear b9 R9;clear i9;go_wp2_with fail;refine(accept_any kRoutine _ (HR.out.low qe) (by decide)).mono ?_;rintro e w10 ⟨b10,⟨i10,rfl,R10⟩|⟨i10,rfl,R10⟩⟩
 · replace HS:=st_yes HS i10;replace HD:=hid (HD.out.up HM.out (w1:=w10) qe);replace HB:Hid (Bt g w w10):=hid qh;replace HR:=hid R10;clear b10 R10;clear i10;have lm:World.cell? w10 ⟨B,10,none⟩=some (V 10):=HD.out.cell rfl;go_wp2_with fail;go_region_law (first|(rw[if_pos (by rfl)];refine Lib.wp_append_run _ _ _ _ _ rfl _ _ rfl rfl _ _ hrun ?_)|(go_simp;go_at_call 155;refine(routine_any _ (HR.out.low qe)).mono ?_;rintro e' wa h3;rcases h3.cases with⟨x3,u3,v3,r3,rfl,b3,V3,R3⟩|⟨u3,r3,rfl,b3⟩;rotate_left 1;(have HBB:=HB.out;exact⟨rfl,DO.no (st_no HS r3) (bt_lo qe)⟩);obtain⟨_,rfl,P3,rfl,o3⟩:=V3;obtain⟨v5,w5,hrun,⟨p5,n5,rfl⟩,k5,f5,D5,q5⟩:=HD.out.push gRou RRou.map sRou_ HM.out (w1:=wa) qe (i:=10) rfl (by decide) rfl (y:=x3) (ce:=cRou x3 P3) ⟨P3,rfl,o3⟩ (by have:=HL.out.ro.len;omega);have lm2:World.cell? wa ⟨B,10,none⟩=some (V 10):=(box_but HD.out.box (S:=fun k=>k≠g) qe zFQ_0).get rfl;have lm3:World.cell? (wa.alloc (.cells (cRou x3 P3) 119)) ⟨B,10,none⟩=some (V 10):=(box_but HD.out.box (S:=fun k=>k≠g) qe zFQ_0).get rfl;dsimp only [cRou] at hrun lm3 ⊢))
   all_goals
    replace HS:=st_ok HS r3;have HD':Hid (steB F0 lo B { x with ro:=x.ro++[x3] } (vPut 10 (.slice p5 (x.ro.length+1) n5) V) (w5.setCell ⟨B,10,none⟩ (.slice p5 (x.ro.length+1) n5))):=hid (D5.cast steF_ro rfl);have qF:Eqv (fun k=>k<lo/\¬k=g) w (w5.setCell ⟨B,10,none⟩ (.slice p5 _ n5)):=Eqv.call (S':=fun k=>k<lo) (bt_lo qh) q5 (fun k _ h=>h.1);have hrF:=R3.low (w2:=w5.setCell ⟨B,10,none⟩ (.slice p5 _ n5)) (q5.mono fun k _ hk=>by have hk':k<=g:=hk;omega);have HQ:=hid (And.intro qF hrF);clear D5 q5 R3 b3 hrun k5 f5 qF hrF;go_wp2_with fail
    (first|go_end0|refine bodyPost_ret (results_none rfl _ _ _) rfl ?_)
    exact DO.ok (st_end HS) HQ.out.1 ⟨_,HD'.out⟩ HQ.out.2
 replace HS:=st_not HS i10;replace HD:=hid (HD.out.up HM.out (w1:=w10) qe);replace HB:Hid (Bt g w w10):=hid qh;replace HR:=hid R10;clear b10 R10;clear i10;go_wp2_with fail;refine(accept_any kStart _ (HR.out.low qe) (by decide)).mono ?_;rintro e w11 ⟨b11,⟨i11,rfl,R11⟩|⟨i11,rfl,R11⟩⟩
 · replace HS:=st_yes HS i11;replace HD:=hid (HD.out.up HM.out (w1:=w11) qe);replace HB:Hid (Bt g w w11):=hid qh;replace HR:=hid R11;clear b11 R11;clear i11;have lm:World.cell? w11 ⟨B,11,none⟩=some (V 11):=HD.out.cell rfl;go_wp2_with fail;go_region_law (first|(rw[if_pos (by rfl)];refine Lib.wp_append_run _ _ _ _ _ rfl _ _ rfl rfl _ _ hrun ?_)|(go_simp;go_at_call 156;refine(start_any _ (HR.out.low qe)).mono ?_;rintro e' wa h3;rcases h3.cases with⟨x3,u3,v3,r3,rfl,b3,V3,R3⟩|⟨u3,r3,rfl,b3⟩;rotate_left 1;(have HBB:=HB.out;exact⟨rfl,DO.no (st_no HS r3) (bt_lo qe)⟩);obtain⟨_,rfl,P3,rfl,o3⟩:=V3;obtain⟨v5,w5,hrun,⟨p5,n5,rfl⟩,k5,f5,D5,q5⟩:=HD.out.push gSta RSta.map sSta_ HM.out (w1:=wa) qe (i:=11) rfl (by decide) rfl (y:=x3) (ce:=cSta x3 P3) ⟨P3,rfl,o3⟩ (by have:=HL.out.ss.len;omega);have lm2:World.cell? wa ⟨B,11,none⟩=some (V 11):=(box_but HD.out.box (S:=fun k=>k≠g) qe zFQ_0).get rfl;have lm3:World.cell? (wa.alloc (.cells (cSta x3 P3) 122)) ⟨B,11,none⟩=some (V 11):=(box_but HD.out.box (S:=fun k=>k≠g) qe zFQ_0).get rfl;dsimp only [cSta] at hrun lm3 ⊢))
   all_goals
    replace HS:=st_ok HS r3;have HD':Hid (steB F0 lo B { x with ss:=x.ss++[x3] } (vPut 11 (.slice p5 (x.ss.length+1) n5) V) (w5.setCell ⟨B,11,none⟩ (.slice p5 (x.ss.length+1) n5))):=hid (D5.cast steF_ss rfl);have qF:Eqv (fun k=>k<lo/\¬k=g) w (w5.setCell ⟨B,11,none⟩ (.slice p5 _ n5)):=Eqv.call (S':=fun k=>k<lo) (bt_lo qh) q5 (fun k _ h=>h.1);have hrF:=R3.low (w2:=w5.setCell ⟨B,11,none⟩ (.slice p5 _ n5)) (q5.mono fun k _ hk=>by have hk':k<=g:=hk;omega);have HQ:=hid (And.intro qF hrF);clear D5 q5 R3 b3 hrun k5 f5 qF hrF;go_wp2_with fail
    (first|go_end0|refine bodyPost_ret (results_none rfl _ _ _) rfl ?_)
    exact DO.ok (st_end HS) HQ.out.1 ⟨_,HD'.out⟩ HQ.out.2
 replace HS:=st_not HS i11;replace HD:=hid (HD.out.up HM.out (w1:=w11) qe);replace HB:Hid (Bt g w w11):=hid qh;replace HR:=hid R11;clear b11 R11;clear i11;go_wp2_with fail;refine(accept_any kConserve _ (HR.out.low qe) (by decide)).mono ?_;rintro e w12 ⟨b12,⟨i12,rfl,R12⟩|⟨i12,rfl,R12⟩⟩
 · replace HS:=st_yes HS i12;replace HD:=hid (HD.out.up HM.out (w1:=w12) qe);replace HB:Hid (Bt g w w12):=hid qh;replace HR:=hid R12;clear b12 R12;clear i12;have lm:World.cell? w12 ⟨B,12,none⟩=some (V 12):=HD.out.cell rfl;go_wp2_with fail;go_region_law (first|(rw[if_pos (by rfl)];refine Lib.wp_append_run _ _ _ _ _ rfl _ _ rfl rfl _ _ hrun ?_)|(go_simp;go_at_call 157;refine(law_any _ (HR.out.low qe)).mono ?_;rintro e' wa h3;rcases h3.cases with⟨x3,u3,v3,r3,rfl,b3,V3,R3⟩|⟨u3,r3,rfl,b3⟩;rotate_left 1;(have HBB:=HB.out;exact⟨rfl,DO.no (st_no HS r3) (bt_lo qe)⟩);obtain⟨_,rfl,P3,rfl,o3⟩:=V3;obtain⟨v5,w5,hrun,⟨p5,n5,rfl⟩,k5,f5,D5,q5⟩:=HD.out.push gLw RLw.map sLw_ HM.out (w1:=wa) qe (i:=12) rfl (by decide) rfl (y:=x3) (ce:=cLw x3 P3) ⟨P3,rfl,o3⟩ (by have:=HL.out.la.len;omega);have lm2:World.cell? wa ⟨B,12,none⟩=some (V 12):=(box_but HD.out.box (S:=fun k=>k≠g) qe zFQ_0).get rfl;have lm3:World.cell? (wa.alloc (.cells (cLw x3 P3) 127)) ⟨B,12,none⟩=some (V 12):=(box_but HD.out.box (S:=fun k=>k≠g) qe zFQ_0).get rfl;dsimp only [cLw] at hrun lm3 ⊢))
   all_goals
    replace HS:=st_ok HS r3;have HD':Hid (steB F0 lo B { x with la:=x.la++[x3] } (vPut 12 (.slice p5 (x.la.length+1) n5) V) (w5.setCell ⟨B,12,none⟩ (.slice p5 (x.la.length+1) n5))):=hid (D5.cast steF_la rfl);have qF:Eqv (fun k=>k<lo/\¬k=g) w (w5.setCell ⟨B,12,none⟩ (.slice p5 _ n5)):=Eqv.call (S':=fun k=>k<lo) (bt_lo qh) q5 (fun k _ h=>h.1);have hrF:=R3.low (w2:=w5.setCell ⟨B,12,none⟩ (.slice p5 _ n5)) (q5.mono fun k _ hk=>by have hk':k<=g:=hk;omega);have HQ:=hid (And.intro qF hrF);clear D5 q5 R3 b3 hrun k5 f5 qF hrF;go_wp2_with fail
    (first|go_end0|refine bodyPost_ret (results_none rfl _ _ _) rfl ?_)
    exact DO.ok (st_end HS) HQ.out.1 ⟨_,HD'.out⟩ HQ.out.2
 replace HS:=st_not HS i12;replace HD:=hid (HD.out.up HM.out (w1:=w12) qe);replace HB:Hid (Bt g w w12):=hid qh;replace HR:=hid R12;clear b12 R12;clear i12;go_wp2_with fail;refine(wrong_any _ (HR.out.low qe)).mono ?_;rintro e w99 ⟨rfl,b99⟩;have HBB:=HB.out;go_wp2_with fail;exact⟨rfl,DO.no (st_fl HS) (bt_lo (by have q:Bt g _ w99:=Eqv.of b99;exact qe))⟩
end
end Go.Proofs.YtbgodajefaahdaaGreatDoor.Ps
namespace Go.Proofs.YtbgodajefaahdaaGreatDoor.Ps
open Go.Proofs.YtbgodajefaahdaaGreatDoor.Ps.P (rt bd len)
open Go.RowKit
open Go.Proofs.YtbgodajefaahdaaGreatDoor.Lx (Tk)
open Go.Proofs.YtbgodajefaahdaaGreatDoor.Md
set_option maxHeartbeats 2000000
def zSte (z:Nat):(Nat->Prop)->World->Prop:=fun G w=>G z/\Box w z 53 #[.string ⟨#[]⟩,.slice none 0 0,.slice none 0 0,.slice none 0 0,.slice none 0 0,.slice none 0 0,.slice none 0 0,.slice none 0 0,.slice none 0 0,.slice none 0 0,.slice none 0 0,.slice none 0 0,.slice none 0 0]
theorem zSte_mv (z:Nat):Mv (zSte z):=mv_box
structure SiAt (L:Lk) (g:Nat) (r:R Ste) (K:Ste->P Ste) (B:Nat) (w:World) (k:Nat) (wr:World):Prop where
 ex:∃x V d u,run (bd (siL k x) K) u=r/\u.length<k/\sSte x d/\d+u.length<=30001/\steB (zSte w.heap.size) w.heap.size B x V wr/\Rd L g u wr
 bt:Bt g w wr
theorem own_sl {α:Type} {T:TypeId} {k:Nat} {R:Rec α} {G:Nat->Prop} {w:World} {v:Value} {l:List α} (hm:Mono R) (hs:Sized k R) (h:OwnF T k R G w v l) (hn:l.length<=1000000):∃p m c,v=.slice p m c/\Rw k R G w l p m:=by
 obtain⟨p,c,h1,h2⟩:=h.rw hm hs hn;exact⟨p,_,c,h1,h2⟩
theorem ste_done {z lo B d:Nat} {x:Ste} {V:Nat->Value} {w:World} (h:steB (zSte z) lo B x V w) (hd:sSte x d) (hdl:d<=30001):∃P,Box w B 53 (cSte x P)/\Box w z 53 #[.string ⟨#[]⟩,.slice none 0 0,.slice none 0 0,.slice none 0 0,.slice none 0 0,.slice none 0 0,.slice none 0 0,.slice none 0 0,.slice none 0 0,.slice none 0 0,.slice none 0 0,.slice none 0 0,.slice none 0 0]/\OSte (fun k=>lo<=k/\¬k=z/\¬k=B) w x P:=by
 have hm:=steF_mv (zSte_mv z) x V;have h0:∀G,steF (zSte z) x V 0 G w->G z:=fun G h=>h.1;have Z0:=h.part hm 0;obtain⟨p1,m1,c1,e1,r1⟩:=own_sl RVal.map sVal_ (h.off hm h0 (j:=1) (by decide)) (by have:=hd.va.len;omega);obtain⟨p2,m2,c2,e2,r2⟩:=own_sl RRes.map sRes_ (h.off hm h0 (j:=2) (by decide)) (by have:=hd.rs.len;omega);obtain⟨p3,m3,c3,e3,r3⟩:=own_sl RSto.map sSto_ (h.off hm h0 (j:=3) (by decide)) (by have:=hd.st.len;omega);obtain⟨p4,m4,c4,e4,r4⟩:=own_sl RBlt.map sBlt_ (h.off hm h0 (j:=4) (by decide)) (by have:=hd.be.len;omega);obtain⟨p5,m5,c5,e5,r5⟩:=own_sl RTxt.map sTxt_ (h.off hm h0 (j:=5) (by decide)) (by have:=hd.qu.len;omega);obtain⟨p6,m6,c6,e6,r6⟩:=own_sl RTxt.map sTxt_ (h.off hm h0 (j:=6) (by decide)) (by have:=hd.sm.len;omega);obtain⟨p7,m7,c7,e7,r7⟩:=own_sl RTxt.map sTxt_ (h.off hm h0 (j:=7) (by decide)) (by have:=hd.ta.len;omega);obtain⟨p8,m8,c8,e8,r8⟩:=own_sl RTxt.map sTxt_ (h.off hm h0 (j:=8) (by decide)) (by have:=hd.le.len;omega);obtain⟨p9,m9,c9,e9,r9⟩:=own_sl RTxt.map sTxt_ (h.off hm h0 (j:=9) (by decide)) (by have:=hd.co.len;omega);obtain⟨p10,m10,c10,e10,r10⟩:=own_sl RRou.map sRou_ (h.off hm h0 (j:=10) (by decide)) (by have:=hd.ro.len;omega);obtain⟨p11,m11,c11,e11,r11⟩:=own_sl RSta.map sSta_ (h.off hm h0 (j:=11) (by decide)) (by have:=hd.ss.len;omega);obtain⟨p12,m12,c12,e12,r12⟩:=own_sl RLw.map sLw_ (h.off hm h0 (j:=12) (by decide)) (by have:=hd.la.len;omega);have hb:=h.box;rw[e1,e2,e3,e4,e5,e6,e7,e8,e9,e10,e11,e12] at hb;exact⟨⟨p1,m1,c1,p2,m2,c2,p3,m3,c3,p4,m4,c4,p5,m5,c5,p6,m6,c6,p7,m7,c7,p8,m8,c8,p9,m9,c9,p10,m10,c10,p11,m11,c11,p12,m12,c12⟩,hb,Z0.2,⟨r1,r2,r3,r4,r5,r6,r7,r8,r9,r10,r11,r12⟩⟩
section
variable {L:Lk} {g:Nat} {t:List Tk}
set_option maxRecDepth 100000 in
theorem site_any (w:World) (hR:Rd L g t w):Calls Tryz.prog 64 #[.pointer (some ⟨g,0,none⟩)] w (PO L g (VR RSte) (run sit t) w):=by
 have HN:Hid (∀x v,run nmL t=.ok x v->x.size<=20000/\v.length<=30000):=hid fun x v h=>by
  obtain⟨h1,d,h2,h3⟩:=eat_nmL.out hR.gd h;exact⟨h3,by have:=hR.small;omega⟩
 obtain⟨r,hr⟩:∃r,run sit t=r:=⟨_,rfl⟩
 rw[hr];have HS:=hid hr;have hg:=hR.blk;have HR:=hid hR;have HB:Hid (Bt g w w):=hid (Eqv.refl _ _);clear hR hr;have Z:=hid (Box.new (w:=w) (t:=53) (c:=#[.string ⟨#[]⟩,.slice none 0 0,.slice none 0 0,.slice none 0 0,.slice none 0 0,.slice none 0 0,.slice none 0 0,.slice none 0 0,.slice none 0 0,.slice none 0 0,.slice none 0 0,.slice none 0 0,.slice none 0 0]));go_enter Tryz.func64,Tryz.ntmps64;go_wp2_with fail;refine(nameLine_any _ (HR.out.low qe)).mono ?_;rintro e w1 h1;rcases h1.cases with⟨x1,u1,v1,r1,rfl,b1,V1,R1⟩|⟨u1,r1,rfl,b1⟩
 rotate_left 1
 · have HBB:=HB.out;go_wp2_with fail;exact⟨rfl,PO.no (st_no HS (by assumption)) qe⟩
 replace HS:=st_ok HS r1;have HN1:=hid (HN.out _ _ r1);replace Z:=hid (box_at (w2:=w1) Z.out qe);replace HB:Hid (Bt g w w1):=hid qh;replace HR:=hid R1;clear b1 R1;clear r1 h1;obtain rfl:=V1;have hz1:=Z.out.lt;have hd1:Hid (steB (zSte w.heap.size) w.heap.size w1.heap.size (sit0 x1) (fun _=>.slice none 0 0) (w1.alloc (.cells #[.string x1,.slice none 0 0,.slice none 0 0,.slice none 0 0,.slice none 0 0,.slice none 0 0,.slice none 0 0,.slice none 0 0,.slice none 0 0,.slice none 0 0,.slice none 0 0,.slice none 0 0,.slice none 0 0] 53))):=hid (Bld.new Box.new (Nat.le_of_lt hz1) ⟨⟨Nat.le_refl _,by omega⟩,box_at Z.out qe⟩ mv_box fun j hj G=>(match j,hj with|1,_=>OwnF.nil|2,_=>OwnF.nil|3,_=>OwnF.nil|4,_=>OwnF.nil|5,_=>OwnF.nil|6,_=>OwnF.nil|7,_=>OwnF.nil|8,_=>OwnF.nil|9,_=>OwnF.nil|10,_=>OwnF.nil|11,_=>OwnF.nil|12,_=>OwnF.nil|n+13,_=>trivial));obtain⟨K,hK⟩:∃K:Ste->P Ste,(fun x=>bd eol fun _=>rt x)=K:=⟨_,rfl⟩
 have HK:=hid hK;replace HS:Hid (run (bd (siL FU (sit0 x1)) K) u1=r):=hid (by rw[← hK];exact HS.out);clear hK Z HN;go_wp2_with (refine wpList_newT 53 13 bSte.2 rfl _ _ rfl _ #[.string x1,.slice none 0 0,.slice none 0 0,.slice none 0 0,.slice none 0 0,.slice none 0 0,.slice none 0 0,.slice none 0 0,.slice none 0 0,.slice none 0 0,.slice none 0 0,.slice none 0 0,.slice none 0 0] rfl rfl rfl rfl (by simp[Value.oneCell']) ?_)
 go_wp2_with fail;have HR1:Hid (Rd L g u1 (w1.alloc (.cells #[.string x1,.slice none 0 0,.slice none 0 0,.slice none 0 0,.slice none 0 0,.slice none 0 0,.slice none 0 0,.slice none 0 0,.slice none 0 0,.slice none 0 0,.slice none 0 0,.slice none 0 0,.slice none 0 0] 53))):=hid (HR.out.low qe);have HB1:Hid (Bt g w (w1.alloc (.cells #[.string x1,.slice none 0 0,.slice none 0 0,.slice none 0 0,.slice none 0 0,.slice none 0 0,.slice none 0 0,.slice none 0 0,.slice none 0 0,.slice none 0 0,.slice none 0 0,.slice none 0 0,.slice none 0 0] 53))):=hid qh;clear HR HB;dsimp only [Act.put];go_loopg [] FU (SiAt L g r K w1.heap.size w)
 case atStart=>exact⟨⟨sit0 x1,_,0,u1,HS.out,by have:=HN1.out;unfold FU;omega,sit0_is HN1.out.1,by have:=HN1.out;omega,hd1.out,HR1.out⟩,HB1.out⟩
 case round=>
  obtain⟨⟨x,V,d,u,hs,hk,hx,hl,hd,hR⟩,hb⟩:=hrel;clear HS HB1 HR1 HN1 hd1;obtain⟨k,rfl⟩:∃k,gk=k+1:=⟨gk-1,by omega⟩
  rw[siL] at hs;have HM:=hid (steF_mv (zSte_mv w.heap.size) x V);have HL:=hid hl;have HKK:=hid hk;have HX:=hid hx;have HLL:Hid (∀y v,run (dcl x) u=.ok y v->∃c,v.length+c=u.length/\1<=c/\sSte y (d+c)):=hid fun y v h=>by
   obtain⟨h1,c,h2,h3⟩:=(eat_dcl hx).out hR.gd h;have:=(dn_dcl x).out hR.gd h;exact⟨c,h2,by omega,h3⟩
  have HD:=hid hd;have HR:=hid hR;have HB:=hid hb;have HS:=hid hs;have hbl:=hd.box.lt;clear hl hk hx hd hR hb hs;go_wp2_with fail;refine(accept_any kEnd _ (HR.out.low qe) (by decide)).mono ?_;rintro e w8 ⟨b8,⟨i8,rfl,R8⟩|⟨i8,rfl,R8⟩⟩
  · replace HS:=st_br (st_by HS i8);replace HS:Hid (run (bd eol fun _=>rt x) u.tail=r):=hid (by have h:=HS.out;rw[← HK.out] at h;exact h);replace HD:=hid (HD.out.up HM.out (w1:=w8) qe);replace HB:Hid (Bt g w w8):=hid qh;replace HR:=hid R8;clear b8 R8;clear i8 HLL;have hb8:=HD.out.box.lt;go_wp2_with fail;refine(endLine_any _ (HR.out.low qe)).mono ?_;rintro e w9 h9;rcases h9.cases with⟨x9,u9,v9,r9,rfl,b9,V9,R9⟩|⟨u9,r9,rfl,b9⟩
    rotate_left 1
    · have HBB:=HB.out;go_wp2_with fail;exact⟨rfl,PO.no (st_no HS (by assumption)) qe⟩
    replace HS:=st_ok HS r9;replace HD:=hid (HD.out.up HM.out (w1:=w9) qe);replace HB:Hid (Bt g w w9):=hid qh;replace HR:=hid R9;clear b9 R9;clear r9 h9;obtain rfl:=V9;obtain⟨P,hy,hz,ho⟩:=ste_done HD.out HX.out (by have:=HL.out;omega);have Y:=hid hy;have Z:=hid hz;have qW:∀W,Eqv (fun k=>w.heap.size<=k/\¬k=w.heap.size/\¬k=w1.heap.size) w9 W->RSte (fun b=>w.heap.size<=b) W x (cSte x P):=fun W q=>⟨P,rfl,ho.map q.size fun b hb hlt=>⟨hb.1,q.block b hlt hb⟩⟩
    clear hy hz ho HD HM HX;obtain⟨W,hP⟩:=put_box (c:=cSte x P) Z.out bSte (cSte_one _ _) rfl;have vr4:=hP.bt;have vr5:=hid hP.box;have vr6:=hP.size;go_wp2_with (first|(refine wpList_load_row rfl 53 _ rfl _ rfl 53 _ (0,0) _ Y.out Tryz.underlying53 rfl (by kernel_rfl) ?_)|(refine wpList_put rfl 53 _ _ rfl w.heap.size _ rfl rfl hP ?_))
    have HBB:=HB.out;refine bodyPost_ret (v:=.agg (cSte x P)) ?_ rfl (PO.ok (st_end HS) qe ⟨_,rfl,qW _ qe⟩ (HR.out.low qe));exact results_cell_row rfl _ _ w.heap.size 53 _ (0,0) _ rfl vr5.out Tryz.underlying53 rfl (by kernel_rfl)
  · replace HS:=st_bb (st_bn HS i8);replace HD:=hid (HD.out.up HM.out (w1:=w8) qe);replace HB:Hid (Bt g w w8):=hid qh;replace HR:=hid R8;clear b8 R8;clear i8;have hb8:=HD.out.box.lt;go_wp2_with fail;refine(declaration_any (zSte w.heap.size) (zSte_mv _) w.heap.size w1.heap.size x V d _ (HR.out.low qe) hg HX.out (by have:=HL.out;omega) (HD.out.up HM.out qe)).mono ?_;rintro e w9 h9;rcases h9.cases with⟨y9,u9,r9,rfl,b9,⟨V9,D9⟩,R9⟩|⟨u9,r9,rfl,b9⟩
    rotate_left 1
    · have HBB:=HB.out;go_wp2_with fail;exact⟨rfl,PO.no (st_no HS r9) (Eqv.call (S':=fun k=>k<w.heap.size/\¬k=g) qe b9 (fun k hk hs=>⟨hk,hs⟩))⟩
    have HT9:=hid (HLL.out _ _ r9);replace HS:=st_ok HS r9;replace HB:Hid (Bt g w w9):=hid (by have HBB:=HB.out;exact Eqv.call (S':=fun k=>k<w.heap.size/\¬k=g) HBB b9 (fun k hk hs=>⟨hk,hs⟩));replace HD:=hid D9;replace HR:=hid R9;clear D9 R9 b9 r9 h9 HM HX HLL;go_wp2_with fail;go_roundg k
    case measure=>omega
    case rel=>
     obtain⟨c,h1,h2,h3⟩:=HT9.out;exact⟨⟨y9,V9,d+c,u9,HS.out,by have:=HKK.out;omega,h3,by have:=HL.out;omega,HD.out,HR.out⟩,HB.out⟩
end
end Go.Proofs.YtbgodajefaahdaaGreatDoor.Ps
namespace Go.Proofs.YtbgodajefaahdaaGreatDoor.Ps
open Go.Proofs.YtbgodajefaahdaaGreatDoor.Ps.P (len)
open Go.RowKit
open Go.Proofs.YtbgodajefaahdaaGreatDoor.Lx (Tk)
open Go.Proofs.YtbgodajefaahdaaGreatDoor.Md
set_option maxHeartbeats 16000000
def mdlF (F0:(Nat->Prop)->World->Prop) (x:Mdl) (V:Nat->Value):Nat->(Nat->Prop)->World->Prop
 | 0=>F0
 | 1=>fun G w=>OwnF 93 3 RVal G w (V 1) x.pa
 | 2=>fun G w=>OwnF 53 13 RSte G w (V 2) x.si
 | 3=>fun G w=>OwnF 73 3 RLnk G w (V 3) x.li
 | _+4=>fun _ _=>True
theorem mdlF_mv {F0:(Nat->Prop)->World->Prop} (h0:Mv F0) (x:Mdl) (V:Nat->Value):∀j,Mv (mdlF F0 x V j)
 | 0=>h0
 | 1=>mv_own RVal.map
 | 2=>mv_own RSte.map
 | 3=>mv_own RLnk.map
 | _+4=>mv_true
abbrev mdlB (F0:(Nat->Prop)->World->Prop) (lo B:Nat) (x:Mdl) (V:Nat->Value) (W:World):Prop:=Bld lo B 27 #[.string x.nm,V 1,V 2,V 3] (mdlF F0 x V) W
theorem mdlF_pa {F0:(Nat->Prop)->World->Prop} {x:Mdl} {V:Nat->Value} {v:Value} {l:List Val}:∀j G W,(if j=1 then fun G w=>OwnF 93 3 RVal G w v l else mdlF F0 x V j) G W->mdlF F0 { x with pa:=l } (vPut 1 v V) j G W
 | 0,_,_,h=>h
 | 1,_,_,h=>h
 | 2,_,_,h=>h
 | 3,_,_,h=>h
 | _+4,_,_,h=>trivial
theorem mdlF_si {F0:(Nat->Prop)->World->Prop} {x:Mdl} {V:Nat->Value} {v:Value} {l:List Ste}:∀j G W,(if j=2 then fun G w=>OwnF 53 13 RSte G w v l else mdlF F0 x V j) G W->mdlF F0 { x with si:=l } (vPut 2 v V) j G W
 | 0,_,_,h=>h
 | 1,_,_,h=>h
 | 2,_,_,h=>h
 | 3,_,_,h=>h
 | _+4,_,_,h=>trivial
theorem mdlF_li {F0:(Nat->Prop)->World->Prop} {x:Mdl} {V:Nat->Value} {v:Value} {l:List Lnk}:∀j G W,(if j=3 then fun G w=>OwnF 73 3 RLnk G w v l else mdlF F0 x V j) G W->mdlF F0 { x with li:=l } (vPut 3 v V) j G W
 | 0,_,_,h=>h
 | 1,_,_,h=>h
 | 2,_,_,h=>h
 | 3,_,_,h=>h
 | _+4,_,_,h=>trivial
section
variable {L:Lk} {g:Nat} {t:List Tk}
set_option maxRecDepth 100000 in
theorem part_any (F0:(Nat->Prop)->World->Prop) (h0:Mv F0) (lo B:Nat) (x:Mdl) (V:Nat->Value) (d:Nat) (w:World) (hR:Rd L g t w) (hlo:g<lo) (hd:sMdl x d) (hdl:d<=30001) (hD:mdlB F0 lo B x V w):Calls Tryz.prog 32 #[.pointer (some ⟨g,0,none⟩),.pointer (some ⟨B,0,none⟩)] w (DO L g lo (fun y W=>∃V,mdlB F0 lo B y V W) (run (prt x) t) w):=by
 obtain⟨r,hr⟩:∃r,run (prt x) t=r:=⟨_,rfl⟩
 rw[hr];have HS:=hid hr;have hg:=hR.blk;have HR:=hid hR;have HB:Hid (Bt g w w):=hid (Eqv.refl _ _);clear hR hr;have HM:=hid (mdlF_mv h0 x V);have HD:=hid hD;have HL:=hid hd;have hblo:=hD.lob;have hblt:=hD.box.lt;clear hD hd;go_enter Tryz.func32,Tryz.ntmps32;go_wp2_with fail;refine(accept_any kParam _ (HR.out.low qe) (by decide)).mono ?_;rintro e w1 ⟨b1,⟨i1,rfl,R1⟩|⟨i1,rfl,R1⟩⟩
 · replace HS:=st_yes HS i1;replace HD:=hid (HD.out.up HM.out (w1:=w1) qe);replace HB:Hid (Bt g w w1):=hid qh;replace HR:=hid R1;clear b1 R1;clear i1;have lm:World.cell? w1 ⟨B,1,none⟩=some (V 1):=HD.out.cell rfl;go_wp2_with fail;go_region_law (first|(rw[if_pos (by rfl)];refine Lib.wp_append_run _ _ _ _ _ rfl _ _ rfl rfl _ _ hrun ?_)|(go_simp;go_at_call 62;refine(value_any _ (HR.out.low qe)).mono ?_;rintro e' wa h3;rcases h3.cases with⟨x3,u3,v3,r3,rfl,b3,V3,R3⟩|⟨u3,r3,rfl,b3⟩;rotate_left 1;(have HBB:=HB.out;exact⟨rfl,DO.no (st_no HS r3) (bt_lo qe)⟩);obtain rfl:=V3;obtain⟨v5,w5,hrun,⟨p5,n5,rfl⟩,k5,f5,D5,q5⟩:=HD.out.push gVal RVal.map sVal_ HM.out (w1:=wa) qe (i:=1) rfl (by decide) rfl (y:=x3) (ce:=cVal x3) rfl (by have:=HL.out.pa.len;omega);have lm2:World.cell? wa ⟨B,1,none⟩=some (V 1):=(box_but HD.out.box (S:=fun k=>k≠g) qe (by omega)).get rfl;have lm3:World.cell? (wa.alloc (.cells (cVal x3) 93)) ⟨B,1,none⟩=some (V 1):=(box_but HD.out.box (S:=fun k=>k≠g) qe (by omega)).get rfl;dsimp only [cVal] at hrun lm3 ⊢))
   all_goals
    replace HS:=st_ok HS r3;have HD':Hid (mdlB F0 lo B { x with pa:=x.pa++[x3] } (vPut 1 (.slice p5 (x.pa.length+1) n5) V) (w5.setCell ⟨B,1,none⟩ (.slice p5 (x.pa.length+1) n5))):=hid (D5.cast mdlF_pa rfl);have qF:Eqv (fun k=>k<lo/\¬k=g) w (w5.setCell ⟨B,1,none⟩ (.slice p5 _ n5)):=Eqv.call (S':=fun k=>k<lo) (bt_lo qh) q5 (fun k _ h=>h.1);have hrF:=R3.low (w2:=w5.setCell ⟨B,1,none⟩ (.slice p5 _ n5)) (q5.mono fun k _ hk=>by have hk':k<=g:=hk;omega);have HQ:=hid (And.intro qF hrF);clear D5 q5 R3 b3 hrun k5 f5 qF hrF;go_wp2_with fail
    (first|go_end0|refine bodyPost_ret (results_none rfl _ _ _) rfl ?_)
    exact DO.ok (st_end HS) HQ.out.1 ⟨_,HD'.out⟩ HQ.out.2
 replace HS:=st_not HS i1;replace HD:=hid (HD.out.up HM.out (w1:=w1) qe);replace HB:Hid (Bt g w w1):=hid qh;replace HR:=hid R1;clear b1 R1;clear i1;go_wp2_with fail;refine(accept_any kLink _ (HR.out.low qe) (by decide)).mono ?_;rintro e w3 ⟨b3,⟨i3,rfl,R3⟩|⟨i3,rfl,R3⟩⟩
 · replace HS:=st_bb (st_yes HS i3);replace HD:=hid (HD.out.up HM.out (w1:=w3) qe);replace HB:Hid (Bt g w w3):=hid qh;replace HR:=hid R3;clear b3 R3;clear i3;have lm:World.cell? w3 ⟨B,3,none⟩=some (V 3):=HD.out.cell rfl;go_wp2_with fail;go_region_law (first
    | (rw[if_pos (by rfl)];refine Lib.wp_append_run _ _ _ _ _ rfl _ _ rfl rfl _ _ hrun ?_)
    | (go_simp;go_at_call 63;refine(number_any _ (R5.low qe)).mono ?_;rintro e' wc h6;rcases h6.cases with⟨x6,u6,v6,r6,rfl,b6,V6,R6⟩|⟨u6,r6,rfl,b6⟩;rotate_left 1;(have HBB:=HB.out;exact⟨rfl,DO.no (st_no S5 r6) (bt_lo qe)⟩);obtain⟨rfl,-,-⟩:=V6;have S6:=st_bb (st_ok S5 r6);obtain⟨v7,w7,hrun,⟨p7,n7,rfl⟩,k7,f7,D7,q7⟩:=HD.out.push gLnk RLnk.map sLnk_ HM.out (w1:=wc) qe (i:=3) rfl (by decide) rfl (y:=(⟨x4,x5,x6⟩:Lnk)) (ce:=cLnk ⟨x4,x5,x6⟩) rfl (by have:=HL.out.li.len;omega);have lc:World.cell? wc ⟨B,3,none⟩=some (V 3):=(box_but HD.out.box (S:=fun k=>k≠g) qe (by omega)).get rfl;have ld:World.cell? (wc.alloc (.cells (cLnk ⟨x4,x5,x6⟩) 73)) ⟨B,3,none⟩=some (V 3):=(box_but HD.out.box (S:=fun k=>k≠g) qe (by omega)).get rfl;dsimp only [cLnk] at hrun ld ⊢)
    | (go_simp;go_at_call 59;refine(name_any _ (R4.low qe)).mono ?_;rintro e' wb h5;rcases h5.cases with⟨x5,u5,v5,r5,rfl,b5,V5,R5⟩|⟨u5,r5,rfl,b5⟩;rotate_left 1;(have HBB:=HB.out;exact⟨rfl,DO.no (st_no S4 r5) (bt_lo qe)⟩);obtain rfl:=V5;have S5:=st_bb (st_ok S4 r5);have lb:World.cell? wb ⟨B,3,none⟩=some (V 3):=(box_but HD.out.box (S:=fun k=>k≠g) qe (by omega)).get rfl)
    | (go_simp;go_at_call 59;refine(name_any _ (HR.out.low qe)).mono ?_;rintro e' wa h4;rcases h4.cases with⟨x4,u4,v4,r4,rfl,b4,V4,R4⟩|⟨u4,r4,rfl,b4⟩;rotate_left 1;(have HBB:=HB.out;exact⟨rfl,DO.no (st_no HS r4) (bt_lo qe)⟩);obtain rfl:=V4;have S4:=st_bb (st_ok HS r4);have la:World.cell? wa ⟨B,3,none⟩=some (V 3):=(box_but HD.out.box (S:=fun k=>k≠g) qe (by omega)).get rfl))
   all_goals
    have HD':Hid (mdlB F0 lo B { x with li:=x.li++[(⟨x4,x5,x6⟩:Lnk)] } (vPut 3 (.slice p7 (x.li.length+1) n7) V) (w7.setCell ⟨B,3,none⟩ (.slice p7 (x.li.length+1) n7))):=hid (D7.cast mdlF_li rfl);have qF:Eqv (fun k=>k<lo/\¬k=g) w (w7.setCell ⟨B,3,none⟩ (.slice p7 _ n7)):=Eqv.call (S':=fun k=>k<lo) (bt_lo (w:=wc) qh) q7 (fun k _ h=>h.1);have hrF:=hid (R6.low (w2:=w7.setCell ⟨B,3,none⟩ (.slice p7 _ n7)) (q7.mono fun k _ hk=>by have hk':k<=g:=hk;omega));have HQ:=hid qF;have HM':=hid (mdlF_mv h0 { x with li:=x.li++[(⟨x4,x5,x6⟩:Lnk)] } (vPut 3 (.slice p7 (x.li.length+1) n7) V));clear D7 q7 R4 R5 R6 b4 b5 b6 hrun k7 f7 qF HR HB HD r4 r5 r6 h4 h5 h6 S4 S5 HS;go_wp2_with fail;refine(endLine_any _ (hrF.out.low qe)).mono ?_;rintro e w9 h9;rcases h9.cases with⟨x9,u9,v9,r9,rfl,b9,V9,R9⟩|⟨u9,r9,rfl,b9⟩
    rotate_left 1
    · have HQQ:=HQ.out;go_wp2_with fail;exact⟨rfl,DO.no (st_no S6 r9) qe⟩
    obtain rfl:=V9;have HS9:=st_br (st_ok S6 r9);have HE:=hid (And.intro (HD'.out.up HM'.out (w1:=w9) qe) (And.intro R9 (show Eqv (fun k=>k<lo/\¬k=g) w w9 by have HQQ:=HQ.out;exact qe)));clear hrF HQ R9 b9 HD' r9 h9;go_wp2_with fail
    (first|go_end0|refine bodyPost_ret (results_none rfl _ _ _) rfl ?_)
    exact DO.ok (st_end HS9) HE.out.2.2 ⟨_,HE.out.1⟩ HE.out.2.1
 replace HS:=st_not HS i3;replace HD:=hid (HD.out.up HM.out (w1:=w3) qe);replace HB:Hid (Bt g w w3):=hid qh;replace HR:=hid R3;clear b3 R3;clear i3;go_wp2_with fail;refine(accept_any kSite _ (HR.out.low qe) (by decide)).mono ?_;rintro e w2 ⟨b2,⟨i2,rfl,R2⟩|⟨i2,rfl,R2⟩⟩
 · replace HS:=st_yes HS i2;replace HD:=hid (HD.out.up HM.out (w1:=w2) qe);replace HB:Hid (Bt g w w2):=hid qh;replace HR:=hid R2;clear b2 R2;clear i2;have lm:World.cell? w2 ⟨B,2,none⟩=some (V 2):=HD.out.cell rfl;go_wp2_with fail;go_region_law (first|(rw[if_pos (by rfl)];refine Lib.wp_append_run _ _ _ _ _ rfl _ _ rfl rfl _ _ hrun ?_)|(go_simp;go_at_call 64;refine(site_any _ (HR.out.low qe)).mono ?_;rintro e' wa h3;rcases h3.cases with⟨x3,u3,v3,r3,rfl,b3,V3,R3⟩|⟨u3,r3,rfl,b3⟩;rotate_left 1;(have HBB:=HB.out;exact⟨rfl,DO.no (st_no HS r3) (bt_lo qe)⟩);obtain⟨_,rfl,P3,rfl,o3⟩:=V3;obtain⟨v5,w5,hrun,⟨p5,n5,rfl⟩,k5,f5,D5,q5⟩:=HD.out.push kSte RSte.map sSte_ HM.out (w1:=wa) qe (i:=2) rfl (by decide) rfl (y:=x3) (ce:=cSte x3 P3) ⟨P3,rfl,o3⟩ (by have:=HL.out.si.len;omega);have lm2:World.cell? wa ⟨B,2,none⟩=some (V 2):=(box_but HD.out.box (S:=fun k=>k≠g) qe (by omega)).get rfl;have lm3:World.cell? (wa.alloc (.cells (cSte x3 P3) 53)) ⟨B,2,none⟩=some (V 2):=(box_but HD.out.box (S:=fun k=>k≠g) qe (by omega)).get rfl;dsimp only [cSte] at hrun lm3 ⊢))
   all_goals
    replace HS:=st_ok HS r3;have HD':Hid (mdlB F0 lo B { x with si:=x.si++[x3] } (vPut 2 (.slice p5 (x.si.length+1) n5) V) (w5.setCell ⟨B,2,none⟩ (.slice p5 (x.si.length+1) n5))):=hid (D5.cast mdlF_si rfl);have qF:Eqv (fun k=>k<lo/\¬k=g) w (w5.setCell ⟨B,2,none⟩ (.slice p5 _ n5)):=Eqv.call (S':=fun k=>k<lo) (bt_lo qh) q5 (fun k _ h=>h.1);have hrF:=R3.low (w2:=w5.setCell ⟨B,2,none⟩ (.slice p5 _ n5)) (q5.mono fun k _ hk=>by have hk':k<=g:=hk;omega);have HQ:=hid (And.intro qF hrF);clear D5 q5 R3 b3 hrun k5 f5 qF hrF;go_wp2_with fail
    (first|go_end0|refine bodyPost_ret (results_none rfl _ _ _) rfl ?_)
    exact DO.ok (st_end HS) HQ.out.1 ⟨_,HD'.out⟩ HQ.out.2
 replace HS:=st_not HS i2;replace HD:=hid (HD.out.up HM.out (w1:=w2) qe);replace HB:Hid (Bt g w w2):=hid qh;replace HR:=hid R2;clear b2 R2;clear i2;go_wp2_with fail;refine(wrong_any _ (HR.out.low qe)).mono ?_;rintro e w99 ⟨rfl,b99⟩;have HBB:=HB.out;go_wp2_with fail;exact⟨rfl,DO.no (st_fl HS) (bt_lo (by have q:Bt g _ w99:=Eqv.of b99;exact qe))⟩
end
end Go.Proofs.YtbgodajefaahdaaGreatDoor.Ps
namespace Go.Proofs.YtbgodajefaahdaaGreatDoor.Ps
open Go.Proofs.YtbgodajefaahdaaGreatDoor.Ps.P (rt bd len)
open Go.RowKit
open Go.Proofs.YtbgodajefaahdaaGreatDoor.Lx (Tk)
open Go.Proofs.YtbgodajefaahdaaGreatDoor.Md
set_option maxHeartbeats 2000000
def zMdl (z:Nat):(Nat->Prop)->World->Prop:=fun G w=>G z/\Box w z 27 #[.string ⟨#[]⟩,.slice none 0 0,.slice none 0 0,.slice none 0 0]
theorem zMdl_mv (z:Nat):Mv (zMdl z):=mv_box
structure MdAt (L:Lk) (g:Nat) (r:R Mdl) (K:Mdl->P Mdl) (B:Nat) (w:World) (k:Nat) (wr:World):Prop where
 ex:∃x V d u,run (bd (mdL k x) K) u=r/\u.length<k/\sMdl x d/\d+u.length<=30001/\mdlB (zMdl w.heap.size) w.heap.size B x V wr/\Rd L g u wr
 bt:Bt g w wr
theorem mdl_done {z lo B d:Nat} {x:Mdl} {V:Nat->Value} {w:World} (h:mdlB (zMdl z) lo B x V w) (hd:sMdl x d) (hdl:d<=30001):∃P,Box w B 27 (cMdl x P)/\Box w z 27 #[.string ⟨#[]⟩,.slice none 0 0,.slice none 0 0,.slice none 0 0]/\OMdl (fun k=>lo<=k/\¬k=z/\¬k=B) w x P:=by
 have hm:=mdlF_mv (zMdl_mv z) x V;have h0:∀G,mdlF (zMdl z) x V 0 G w->G z:=fun G h=>h.1;have Z0:=h.part hm 0;obtain⟨p1,m1,c1,e1,r1⟩:=own_sl RVal.map sVal_ (h.off hm h0 (j:=1) (by decide)) (by have:=hd.pa.len;omega);obtain⟨p2,m2,c2,e2,r2⟩:=own_sl RSte.map sSte_ (h.off hm h0 (j:=2) (by decide)) (by have:=hd.si.len;omega);obtain⟨p3,m3,c3,e3,r3⟩:=own_sl RLnk.map sLnk_ (h.off hm h0 (j:=3) (by decide)) (by have:=hd.li.len;omega);have hb:=h.box;rw[e1,e2,e3] at hb;exact⟨⟨p1,m1,c1,p2,m2,c2,p3,m3,c3⟩,hb,Z0.2,⟨r1,r2,r3⟩⟩
section
variable {L:Lk} {g:Nat} {t:List Tk}
set_option maxRecDepth 100000 in
theorem model_any (w:World) (hR:Rd L g t w):Calls Tryz.prog 14 #[.pointer (some ⟨g,0,none⟩)] w (PE g (VR RMdl) (run mdl t) w):=by
 have HN:Hid (∀x v,run (nmB kModel) t=.ok x v->x.size<=20000/\v.length<=30000):=hid fun x v h=>by
  obtain⟨h1,d,h2,h3⟩:=(eat_nmB (s:=kModel) (by decide)).out hR.gd h;exact⟨h3.2,by have:=hR.small;omega⟩
 obtain⟨r,hr⟩:∃r,run mdl t=r:=⟨_,rfl⟩
 rw[hr];have HS:=hid hr;have hg:=hR.blk;have HR:=hid hR;have HB:Hid (Bt g w w):=hid (Eqv.refl _ _);clear hR hr;have Z:=hid (Box.new (w:=w) (t:=27) (c:=#[.string ⟨#[]⟩,.slice none 0 0,.slice none 0 0,.slice none 0 0]));go_enter Tryz.func14,Tryz.ntmps14;go_wp2_with fail;refine(nameBehind_any _ _ (HR.out.low qe) (by decide)).mono ?_;rintro e w1 h1;rcases h1.cases with⟨x1,u1,v1,r1,rfl,b1,V1,R1⟩|⟨u1,r1,rfl,b1⟩
 rotate_left 1
 · have HBB:=HB.out;go_wp2_with fail;exact⟨rfl,PE.no (st_no HS r1) qe⟩
 have HN1:=hid (HN.out _ _ r1);replace HS:=st_ok HS r1;replace Z:=hid (box_at (w2:=w1) Z.out qe);replace HB:Hid (Bt g w w1):=hid qh;replace HR:=hid R1;clear b1 R1;clear r1 h1;obtain rfl:=V1;have hz1:=Z.out.lt;have hd1:Hid (mdlB (zMdl w.heap.size) w.heap.size w1.heap.size ⟨x1,[],[],[]⟩ (fun _=>.slice none 0 0) (w1.alloc (.cells #[.string x1,.slice none 0 0,.slice none 0 0,.slice none 0 0] 27))):=hid (Bld.new Box.new (Nat.le_of_lt hz1) ⟨⟨Nat.le_refl _,by omega⟩,box_at Z.out qe⟩ mv_box fun j hj G=>(match j,hj with|1,_=>OwnF.nil|2,_=>OwnF.nil|3,_=>OwnF.nil|n+4,_=>trivial));obtain⟨K,hK⟩:∃K:Mdl->P Mdl,(fun m=>bd eol fun _=>bd eot fun _=>rt m)=K:=⟨_,rfl⟩
 have HK:=hid hK;replace HS:Hid (run (bd eol fun _=>bd (mdL FU ⟨x1,[],[],[]⟩) K) u1=r):=hid (by rw[← hK];exact HS.out);clear hK Z HN;go_wp2_with fail;refine(endLine_any _ (HR.out.low qe)).mono ?_;rintro e w2 h2;rcases h2.cases with⟨x2,u2,v2,r2,rfl,b2,V2,R2⟩|⟨u2,r2,rfl,b2⟩
 rotate_left 1
 · have HBB:=HB.out;go_wp2_with fail;exact⟨rfl,PE.no (st_no HS r2) qe⟩
 have HN2:=hid (dn_eol.out HR.out.gd r2).2;replace HS:=st_ok HS r2;have HD:=hid (hd1.out.up (mdlF_mv (zMdl_mv _) _ _) (w1:=w2) qe);replace HB:Hid (Bt g w w2):=hid qh;replace HR:=hid R2;clear b2 R2;clear r2 h2 hd1;obtain rfl:=V2;go_wp2_with fail;go_loopg [] FU (MdAt L g r K w1.heap.size w)
 case atStart=>exact⟨⟨⟨x1,[],[],[]⟩,(fun _=>.slice none 0 0),0,u2,HS.out,by have h1:=HN1.out;have h2:=HN2.out;unfold FU;omega,⟨HN1.out.1,.nil,.nil,.nil⟩,by have h1:=HN1.out;have h2:=HN2.out;omega,HD.out,HR.out⟩,HB.out⟩
 case round=>
  obtain⟨⟨x,V,d,u,hs,hk,hx,hl,hd,hR⟩,hb⟩:=hrel;clear HS HB HR HN1 HN2 HD;obtain⟨k,rfl⟩:∃k,gk=k+1:=⟨gk-1,by omega⟩
  rw[mdL] at hs;have HM:=hid (mdlF_mv (zMdl_mv w.heap.size) x V);have HL:=hid hl;have HKK:=hid hk;have HX:=hid hx;have HLL:Hid (∀y v,run (prt x) u=.ok y v->∃c,v.length+c=u.length/\1<=c/\sMdl y (d+c)):=hid fun y v h=>by
   obtain⟨h1,c,h2,h3⟩:=(eat_prt hx).out hR.gd h;have:=(dn_prt x).out hR.gd h;exact⟨c,h2,by omega,h3⟩
  have HD:=hid hd;have HR:=hid hR;have HB:=hid hb;have HS:=hid hs;have hbl:=hd.box.lt;clear hl hk hx hd hR hb hs;go_wp2_with fail;refine(accept_any kEnd _ (HR.out.low qe) (by decide)).mono ?_;rintro e w8 ⟨b8,⟨i8,rfl,R8⟩|⟨i8,rfl,R8⟩⟩
  · replace HS:=st_br (st_by HS i8);replace HS:Hid (run (bd eol fun _=>bd eot fun _=>rt x) u.tail=r):=hid (by have h:=HS.out;rw[← HK.out] at h;exact h);replace HD:=hid (HD.out.up HM.out (w1:=w8) qe);replace HB:Hid (Bt g w w8):=hid qh;replace HR:=hid R8;clear b8 R8;clear i8 HLL;have hb8:=HD.out.box.lt;go_wp2_with fail;refine(endLine_any _ (HR.out.low qe)).mono ?_;rintro e w9 h9;rcases h9.cases with⟨x9,u9,v9,r9,rfl,b9,V9,R9⟩|⟨u9,r9,rfl,b9⟩
    rotate_left 1
    · have HBB:=HB.out;go_wp2_with fail;exact⟨rfl,PE.no (st_no HS r9) qe⟩
    replace HS:=st_ok HS r9;replace HD:=hid (HD.out.up HM.out (w1:=w9) qe);replace HB:Hid (Bt g w w9):=hid qh;replace HR:=hid R9;clear b9 R9;clear r9 h9;obtain rfl:=V9;have hb9:=HD.out.box.lt;go_wp2_with fail;refine(endText_any _ (HR.out.low qe)).mono ?_;rintro e w10 h10;rcases h10.cases with⟨x10,u10,v10,r10,rfl,b10,V10⟩|⟨u10,r10,rfl,b10⟩
    rotate_left 1
    · have HBB:=HB.out;go_wp2_with fail;exact⟨rfl,PE.no (st_no HS r10) qe⟩
    replace HS:=st_ok HS r10;obtain rfl:=V10;replace HD:=hid (HD.out.up HM.out (w1:=w10) qe);replace HB:Hid (Bt g w w10):=hid qh;clear r10 h10 b10;obtain⟨P,hy,hz,ho⟩:=mdl_done HD.out HX.out (by have:=HL.out;omega);have Y:=hid hy;have Z:=hid hz;have qW:∀W,Eqv (fun k=>w.heap.size<=k/\¬k=w.heap.size/\¬k=w1.heap.size) w10 W->RMdl (fun b=>w.heap.size<=b) W x (cMdl x P):=fun W q=>⟨P,rfl,ho.map q.size fun b hb hlt=>⟨hb.1,q.block b hlt hb⟩⟩
    clear hy hz ho HD HM HX;obtain⟨W,hP⟩:=put_box (c:=cMdl x P) Z.out bMdl (cMdl_one _ _) rfl;have vr4:=hP.bt;have vr5:=hid hP.box;have vr6:=hP.size;go_wp2_with (first|(refine wpList_load_row rfl 27 _ rfl _ rfl 27 _ (0,0) _ Y.out Tryz.underlying27 rfl (by kernel_rfl) ?_)|(refine wpList_put rfl 27 _ _ rfl w.heap.size _ rfl rfl hP ?_))
    have HBB:=HB.out;refine bodyPost_ret (v:=.agg (cMdl x P)) ?_ rfl (PE.ok (st_end HS) qe ⟨_,rfl,qW _ qe⟩);exact results_cell_row rfl _ _ w.heap.size 27 _ (0,0) _ rfl vr5.out Tryz.underlying27 rfl (by kernel_rfl)
  · replace HS:=st_bb (st_bn HS i8);replace HD:=hid (HD.out.up HM.out (w1:=w8) qe);replace HB:Hid (Bt g w w8):=hid qh;replace HR:=hid R8;clear b8 R8;clear i8;have hb8:=HD.out.box.lt;go_wp2_with fail;refine(part_any (zMdl w.heap.size) (zMdl_mv _) w.heap.size w1.heap.size x V d _ (HR.out.low qe) hg HX.out (by have:=HL.out;omega) (HD.out.up HM.out qe)).mono ?_;rintro e w9 h9;rcases h9.cases with⟨y9,u9,r9,rfl,b9,⟨V9,D9⟩,R9⟩|⟨u9,r9,rfl,b9⟩
    rotate_left 1
    · have HBB:=HB.out;go_wp2_with fail;exact⟨rfl,PE.no (st_no HS r9) (Eqv.call (S':=fun k=>k<w.heap.size/\¬k=g) qe b9 (fun k hk hs=>⟨hk,hs⟩))⟩
    have HT9:=hid (HLL.out _ _ r9);replace HS:=st_ok HS r9;replace HB:Hid (Bt g w w9):=hid (by have HBB:=HB.out;exact Eqv.call (S':=fun k=>k<w.heap.size/\¬k=g) HBB b9 (fun k hk hs=>⟨hk,hs⟩));replace HD:=hid D9;replace HR:=hid R9;clear D9 R9 b9 r9 h9 HM HX HLL;go_wp2_with fail;go_roundg k
    case measure=>omega
    case rel=>
     obtain⟨c,h1,h2,h3⟩:=HT9.out;exact⟨⟨y9,V9,d+c,u9,HS.out,by have:=HKK.out;omega,h3,by have:=HL.out;omega,HD.out,HR.out⟩,HB.out⟩
end
end Go.Proofs.YtbgodajefaahdaaGreatDoor.Ps
namespace Go.Proofs.YtbgodajefaahdaaGreatDoor.Ps
open Go.RowKit
open Go.Proofs.YtbgodajefaahdaaGreatDoor.Lx (bs mt Tokd tokL tokN tokE own_toks tokens_any)
open Go.Proofs.YtbgodajefaahdaaGreatDoor.Ex (Lo)
open Go.Proofs.YtbgodajefaahdaaGreatDoor.Md (Rw Box Mdl PMdl cMdl OMdl mdlE)
set_option maxHeartbeats 600000
def nM:Mdl:=⟨mt,[],[],[]⟩
def pM0:PMdl:=⟨none,0,0,none,0,0,none,0,0⟩
def rdM (s:List UInt8):Mdl×Int×Int:=rdG nM mdl mdlE s
theorem oM0 {G:Nat->Prop} {w:World}:OMdl G w nM pM0:=⟨Rw.nil,Rw.nil,Rw.nil⟩
def MO (q:Mdl×Int×Int) (w:World) (e:Ending) (w':World):Prop:=Below w.heap.size w w'/\∃P,e=.returned (.tuple #[.agg (cMdl q.1 P),.int .i64 q.2.1,.int .i64 q.2.2])/\OMdl (fun b=>w.heap.size<=b) w' q.1 P
theorem MO.mk {q:Mdl×Int×Int} {w w':World} {x:Mdl} {P:PMdl} {a b:Int} (hq:q=(x,a,b)) (hb:Below w.heap.size w w') (hk:OMdl (fun b=>w.heap.size<=b) w' x P):MO q w (.returned (.tuple #[.agg (cMdl x P),.int .i64 a,.int .i64 b])) w':=by subst hq;exact⟨hb,P,rfl,hk⟩
theorem zFU_0 {p:Prop} (h:p:=by
 exact res_row_tmp2 rfl _ _ w.heap.size 27 _ (0,0) _ rfl (box_set4 Z.out rfl) Tryz.underlying27 rfl (by kernel_rfl) rfl rfl
 ):p:=h
theorem zFU_1 {p:Prop} (h:p:=by have HBB:=HB.out;have q1:=hb2;have q:Eqv (fun k=>k<w.heap.size) _ w2:=Eqv.of q1;exact qe):p:=h
theorem zFU_2 {p:Prop} (h:p:=by have q1:=hb2;have q:Eqv (fun k=>k=w.heap.size+1) _ w2:=Eqv.of q1;exact qe):p:=h
theorem zFU_3 {p:Prop} (h:p:=by have q1:=hb2;have q:Eqv (fun k=>k=w.heap.size) _ w2:=Eqv.of q1;exact qe):p:=h
theorem zFU_4 {p:Prop} (h:p:=by have q1:=hb;have q:Eqv (fun k=>k=w.heap.size) _ w1:=Eqv.of q1;exact qe):p:=h
set_option maxRecDepth 100000 in
theorem readM_any (s:ByteArray) (w:World) (hs:s.size<=9223372036854775807) (hE:Nu.Env w):Calls Tryz.prog 13 #[.string s,.func (.func 14) #[] #[],.func (.func 15) #[] #[]] w (MO (rdM (bs s)) w):=by
 have HE:Hid (∀W,Below w.heap.size w W->Calls Tryz.prog 27 #[.string s] W (Tokd W (tokL (bs s)) (tokN (bs s)) (tokE (bs s)))):=hid fun W hW=>tokens_any s W hs (hE.below hW);clear hE hs;have Z:=hid (Box.new (w:=w) (t:=27) (c:=#[.string ⟨#[]⟩,.slice none 0 0,.slice none 0 0,.slice none 0 0]));have n0:Box ((w.alloc (.cells #[.string ⟨#[]⟩,.slice none 0 0,.slice none 0 0,.slice none 0 0] 27)).alloc (.cells #[.string ⟨#[]⟩,.slice none 0 0,.slice none 0 0,.slice none 0 0] 27)) (w.heap.size+1) 27 #[.string ⟨#[]⟩,.slice none 0 0,.slice none 0 0,.slice none 0 0]:=by
  have h:=Box.new (w:=w.alloc (.cells #[.string ⟨#[]⟩,.slice none 0 0,.slice none 0 0,.slice none 0 0] 27)) (t:=27) (c:=#[.string ⟨#[]⟩,.slice none 0 0,.slice none 0 0,.slice none 0 0]);rwa [show(w.alloc (.cells #[.string ⟨#[]⟩,.slice none 0 0,.slice none 0 0,.slice none 0 0] 27)).heap.size=w.heap.size+1 by simp] at h
 have N:=hid n0;clear n0;obtain⟨E,hEE⟩:∃E,tokE (bs s)=E:=⟨_,rfl⟩
 obtain⟨q,hq⟩:∃q,rdM (bs s)=q:=⟨_,rfl⟩
 rw[hEE] at HE;rw[hq];have HEE:=hid hEE;have HQ:=hid hq;clear hEE hq;go_enter Tryz.func13,Tryz.ntmps13;go_wp2_with fail;refine(HE.out _ bl).mono ?_;rintro e w1 ⟨v1,rfl,ho,hb⟩;clear HE;replace Z:=hid (box_at (w2:=w1) Z.out zFU_4);replace N:=hid (box_at (w2:=w1) N.out (by have q1:=hb;have q:Eqv (fun k=>k=w.heap.size+1) _ w1:=Eqv.of q1;exact qe));have HB:Hid (Eqv (fun k=>k<w.heap.size) w w1):=hid (by have q1:=hb;have q:Eqv (fun k=>k<w.heap.size) _ w1:=Eqv.of q1;exact qe);have HO:=hid ho;have hz:=Z.out.lt;have hn:=N.out.lt;clear hb ho;by_cases h0:E=0
 · have b0:(E != 0)=false:=by simp[h0]
   subst h0;obtain⟨hgd,hfew⟩:=gd_tokens HEE.out;obtain⟨p,c,rfl,ht,hc,hp⟩:=own_toks HO.out;have hne:=hgd.ne;obtain⟨g,rfl,hg⟩:∃g,p=some ⟨g,0,none⟩/\w.heap.size<=g:=by
    rcases hp with⟨-,h⟩|⟨g,h,h2⟩
    · omega
    · exact⟨g,h,by simp at h2;omega⟩
   have HT:=hid ht;have HG:=hid hgd;have HF:=hid hfew;clear ht hgd hfew hc hp hg hne HO;go_wp2_with fail;refine(followM_any 14 mdl ⟨g,0,(tokL (bs s)).length,c,tokL (bs s)⟩ w1 (fun _ _=>rfl) HT.out HG.out HF.out (fun g W hR=>model_any W hR)).mono ?_;rintro e w2 h2;obtain⟨hb2,⟨x2,u2,v2,r2,rfl,V2⟩|⟨u2,r2,rfl⟩⟩:=h2.cases
   · obtain⟨c2,rfl,P2,rfl,k2⟩:=V2;have hsz:=mdl_size HG.out HF.out r2;have HX:Hid ((mdlE x2=0->q=(x2,0,0))/\(¬mdlE x2=0->q=(nM,0,mdlE x2))):=hid ⟨fun h=>HQ.out.symm.trans (rdG_ok HEE.out r2 h),fun h=>HQ.out.symm.trans (rdG_bad HEE.out r2 h)⟩;have HC:=hid (fun W (hI:OMdl (Lo W.heap.size) W x2 P2)=>Go.Proofs.YtbgodajefaahdaaGreatDoor.Md.check_any Go.Proofs.YtbgodajefaahdaaGreatDoor.Md.kindC x2 P2 W hI hsz.z);replace Z:=hid (box_at (w2:=w2) Z.out zFU_3);replace N:=hid (box_at (w2:=w2) N.out zFU_2);replace HB:Hid (Eqv (fun k=>k<w.heap.size) w w2):=hid zFU_1;have KX:Hid (OMdl (fun b=>w.heap.size+1<b) w2 x2 P2):=hid (k2.map (Nat.le_refl _) fun b hb hlt=>⟨by
      have hb':w1.heap.size<=b:=hb
      show w.heap.size+1<b
      omega,rfl⟩)
     have Y:=hid (Box.new (w:=w2) (t:=27) (c:=cMdl x2 P2));have hs2:w1.heap.size<=w2.heap.size:=hb2.size;clear h2 r2 hb2 hsz k2 HQ HEE HT HG HF;obtain⟨V,hV⟩:∃V,mdlE x2=V:=⟨_,rfl⟩
     rw[hV] at HX HC;clear hV;dsimp only [cMdl] at Y ⊢;have l0:World.cell? _ ⟨_,0,none⟩=some (.string x2.nm):=Y.out.get rfl;have l1:World.cell? _ ⟨_,1,none⟩=some (.slice P2.pap P2.pam P2.pac):=Y.out.get rfl;have l2:World.cell? _ ⟨_,2,none⟩=some (.slice P2.sip P2.sim P2.sic):=Y.out.get rfl;have l3:World.cell? _ ⟨_,3,none⟩=some (.slice P2.lip P2.lim P2.lic):=Y.out.get rfl;go_wp2_with fail;refine(HC.out _ (OMdl.all (KX.out.map (H:=fun b=>w.heap.size+1<b) (by simp) (fun b hb hlt=>⟨hb,by show(w2.heap.push _)[b]?=_;rw[Array.getElem?_push,if_neg (by omega)]⟩)))).mono ?_;rintro e w3 ⟨rfl,hb3⟩;clear l0 l1 l2 l3 HC;replace Z:=hid (box_at (w2:=w3) Z.out (by have q1:=hb3;have q:Eqv (fun k=>k=w.heap.size) _ w3:=Eqv.of q1;exact qe));replace N:=hid (box_at (w2:=w3) N.out (by have q1:=hb3;have q:Eqv (fun k=>k=w.heap.size+1) _ w3:=Eqv.of q1;exact qe));replace HB:Hid (Eqv (fun k=>k<w.heap.size) w w3):=hid (by have HBB:=HB.out;have q1:=hb3;have q:Eqv (fun k=>k<w.heap.size) _ w3:=Eqv.of q1;exact qe);replace Y:=hid (box_at (w2:=w3) Y.out (by have q1:=hb3;have q:Eqv (fun k=>k=w2.heap.size) _ w3:=Eqv.of q1;exact qe));have KK:Hid (OMdl (fun b=>w.heap.size+1<b) w3 x2 P2):=hid (by
      have q1:=hb3;have q:Eqv (fun b=>w.heap.size+1<b) w2 w3:=by
       have q2:Eqv (fun b=>w.heap.size+1<b) _ w3:=Eqv.of q1;exact qe
      exact KX.out.map q.size (fun b hb hlt=>⟨hb,q.block b hlt hb⟩))
     have hs3:=Y.out.lt;clear hb3 KX;by_cases h1:V=0
     · have b1:(V != 0)=false:=by simp[h1]
       have hx:=hid (HX.out.1 h1);clear h1 HX;have l0:World.cell? _ ⟨_,0,none⟩=some (.string x2.nm):=Y.out.get rfl;have l1:World.cell? _ ⟨_,1,none⟩=some (.slice P2.pap P2.pam P2.pac):=Y.out.get rfl;have l2:World.cell? _ ⟨_,2,none⟩=some (.slice P2.sip P2.sim P2.sic):=Y.out.get rfl;have l3:World.cell? _ ⟨_,3,none⟩=some (.slice P2.lip P2.lim P2.lic):=Y.out.get rfl;have y0:World.cell? _ ⟨_,0,none⟩=some (.string ⟨#[]⟩):=Z.out.get rfl;have y1:World.cell? _ ⟨_,1,none⟩=some (.slice none 0 0):=Z.out.get rfl;have y2:World.cell? _ ⟨_,2,none⟩=some (.slice none 0 0):=Z.out.get rfl;have y3:World.cell? _ ⟨_,3,none⟩=some (.slice none 0 0):=Z.out.get rfl;have fz:∀i,World.frozen? _ ⟨_,i,none⟩=false:=fun i=>box_frz (i:=i) Z.out;go_wp2_with fail;have q:∀W,Eqv (fun b=>w.heap.size+1<b) w3 W->OMdl (fun b=>w.heap.size<=b) W x2 P2:=fun W q=>KK.out.map q.size (fun b hb hlt=>⟨by show w.heap.size<=b;have hb':w.heap.size+1<b:=hb;omega,q.block b hlt hb⟩);refine bodyPost_ret (v:=.tuple #[.agg (cMdl x2 P2),.int .i64 0,.int .i64 0]) ?_ rfl (MO.mk hx.out (eqv_below qh) (q _ qe));exact zFU_0
     · have b1:(V != 0)=true:=by simp[h1]
       have hx:=hid (HX.out.2 h1);clear h1 HX;have l0:World.cell? _ ⟨_,0,none⟩=some (.string ⟨#[]⟩):=N.out.get rfl;have l1:World.cell? _ ⟨_,1,none⟩=some (.slice none 0 0):=N.out.get rfl;have l2:World.cell? _ ⟨_,2,none⟩=some (.slice none 0 0):=N.out.get rfl;have l3:World.cell? _ ⟨_,3,none⟩=some (.slice none 0 0):=N.out.get rfl;have y0:World.cell? _ ⟨_,0,none⟩=some (.string ⟨#[]⟩):=Z.out.get rfl;have y1:World.cell? _ ⟨_,1,none⟩=some (.slice none 0 0):=Z.out.get rfl;have y2:World.cell? _ ⟨_,2,none⟩=some (.slice none 0 0):=Z.out.get rfl;have y3:World.cell? _ ⟨_,3,none⟩=some (.slice none 0 0):=Z.out.get rfl;have fz:∀i,World.frozen? _ ⟨_,i,none⟩=false:=fun i=>box_frz (i:=i) Z.out;go_wp2_with fail;refine bodyPost_ret (v:=.tuple #[.agg (cMdl nM pM0),.int .i64 0,.int .i64 V]) ?_ rfl (MO.mk hx.out (eqv_below qh) (oM0));exact zFU_0
   · have HX:=hid (HQ.out.symm.trans (rdG_no HEE.out r2));replace Z:=hid (box_at (w2:=w2) Z.out zFU_3);replace N:=hid (box_at (w2:=w2) N.out zFU_2);replace HB:Hid (Eqv (fun k=>k<w.heap.size) w w2):=hid zFU_1;clear h2 r2 hb2 HQ HEE HT HG HF;replace Z:=hid (box_at (w2:=w2.alloc (.cells #[.string ⟨#[]⟩,.slice none 0 0,.slice none 0 0,.slice none 0 0] 27)) Z.out qe);replace N:=hid (box_at (w2:=w2.alloc (.cells #[.string ⟨#[]⟩,.slice none 0 0,.slice none 0 0,.slice none 0 0] 27)) N.out qe);have l0:World.cell? _ ⟨_,0,none⟩=some (.string ⟨#[]⟩):=N.out.get rfl;have l1:World.cell? _ ⟨_,1,none⟩=some (.slice none 0 0):=N.out.get rfl;have l2:World.cell? _ ⟨_,2,none⟩=some (.slice none 0 0):=N.out.get rfl;have l3:World.cell? _ ⟨_,3,none⟩=some (.slice none 0 0):=N.out.get rfl;have y0:World.cell? _ ⟨_,0,none⟩=some (.string ⟨#[]⟩):=Z.out.get rfl;have y1:World.cell? _ ⟨_,1,none⟩=some (.slice none 0 0):=Z.out.get rfl;have y2:World.cell? _ ⟨_,2,none⟩=some (.slice none 0 0):=Z.out.get rfl;have y3:World.cell? _ ⟨_,3,none⟩=some (.slice none 0 0):=Z.out.get rfl;have fz:∀i,World.frozen? _ ⟨_,i,none⟩=false:=fun i=>box_frz (i:=i) Z.out;go_wp2_with fail;refine bodyPost_ret (v:=.tuple #[.agg (cMdl nM pM0),.int .i64 (hd u2).l,.int .i64 9]) ?_ rfl (MO.mk HX.out (eqv_below qh) (oM0));exact zFU_0
 · have b0:(E != 0)=true:=by simp[h0]
   have HX:=hid (HQ.out.symm.trans (rdG_lex (by rw[HEE.out];exact h0)));clear h0 HO;have l0:World.cell? _ ⟨_,0,none⟩=some (.string ⟨#[]⟩):=N.out.get rfl;have l1:World.cell? _ ⟨_,1,none⟩=some (.slice none 0 0):=N.out.get rfl;have l2:World.cell? _ ⟨_,2,none⟩=some (.slice none 0 0):=N.out.get rfl;have l3:World.cell? _ ⟨_,3,none⟩=some (.slice none 0 0):=N.out.get rfl;have y0:World.cell? _ ⟨_,0,none⟩=some (.string ⟨#[]⟩):=Z.out.get rfl;have y1:World.cell? _ ⟨_,1,none⟩=some (.slice none 0 0):=Z.out.get rfl;have y2:World.cell? _ ⟨_,2,none⟩=some (.slice none 0 0):=Z.out.get rfl;have y3:World.cell? _ ⟨_,3,none⟩=some (.slice none 0 0):=Z.out.get rfl;have fz:∀i,World.frozen? _ ⟨_,i,none⟩=false:=fun i=>box_frz (i:=i) Z.out;go_wp2_with fail;refine bodyPost_ret (v:=.tuple #[.agg (cMdl nM pM0),.int .i64 (tokN (bs s):Int),.int .i64 E]) ?_ rfl (MO.mk (by rw[HX.out,HEE.out]) (eqv_below qh) (oM0));exact zFU_0
set_option maxRecDepth 100000 in
theorem parseModel_any (s:ByteArray) (w:World) (hs:s.size<=9223372036854775807) (hE:Nu.Env w):Calls Tryz.prog 6 #[.string s] w (MO (rdM (bs s)) w):=by
 have HC:=hid (fun W (hW:Nu.Env W)=>readM_any s W hs hW);have HE:=hid hE;obtain⟨⟨x,a,b⟩,hq⟩:∃q,rdM (bs s)=q:=⟨_,rfl⟩
 rw[hq] at HC ⊢;clear hE hs hq;have Z:=hid (Box.new (w:=w) (t:=27) (c:=#[.string ⟨#[]⟩,.slice none 0 0,.slice none 0 0,.slice none 0 0]));go_enter Tryz.func6,Tryz.ntmps6;go_wp2_with fail;refine(HC.out _ (HE.out.below bl)).mono ?_;rintro e w1 ⟨hb,P,rfl,hk⟩;have HB:=hid hb;have HK:=hid hk;replace Z:=hid (box_at (w2:=w1) Z.out zFU_4);clear hb hk HC;dsimp only [cMdl];have y0:World.cell? _ ⟨_,0,none⟩=some (.string ⟨#[]⟩):=Z.out.get rfl;have y1:World.cell? _ ⟨_,1,none⟩=some (.slice none 0 0):=Z.out.get rfl;have y2:World.cell? _ ⟨_,2,none⟩=some (.slice none 0 0):=Z.out.get rfl;have y3:World.cell? _ ⟨_,3,none⟩=some (.slice none 0 0):=Z.out.get rfl;have fz:∀i,World.frozen? _ ⟨_,i,none⟩=false:=fun i=>box_frz (i:=i) Z.out;go_wp2_with fail;have HBE:Hid (Eqv (fun k=>k<w.heap.size) w w1):=hid (by have q:Eqv (fun k=>k<w.heap.size) _ w1:=Eqv.of HB.out;exact qe);have qW:∀W,Eqv (fun k=>¬k=w.heap.size) w1 W->OMdl (fun b=>w.heap.size<=b) W x P:=fun W q=>HK.out.map q.size fun b hb hlt=>by
  have hb':_<=b:=hb;simp at hb'
  exact⟨by show w.heap.size<=b;omega,q.block b hlt (by omega)⟩
 refine bodyPost_ret (v:=.tuple #[.agg (cMdl x P),.int .i64 a,.int .i64 b]) ?_ rfl (MO.mk rfl (eqv_below (by have HBB:=HBE.out;exact qe)) (qW _ qe));exact zFU_0
end Go.Proofs.YtbgodajefaahdaaGreatDoor.Ps
