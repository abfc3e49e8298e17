/-
  Parts of this proof: The contracts of the reference's check of nodes, of its Check and CheckCode.
-/
import Derived.Test.YtaaffmbnhjaebaaGreatZERNodexa
import Derived.Test.YtaaffmbnhjaebaaGreatZERNo1xa
import Derived.Test.YtaaffmbnhjaebaaGreatZERNo3xa
import Derived.Test.YtaaffmbnhjaebaaGreatZERNo4xa
import Derived.Test.YtaaffmbnhjaebaaGreatZERNo5xa
import Derived.Test.YtaaffmbnhjaebaaGreatZERNo7xa
namespace Go.Proofs.YtaaffmbnhjaebaaGreat.Ex
open Go.RowKit
set_option maxHeartbeats 2000000
set_option linter.unusedVariables false
theorem rnode_any (cc : Bool) (e : Ex) : ∀ (p : Option Addr) (m c : Nat) (w : World), In w e p m → Sz e → Calls Tryz.prog 201 #[.agg #[.int .i64 e.o, .string e.s, .int .i64 e.n, .slice p m c], .bool cc] w (Gives (.int .i64 (bad cc (pre e))) w) := by
 induction e using Ex.ind with
 | h o s n l ih =>
  intro p m c w h hs
  have ih : IHn cc l := ih
  simp only [Ex.o, Ex.s, Ex.n]
  by_cases h1 : o < 1
  · cases cc
    · exact rn_LowF l ih o h1 s n p m c w h hs
    · exact rn_LowT l ih o h1 s n p m c w h hs
  by_cases h26 : 26 < o
  · cases cc
    · exact rn_HighF l ih o h26 s n p m c w h hs
    · exact rn_HighT l ih o h26 s n p m c w h hs
  by_cases e1 : o = 1
  · subst e1
    cases cc
    · exact rn_OneF l ih s n p m c w h hs
    · exact rn_OneT l ih s n p m c w h hs
  by_cases e2 : o = 2
  · cases cc
    · exact rn_TwoF l ih o e2 s n p m c w h hs
    · exact rn_TwoT l ih o e2 s n p m c w h hs
  by_cases e3 : o = 3
  · subst e3
    cases cc
    · exact rn_ThreeF l ih s n p m c w h hs
    · exact rn_ThreeT l ih s n p m c w h hs
  by_cases e21 : o ≤ 21
  · cases cc
    · exact rn_MidF l ih o (by omega) e21 s n p m c w h hs
    · exact rn_MidT l ih o (by omega) e21 s n p m c w h hs
  by_cases e24 : o ≤ 24
  · cases cc
    · exact rn_ObjF l ih o (by omega) e24 s n p m c w h hs
    · exact rn_ObjT l ih o (by omega) e24 s n p m c w h hs
  by_cases e25 : o = 25
  · subst e25
    cases cc
    · exact rn_SlotF l ih s n p m c w h hs
    · exact rn_SlotT l ih s n p m c w h hs
  · obtain rfl : o = 26 := by omega
    cases cc
    · exact rn_VarF l ih s n p m c w h hs
    · exact rn_VarT l ih s n p m c w h hs
set_option maxRecDepth 100000 in
theorem rchk_any (cc : Bool) (e : Ex) (p : Option Addr) (m c : Nat) (w : World) (h : In w e p m) (hs : Sz e) (hc : cnt e ≤ 1000000) : Calls Tryz.prog 197 #[.agg #[.int .i64 e.o, .string e.s, .int .i64 e.n, .slice p m c], .bool cc] w (Gives (.int .i64 (chkE cc e)) w) := by
 have HN := Lib.hid (fun W hi => rnodes_any e p m c W hi hc)
 have HD := Lib.hid (fun W hi => rdepth_any e p m c W hi hc)
 have HE := Lib.hid (fun W hi => rnode_any cc e p m c W hi hs)
 have HH := Lib.hid h
 have hdc := dep_le_cnt e
 obtain ⟨N, hN⟩ : ∃ N, cnt e = N := ⟨_, rfl⟩
 obtain ⟨D, hD⟩ : ∃ D, dep e = D := ⟨_, rfl⟩
 obtain ⟨V, hV⟩ : ∃ V, bad cc (pre e) = V := ⟨_, rfl⟩
 have HV := Lib.hid (show chkE cc e = if 60 < N then 6 else if 12 < D then 11 else V by unfold chkE; rw [hN, hD, hV])
 rw [HV.out]
 rw [hN] at HN hc hdc
 rw [hD] at HD hdc
 rw [hV] at HE
 obtain ⟨o, s, nn, kl⟩ := e
 simp only [Ex.o, Ex.s, Ex.n] at HN HD HE ⊢
 clear h hs hN hD hV
 by_cases h6 : 60 < N
 · rw [if_pos h6]
   have t1 : decide ((60 : Int) < (N : Int)) = true := decide_eq_true (by omega)
   have t2 : (60 : Int) < (N : Int) := by omega
   clear h6 hc hdc
   go_enter Tryz.func197, Tryz.ntmps197
   go_wp2_with fail
   refine (HN.out _ (HH.out.on bl)).mono ?_
   rintro e w1 ⟨rfl, hb1⟩
   go_wp2_with fail
   go_ret
   exact ⟨rfl, bl⟩
 rw [if_neg h6]
 have t1 : decide ((60 : Int) < (N : Int)) = false := decide_eq_false (by omega)
 have t2 : (N : Int) ≤ 60 := by omega
 by_cases h12 : 12 < D
 · rw [if_pos h12]
   have t3 : decide ((12 : Int) < (D : Int)) = true := decide_eq_true (by omega)
   have t4 : (12 : Int) < (D : Int) := by omega
   clear h6 h12 hc hdc
   go_enter Tryz.func197, Tryz.ntmps197
   go_wp2_with fail
   refine (HN.out _ (HH.out.on bl)).mono ?_
   rintro e w1 ⟨rfl, hb1⟩
   obtain ⟨x0, x1, x2, x3⟩ : box4 w1 w.heap.size o s nn p m c := box_new.on hb1
   have HW1 : Hid (Below w.heap.size w w1) := Lib.hid bl
   clear hb1
   go_wp2_with fail
   refine (HD.out _ (HH.out.on HW1.out)).mono ?_
   rintro e w2 ⟨rfl, hb2⟩
   go_wp2_with fail
   go_ret
   exact ⟨rfl, by have HBB := HW1.out; exact bl⟩
 rw [if_neg h12]
 have t3 : decide ((12 : Int) < (D : Int)) = false := decide_eq_false (by omega)
 have t4 : (D : Int) ≤ 12 := by omega
 clear h6 h12 hc hdc
 go_enter Tryz.func197, Tryz.ntmps197
 go_wp2_with fail
 refine (HN.out _ (HH.out.on bl)).mono ?_
 rintro e w1 ⟨rfl, hb1⟩
 have hx1 : box4 w1 w.heap.size o s nn p m c := box_new.on hb1
 have HX1 := Lib.hid hx1
 obtain ⟨x0, x1, x2, x3⟩ := hx1
 have HW1 : Hid (Below w.heap.size w w1) := Lib.hid bl
 clear hb1
 go_wp2_with fail
 refine (HD.out _ (HH.out.on HW1.out)).mono ?_
 rintro e w2 ⟨rfl, hb2⟩
 obtain ⟨y0, y1, y2, y3⟩ := HX1.out.on hb2
 have HW2 : Hid (Below w.heap.size w w2) := Lib.hid (by have HBB := HW1.out; exact bl)
 clear hb2 x0 x1 x2 x3
 go_wp2_with fail
 refine (HE.out _ (HH.out.on HW2.out)).mono ?_
 rintro e w3 ⟨rfl, hb3⟩
 go_wp2_with fail
 go_ret
 exact ⟨rfl, by have HBB := HW2.out; exact bl⟩
theorem rcheck_any (e : Ex) (p : Option Addr) (m c : Nat) (w : World) (h : In w e p m) (hs : Sz e) (hc : cnt e ≤ 1000000) : Calls Tryz.prog 192 #[.agg #[.int .i64 e.o, .string e.s, .int .i64 e.n, .slice p m c]] w (Gives (.int .i64 (chkE false e)) w) := by
 have H := Lib.hid (fun W hi => rchk_any false e p m c W hi hs hc)
 have HH := Lib.hid h
 obtain ⟨v, hv⟩ : ∃ v, chkE false e = v := ⟨_, rfl⟩
 rw [hv] at H ⊢
 obtain ⟨o, s, nn, kl⟩ := e
 simp only [Ex.o, Ex.s, Ex.n] at H ⊢
 clear h hs hc hv
 go_enter Tryz.func192, Tryz.ntmps192
 go_wp2_with fail
 refine (H.out _ (HH.out.on bl)).mono ?_
 rintro e w1 ⟨rfl, hb1⟩
 go_wp2_with fail
 go_ret
 exact ⟨rfl, bl⟩
end Go.Proofs.YtaaffmbnhjaebaaGreat.Ex
