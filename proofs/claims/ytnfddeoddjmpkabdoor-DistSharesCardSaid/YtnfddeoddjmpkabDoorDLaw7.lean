/-
  The statement DistShares.
-/
import Derived.Test.YtnfddeoddjmpkabDoorDShare2
import Derived.Test.YtnfddeoddjmpkabDoorDLaw1
import Derived.Test.YtnfddeoddjmpkabDoorDMono
namespace Go.Proofs.YtnfddeoddjmpkabDoor.Di
open Go.RowKit
open St (hiN hiN_lt)
set_option maxHeartbeats 4000000
set_option maxRecDepth 10000
theorem step_q (N : Nat) : (18446744073709551615 : Int).tdiv (N : Int) = ((18446744073709551615 / N : Nat) : Int) := by
  rw [Int.tdiv_eq_ediv_of_nonneg (by decide), Int.natCast_ediv]
  rfl
theorem step_n (N : Nat) : IntKind.u64.wrap (((18446744073709551615 / N : Nat) : Int) + 1) = (stepN N : Int) := by
  unfold stepN
  generalize 18446744073709551615 / N = g
  rw [IntKind.wrap_u64]
  omega
theorem step_le (N : Nat) : ((18446744073709551615 / N : Nat) : Int) ≤ 18446744073709551615 := by
  have := Nat.div_le_self 18446744073709551615 N
  omega
theorem rem_nat {x : Int} (x0 : 0 ≤ x) (N : Nat) : x.tmod (N : Int) = ((x.toNat % N : Nat) : Int) := by
  rw [Int.tmod_eq_emod_of_nonneg x0, Int.natCast_emod, Int.toNat_of_nonneg x0]
theorem distShares_walk (op a b n : Int) (p : Option Addr) (lv c : Nat) (q : Option Addr) (lw f : Nat) (V W : Nat → Int) (x : Int) (x0 : 0 ≤ x) (x1 : x ≤ 65535) (w : World) (hE : Env w) (hV : Row w p lv V) (hW : Row w q lw W) : Calls Tryd.prog 4 #[.agg #[.int .i64 op, .int .i64 a, .int .i64 b, .int .i64 n, .slice p lv c, .slice q lw f], .int .u16 x] w (Gives (.bool true) w) := by
  have AW := Lib.hid fun (w2 : World) (hb : Below w.heap.size w w2) => awake_any w2 (hE.below hb)
  have SH := Lib.hid (short_any op a b n p lv c q lw f)
  have CH := Lib.hid fun (w2 : World) (hb : Below w.heap.size w w2) => check_any op a b n p lv c q lw f V W w2 (hV.on hb) (hW.on hb)
  cases h : shB lv lw
  · rw [h] at SH
    exact shares_no op a b n p lv c q lw f x w SH AW
  rw [h] at SH
  by_cases h0 : errD op a b n lv lw V W = 0
  · have AT : ∀ u : Nat, u < 18446744073709551616 → ∀ w2, Below w.heap.size w w2 → Calls Tryd.prog 12 #[.agg #[.int .i64 op, .int .i64 a, .int .i64 b, .int .i64 n, .slice p lv c, .slice q lw f], .int .u64 (u : Nat)] w2 (Gives (.tuple #[.int .i64 (atV 0 op a b lv V W u), .bool (atB 0 op)]) w2) := by
      intro u hu w2 hb
      have g := at_any op a b n p lv c q lw f V W u hu w2 (hV.on hb) (hW.on hb)
      rw [h0] at g
      exact g
    rw [h0] at CH
    have hA := acc_of h0
    have hx : IntKind.i64.wrap x = x := by rw [IntKind.wrap_i64]; omega
    by_cases o2 : op = 2
    · subst o2
      obtain ⟨a0, ab, b1⟩ : 0 ≤ a ∧ a ≤ b ∧ b ≤ 1000000000 := by
        rcases hA with ⟨e, -⟩ | ⟨-, g⟩ | ⟨e, -⟩ | ⟨e, -⟩ | ⟨e, -⟩
        · cases e
        · exact g
        · cases e
        · cases e
        · cases e
      obtain ⟨N, eN⟩ : ∃ N, (b - a + 1).toNat = N := ⟨_, rfl⟩
      have hr := Nat.mod_lt x.toNat (show 0 < N by omega)
      have w1 : IntKind.i64.wrap (b - a) = b - a := by rw [IntKind.wrap_i64]; omega
      have w2 : IntKind.i64.wrap (b - a + 1) = (N : Int) := by rw [IntKind.wrap_i64]; omega
      have w3 : IntKind.i64.wrap (a + ((x.toNat % N : Nat) : Int)) = a + ((x.toNat % N : Nat) : Int) := by rw [IntKind.wrap_i64]; omega
      by_cases hN : N ≤ 1000
      · refine shares_uni a b n p lv c q lw f x _ N (x.toNat % N) (18446744073709551615 / N) (stepN N) (fun i => a + (i : Int)) w1 w2 w3 hx (rem_nat x0 N) (by omega) (by omega) (step_q N) (step_n N) (step_le N) (Lib.hid (by rw [uni_count hr]; rfl)) w SH CH (Lib.hid fun i hi w2 hb => ?_) AW
        obtain ⟨g1, g2⟩ := step_hit (N := N) (by omega) hi
        have g := AT _ g1 w2 hb
        have e1 : atB 0 2 = true := by decide
        have e2 : atV 0 2 a b lv V W (i * stepN N % 18446744073709551616) = a + (i : Int) := by
          unfold atV sglV
          rw [e1, if_pos rfl, if_neg (by decide), if_neg (by decide), if_neg (by decide)]
          unfold uniV
          rw [eN, g2]
        rw [e1, e2] at g
        exact g
      · exact shares_big a b n p lv c q lw f x N (x.toNat % N) w1 w2 w3 hx (rem_nat x0 N) (by omega) (by omega) w SH CH AW
    · by_cases o3 : op = 3
      · subst o3
        obtain ⟨rfl, l1, l2, -, hB⟩ : lw = lv ∧ 1 ≤ lv ∧ lv ≤ 20 ∧ (∀ i, i < lv → 0 ≤ V i ∧ V i ≤ 1000000000) ∧ (∀ i, i < lv → 1 ≤ W i ∧ W i ≤ 1000) := by
          rcases hA with ⟨e, -⟩ | ⟨e, -⟩ | ⟨-, g⟩ | ⟨e, -⟩ | ⟨e, -⟩
          · cases e
          · cases e
          · exact g
          · cases e
          · cases e
        obtain ⟨-, g | ⟨b1, o1, rfl, hb1, hv⟩⟩ := hV
        · omega
        obtain ⟨-, g | ⟨b2, o2, rfl, hb2, hw⟩⟩ := hW
        · omega
        obtain ⟨N, e1, e2, s1, s2, -⟩ := sumK (W := W) (u := 0) (by decide) l1 l2 hB
        have hr := Nat.mod_lt x.toNat (show 0 < lw by omega)
        have hW0 : ∀ i, i < lw → 0 ≤ W i := fun i hi => by have := hB i hi; omega
        have hK : ∀ i, i < N → TabIs V W lw i (tabV V W lw i) := fun i hi => (tab_spec l1 hW0 (by omega) (by omega)).2
        refine shares_tab a b n b1 o1 lw c b2 o2 f V W x _ _ N (x.toNat % lw) (18446744073709551615 / N) (stepN N) (fun i => tabV V W lw i) hx (rem_nat x0 lw) (by omega) (by omega) (by omega) (by omega) (Lib.hid rfl) (Lib.hid e1) (Lib.hid rfl) (Lib.hid hB) (by omega) (by omega) (step_q N) (step_n N) (step_le N) (Lib.hid (tab_count hB e1 hK)) w SH CH
          (Lib.hid fun w2 hb i hi => (hb.cell (p := ⟨b1, o1 + i, none⟩) hb1).trans (hv.out i hi)) (Lib.hid fun w2 hb i hi => (hb.cell (p := ⟨b2, o2 + i, none⟩) hb2).trans (hw.out i hi)) (Lib.hid fun i hi w2 hb => ?_) AW
        obtain ⟨g1, g2⟩ := step_hit (N := N) (by omega) hi
        have g := AT _ g1 w2 hb
        have e3 : atB 0 3 = true := by decide
        have e4 : atV 0 3 a b lw V W (i * stepN N % 18446744073709551616) = tabV V W lw i := by
          unfold atV sglV
          rw [e3, if_pos rfl, if_neg (by decide), if_pos rfl]
          unfold tblV
          rw [e2, g2]
        rw [e3, e4] at g
        exact g
      · exact shares_other op a b n p lv c q lw f x (by rw [bne_iff_ne]; exact o3) (by rw [bne_iff_ne]; exact o2) w SH CH AW
  · exact shares_bad op a b n p lv c q lw f x _ (by rw [bne_iff_ne]; exact h0) w SH CH AW
end Go.Proofs.YtnfddeoddjmpkabDoor.Di
