/-
  The walks of the statements on texts: Text and Parse agree with the reference, at every int and at every text.
-/
import Derived.Test.YtcbjkdbclimbeaaDoorAwake
import Derived.Test.YtcbjkdbclimbeaaDoorRefParse
namespace Go.Proofs.YtcbjkdbclimbeaaDoor
open Go.RowKit
set_option maxHeartbeats 400000
theorem num_inj {u v : Int} (h0 : -9223372036854775808 ≤ u) (h1 : u ≤ 9223372036854775807) (h2 : -9223372036854775808 ≤ v) (h3 : v ≤ 9223372036854775807) (h : num u = num v) : u = v :=
  itoa_inj h0 h1 h2 h3 (by have := congrArg (fun b : ByteArray => b.data.toList) h; simpa [num] using this)
theorem numTexts_walk (n : Int) (h0 : -9223372036854775808 ≤ n) (h1 : n ≤ 9223372036854775807) (w : World) (hE : Env w) :
    Calls Tryd.prog 9 #[.int .i64 n] w fun e w' => e = .returned (.bool true) ∧ Below w.heap.size w w' := by
  have hs : (num n).size ≤ 140737488355328 := by have := num_size20 n h0 h1; omega
  cases hi : inB n
  · have hn : ∀ v, inB v = true → num v ≠ num n := fun v hv e => by
      obtain ⟨v0, v1⟩ := inB_true hv
      have := num_inj (by omega) (by omega) h0 h1 e
      subst this
      rw [hi] at hv
      cases hv
    have hz : ((0 : Int) == n) = false := beq_eq_false_iff_ne.2 (by have := inB_false hi; omega)
    have HI := Lib.hid hi
    have HN := Lib.hid hn
    clear hi hn
    go_enter Tryd.func9, Tryd.ntmps9
    go_wp2_with fail
    refine (text_any _ h0 h1 _ hE).mono ?_
    rintro e w1 ⟨rfl, hb1⟩
    have hE1 := hE.below hb1
    go_wp2_with fail
    refine (parse_no _ hs HN.out _ hE1).mono ?_
    rintro e w2 ⟨rfl, hb2⟩
    have hE2 := hE1.below hb2
    go_wp2_with fail
    refine (rtext_any _ h0 h1 _).mono ?_
    rintro e w' ⟨rfl, rfl⟩
    go_wp2_with fail
    refine (in_any _ _).mono ?_
    rintro e w' ⟨rfl, rfl⟩
    rw [HI.out]
    go_wp2_with fail
    refine (awake_any _ hE2).mono ?_
    rintro e w3 ⟨rfl, hb3⟩
    go_wp2_with fail
    go_ret
    exact ⟨rfl, (hb1.trans (hb2.mono hb1.size)).trans (hb3.mono (Nat.le_trans hb1.size hb2.size))⟩
  · obtain ⟨i0, i1⟩ := inB_true hi
    have HI := Lib.hid hi
    clear hi
    go_enter Tryd.func9, Tryd.ntmps9
    go_wp2_with fail
    refine (text_any _ h0 h1 _ hE).mono ?_
    rintro e w1 ⟨rfl, hb1⟩
    have hE1 := hE.below hb1
    go_wp2_with fail
    refine (parse_yes _ i0 i1 _ hE1).mono ?_
    rintro e w2 ⟨rfl, hb2⟩
    have hE2 := hE1.below hb2
    go_wp2_with fail
    refine (rtext_any _ h0 h1 _).mono ?_
    rintro e w' ⟨rfl, rfl⟩
    go_wp2_with fail
    refine (in_any _ _).mono ?_
    rintro e w' ⟨rfl, rfl⟩
    rw [HI.out]
    go_wp2_with fail
    refine (awake_any _ hE2).mono ?_
    rintro e w3 ⟨rfl, hb3⟩
    go_wp2_with fail
    go_ret
    exact ⟨rfl, (hb1.trans (hb2.mono hb1.size)).trans (hb3.mono (Nat.le_trans hb1.size hb2.size))⟩
theorem numParses_walk (s : ByteArray) (hs : s.size ≤ 140737488355328) (w : World) (hE : Env w) :
    Calls Tryd.prog 10 #[.string s] w fun e w' => e = .returned (.bool true) ∧ Below w.heap.size w w' := by
  by_cases hv : ∃ v, inB v = true ∧ num v = s
  · obtain ⟨v, hi, rfl⟩ := hv
    obtain ⟨i0, i1⟩ := inB_true hi
    clear hi hs
    go_enter Tryd.func10, Tryd.ntmps10
    go_wp2_with fail
    refine (parse_yes _ i0 i1 _ hE).mono ?_
    rintro e w1 ⟨rfl, hb1⟩
    have hE1 := hE.below hb1
    go_wp2_with fail
    refine (rparse_yes _ i0 i1 _).mono ?_
    rintro e w' ⟨rfl, rfl⟩
    go_wp2_with fail
    refine (text_any _ (by omega) (by omega) _ hE1).mono ?_
    rintro e w2 ⟨rfl, hb2⟩
    have hE2 := hE1.below hb2
    go_wp2_with fail
    refine (awake_any _ hE2).mono ?_
    rintro e w3 ⟨rfl, hb3⟩
    go_wp2_with fail
    go_ret
    exact ⟨rfl, (hb1.trans (hb2.mono hb1.size)).trans (hb3.mono (Nat.le_trans hb1.size hb2.size))⟩
  · have hn : ∀ v, inB v = true → num v ≠ s := fun v h1 h2 => hv ⟨v, h1, h2⟩
    have HN := Lib.hid hn
    clear hn hv
    go_enter Tryd.func10, Tryd.ntmps10
    go_wp2_with fail
    refine (parse_no _ hs HN.out _ hE).mono ?_
    rintro e w1 ⟨rfl, hb1⟩
    have hE1 := hE.below hb1
    go_wp2_with fail
    refine (rparse_no _ hs HN.out _).mono ?_
    rintro e w' ⟨rfl, rfl⟩
    go_wp2_with fail
    refine (awake_any _ hE1).mono ?_
    rintro e w3 ⟨rfl, hb3⟩
    go_wp2_with fail
    go_ret
    exact ⟨rfl, hb1.trans (hb3.mono hb1.size)⟩
end Go.Proofs.YtcbjkdbclimbeaaDoor
