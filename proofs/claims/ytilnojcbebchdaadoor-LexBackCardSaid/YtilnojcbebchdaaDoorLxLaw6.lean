/-
  The law of what is written and read back, walked.
-/
import Derived.Test.YtilnojcbebchdaaDoorLxAwake
import Derived.Test.YtilnojcbebchdaaDoorLxBck
import Derived.Test.YtilnojcbebchdaaDoorLxSame
namespace Go.Proofs.YtilnojcbebchdaaDoor.Lx
open Go.RowKit
set_option maxHeartbeats 4000000
set_option linter.unusedVariables false
set_option linter.unusedSimpArgs false
theorem txt_size {l : List Tk} : (txtS l).size ≤ 20000 := by
  unfold txtS
  split
  · rename_i h
    unfold txtE at h
    split at h
    · split at h
      · cases h
      · rename_i g
        rw [← bs_len, bs_mk]; omega
    · rename_i g; exact absurd h g
  · exact Nat.zero_le _
set_option maxRecDepth 100000 in
theorem lexBack_walk (p : Option Addr) (n c : Nat) (l : List Tk) (w : World) (hT : Toks w p n l) (hF : ∀ x ∈ l, x.t.size ≤ 140737488355328 ∧ x.l ≤ 9223372036854775807) (hE : Env w) : Calls Tryd.prog 6 #[.slice p n c] w (Gives (.bool true) w) := by
  have HE := Lib.hid hE
  have I1 := text_any (c := c) w hT hF hE
  have HT := Lib.hid hT
  have hn : (n : Int) ≤ 9223372036854775807 := by have := hT.2.1; omega
  unfold txtV at I1
  clear hE hF
  by_cases h : 200 < n
  · have q : decide ((200 : Int) < (n : Int)) = true := decide_eq_true (by omega)
    have q2 : decide (200 < n) = true := decide_eq_true h
    clear I1 hT
    go_enter Tryd.func6, Tryd.ntmps6
    go_wp2_with fail
    refine (awake_any w (HE.out.below (Below.refl w.heap.size w))).mono ?_
    rintro e w9 ⟨rfl, hb9⟩
    go_wp2_with fail
    go_ret
    exact ⟨rfl, by have HBB := (Below.refl w.heap.size w); (repeat (first | (with_reducible exact Below.refl _ _) | (with_reducible assumption) | (with_reducible apply bl_alloc) | (with_reducible apply bl_drewN) | (with_reducible apply bl_drew) | (with_reducible refine bl_set ?_ (by first | (simp; done) | (simp; omega)) _) | (with_reducible refine bl_call ?_ (by assumption))))⟩
  · have q : decide ((200 : Int) < (n : Int)) = false := decide_eq_false (by omega)
    have q2 : decide (200 < n) = false := decide_eq_false h
    by_cases h0 : txtE l = 0
    · have hB := tok_back h0
      have hS := txt_size (l := l)
      rw [h0] at I1
      obtain ⟨S, hSS⟩ : ∃ S, txtS l = S := ⟨_, rfl⟩
      rw [hSS] at I1 hB hS
      have I2 := fun w1 (hb : Below w.heap.size w w1) => tokens_at (s := S) hB (by omega) w1 (HE.out.below hb)
      have HL := Lib.hid hT.1
      clear hT hB hS hSS h0
      go_enter Tryd.func6, Tryd.ntmps6
      go_wp2_with fail
      refine I1.mono ?_
      rintro e w1 ⟨rfl, hb1⟩
      have HB1 := Lib.hid hb1
      clear hb1 I1
      go_wp2_with fail
      refine (I2 w1 HB1.out).mono ?_
      rintro e w2 ⟨v2, rfl, ho2, hb2⟩
      obtain ⟨p2, c2, rfl, hT2, -, -⟩ := own_toks ho2
      have HB2 : Hid (Below w.heap.size w w2) := Lib.hid (by have HBB := HB1.out; (repeat (first | (with_reducible exact Below.refl _ _) | (with_reducible assumption) | (with_reducible apply bl_alloc) | (with_reducible apply bl_drewN) | (with_reducible apply bl_drew) | (with_reducible refine bl_set ?_ (by first | (simp; done) | (simp; omega)) _) | (with_reducible refine bl_call ?_ (by assumption)))))
      rw [HL.out] at hT2 ⊢
      have I3 := same_yes (c := c) (d := c2) w2 (HT.out.on HB2.out) hT2
      clear hb2 ho2 I2 hT2
      go_wp2_with fail
      refine I3.mono ?_
      rintro e w3 ⟨rfl, hb3⟩
      have HB3 : Hid (Below w.heap.size w w3) := Lib.hid (by have HBB := HB2.out; (repeat (first | (with_reducible exact Below.refl _ _) | (with_reducible assumption) | (with_reducible apply bl_alloc) | (with_reducible apply bl_drewN) | (with_reducible apply bl_drew) | (with_reducible refine bl_set ?_ (by first | (simp; done) | (simp; omega)) _) | (with_reducible refine bl_call ?_ (by assumption)))))
      clear hb3 I3
      go_wp2_with fail
      refine (awake_any w3 (HE.out.below HB3.out)).mono ?_
      rintro e w9 ⟨rfl, hb9⟩
      go_wp2_with fail
      go_ret
      exact ⟨rfl, by have HBB := HB3.out; (repeat (first | (with_reducible exact Below.refl _ _) | (with_reducible assumption) | (with_reducible apply bl_alloc) | (with_reducible apply bl_drewN) | (with_reducible apply bl_drew) | (with_reducible refine bl_set ?_ (by first | (simp; done) | (simp; omega)) _) | (with_reducible refine bl_call ?_ (by assumption))))⟩
    · obtain ⟨E, hE⟩ : ∃ E, txtE l = E := ⟨_, rfl⟩
      rw [hE] at I1 h0
      have q3 : (E == 0) = false := beq_eq_false_iff_ne.2 h0
      have q4 : (E != 0) = true := by simp only [bne, q3]; rfl
      clear hE hT h0
      go_enter Tryd.func6, Tryd.ntmps6
      go_wp2_with fail
      refine I1.mono ?_
      rintro e w1 ⟨rfl, hb1⟩
      go_wp2_with fail
      refine (awake_any w1 (HE.out.below hb1)).mono ?_
      rintro e w9 ⟨rfl, hb9⟩
      go_wp2_with fail
      go_ret
      exact ⟨rfl, by have HBB := hb1; (repeat (first | (with_reducible exact Below.refl _ _) | (with_reducible assumption) | (with_reducible apply bl_alloc) | (with_reducible apply bl_drewN) | (with_reducible apply bl_drew) | (with_reducible refine bl_set ?_ (by first | (simp; done) | (simp; omega)) _) | (with_reducible refine bl_call ?_ (by assumption))))⟩
end Go.Proofs.YtilnojcbebchdaaDoor.Lx
