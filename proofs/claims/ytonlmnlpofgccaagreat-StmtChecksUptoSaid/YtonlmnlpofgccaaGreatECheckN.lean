/-
  The contract of checkNode: the check of a node without its parts.
-/
import Derived.Test.YtonlmnlpofgccaaGreatESmall
import Derived.Test.YtonlmnlpofgccaaGreatNmCheck
namespace Go.Proofs.YtonlmnlpofgccaaGreat.Ex
open Go.RowKit
open Go.Proofs.YtonlmnlpofgccaaGreat.Na (bs bs_inj chk)
set_option maxHeartbeats 2000000
set_option linter.unusedVariables false
theorem nd_bad {c : Bool} {o n : Int} {s : List UInt8} {m : Nat} (h : badF c o s n m = true) : nd c o s n m = 1 := by unfold nd; rw [if_pos h]
theorem nd_one {c : Bool} {o n : Int} {s : List UInt8} {m : Nat} (h : known c o = false) : nd c o s n m = 1 := nd_bad (by unfold badF; rw [h]; simp)
theorem nd_two {c : Bool} {o n : Int} {s : List UInt8} {m : Nat} (h : known c o = true) (g : ¬ (m : Int) = usK o) : nd c o s n m = 1 := nd_bad (by unfold badF; rw [kids_ari h, decide_eq_false g]; simp)
theorem nd_three {c : Bool} {o n : Int} {s : List UInt8} {m : Nat} (h : known c o = true) (g : usN c o = false) (g2 : ¬ s = []) : nd c o s n m = 1 := nd_bad (by unfold badF; rw [← us_named h, g, decide_eq_false g2]; simp)
theorem nd_four {c : Bool} {o n : Int} {s : List UInt8} {m : Nat} (h : known c o = true) (g : usB c o = false) (g2 : ¬ n = 0) : nd c o s n m = 1 := nd_bad (by unfold badF; rw [← us_numbered h, g, decide_eq_false g2]; simp)
theorem nd_fair {c : Bool} {o n : Int} {s : List UInt8} {m : Nat} (h : known c o = true) (h1 : (m : Int) = usK o) (h2 : usN c o = true ∨ s = []) (h3 : usB c o = true ∨ n = 0) : nd c o s n m = if rgV o n = false then 2 else if usN c o = true then chk s else 0 := by
  have hf : badF c o s n m = false := by
    unfold badF
    rw [h, ← us_named h, ← us_numbered h, kids_ari h, decide_eq_true h1]
    rcases h2 with h2 | h2 <;> rcases h3 with h3 | h3 <;> simp [h2, h3]
  unfold nd
  rw [if_neg (by rw [hf]; decide), rg_bad hf, us_named h]
  cases badR c o n <;> simp
theorem emp_no {s : ByteArray} (h : ¬ bs s = []) : s.toList.isEmpty = false := by
  rw [Lib.toList_data]
  show (bs s).isEmpty = false
  cases g : bs s with
  | nil => exact absurd g h
  | cons x t => rfl
theorem emp_yes {s : ByteArray} (h : bs s = []) : s.toList.isEmpty = true := by
  rw [Lib.toList_data]
  show (bs s).isEmpty = true
  rw [h]; rfl
theorem check_gives {s : ByteArray} {x : Int} (h : chk (bs s) = x) (hs : s.size ≤ 9223372036854775807) (w : World) : Calls Tryz.prog 32 #[.string s] w (Gives (.int .i64 x) w) := by rw [← h]; exact Na.check_any s w hs
theorem usage_gives {c : Bool} {o K : Int} {a b kn : Bool} (h1 : usK o = K) (h2 : usN c o = a) (h3 : usB c o = b) (h4 : known c o = kn) (w : World) : Calls Tryz.prog 91 #[.int .i64 o, .bool c] w (Gives (.tuple #[.agg #[.int .i64 K, .bool a, .bool b], .bool kn]) w) := by
  rw [← h1, ← h2, ← h3, ← h4]
  exact usage_any c o w
theorem range_gives {o n : Int} {v : Bool} (h : rgV o n = v) (s : ByteArray) (p : Option Addr) (m c : Nat) (w : World) : Calls Tryz.prog 92 #[.agg #[.int .i64 o, .string s, .int .i64 n, .slice p m c]] w (Gives (.bool v) w) := by
  rw [← h]
  exact range_any o s n p m c w
set_option maxRecDepth 100000 in
theorem cn_any (c : Bool) (o : Int) (s : ByteArray) (n : Int) (p : Option Addr) (m c' : Nat) (w : World) (hs : s.size ≤ 140737488355328) : Calls Tryz.prog 72 #[.agg #[.int .i64 o, .string s, .int .i64 n, .slice p m c'], .bool c] w (Gives (.int .i64 (nd c o (bs s) n m)) w) := by
  obtain ⟨K, hK⟩ : ∃ K, usK o = K := ⟨_, rfl⟩
  obtain ⟨a, ha⟩ : ∃ a, usN c o = a := ⟨_, rfl⟩
  obtain ⟨b, hb⟩ : ∃ b, usB c o = b := ⟨_, rfl⟩
  obtain ⟨kn, hk⟩ : ∃ kn, known c o = kn := ⟨_, rfl⟩
  have HU := Lib.hid (fun W => usage_gives hK ha hb hk W)
  cases kn with
  | false =>
    rw [nd_one hk]
    clear hK ha hb hk
    go_enter Tryz.func72, Tryz.ntmps72
    go_wp2_with fail
    refine (HU.out _).mono ?_
    rintro e w1 ⟨rfl, hb1⟩
    have q1 : w.heap.size < w1.heap.size := by have := hb1.size; simp at this; omega
    have cc1 := (hb1.cell (p := ⟨w.heap.size, 1, none⟩) (by simp)).trans box_new.2.1
    have cc0 := (hb1.cell (p := ⟨w.heap.size, 0, none⟩) (by simp)).trans box_new.1
    have cc2 := (hb1.cell (p := ⟨w.heap.size, 2, none⟩) (by simp)).trans box_new.2.2.1
    have cc3 := (hb1.cell (p := ⟨w.heap.size, 3, none⟩) (by simp)).trans box_new.2.2.2
    go_wp2_with fail
    go_ret
    exact ⟨rfl, by (repeat (first | (with_reducible exact Below.refl _ _) | (with_reducible assumption) | (with_reducible apply bl_alloc) | (with_reducible apply bl_drewN) | (with_reducible apply bl_drew) | (with_reducible refine bl_set ?_ (by first | (simp; done) | (simp; omega)) _) | (with_reducible refine bl_call ?_ (by assumption))))⟩
  | true =>
    by_cases h1 : (m : Int) = K
    · subst h1
      have t1 : ((m : Int) == (m : Int)) = true := beq_self_eq_true _
      have key : ∀ (aa : a = true ∨ bs s = []) (bb : b = true ∨ n = 0), nd c o (bs s) n m = if rgV o n = false then 2 else if usN c o = true then chk (bs s) else 0 := fun aa bb => nd_fair hk hK.symm (by rw [ha]; exact aa) (by rw [hb]; exact bb)
      by_cases h3 : a = false ∧ ¬ bs s = []
      · rw [nd_three hk (by rw [ha]; exact h3.1) h3.2]
        obtain ⟨rfl, h3⟩ := h3
        have t3 := emp_no h3
        clear hK ha hb hk h3 key
        go_enter Tryz.func72, Tryz.ntmps72
        go_wp2_with fail
        refine (HU.out _).mono ?_
        rintro e w1 ⟨rfl, hb1⟩
        have q1 : w.heap.size < w1.heap.size := by have := hb1.size; simp at this; omega
        have cc1 := (hb1.cell (p := ⟨w.heap.size, 1, none⟩) (by simp)).trans box_new.2.1
        have cc0 := (hb1.cell (p := ⟨w.heap.size, 0, none⟩) (by simp)).trans box_new.1
        have cc2 := (hb1.cell (p := ⟨w.heap.size, 2, none⟩) (by simp)).trans box_new.2.2.1
        have cc3 := (hb1.cell (p := ⟨w.heap.size, 3, none⟩) (by simp)).trans box_new.2.2.2
        go_wp2_with fail
        go_ret
        exact ⟨rfl, by (repeat (first | (with_reducible exact Below.refl _ _) | (with_reducible assumption) | (with_reducible apply bl_alloc) | (with_reducible apply bl_drewN) | (with_reducible apply bl_drew) | (with_reducible refine bl_set ?_ (by first | (simp; done) | (simp; omega)) _) | (with_reducible refine bl_call ?_ (by assumption))))⟩
      · by_cases h4 : b = false ∧ ¬ n = 0
        · rw [nd_four hk (by rw [hb]; exact h4.1) h4.2]
          obtain ⟨rfl, h4⟩ := h4
          have t4 : (n == 0) = false := beq_eq_false_iff_ne.2 h4
          cases a with
          | true =>
            clear hK ha hb hk h3 h4 key
            go_enter Tryz.func72, Tryz.ntmps72
            go_wp2_with fail
            refine (HU.out _).mono ?_
            rintro e w1 ⟨rfl, hb1⟩
            have q1 : w.heap.size < w1.heap.size := by have := hb1.size; simp at this; omega
            have cc1 := (hb1.cell (p := ⟨w.heap.size, 1, none⟩) (by simp)).trans box_new.2.1
            have cc0 := (hb1.cell (p := ⟨w.heap.size, 0, none⟩) (by simp)).trans box_new.1
            have cc2 := (hb1.cell (p := ⟨w.heap.size, 2, none⟩) (by simp)).trans box_new.2.2.1
            have cc3 := (hb1.cell (p := ⟨w.heap.size, 3, none⟩) (by simp)).trans box_new.2.2.2
            go_wp2_with fail
            go_ret
            exact ⟨rfl, by (repeat (first | (with_reducible exact Below.refl _ _) | (with_reducible assumption) | (with_reducible apply bl_alloc) | (with_reducible apply bl_drewN) | (with_reducible apply bl_drew) | (with_reducible refine bl_set ?_ (by first | (simp; done) | (simp; omega)) _) | (with_reducible refine bl_call ?_ (by assumption))))⟩
          | false =>
            have t3 := emp_yes (s := s) (Classical.byContradiction fun h => h3 ⟨rfl, h⟩)
            clear hK ha hb hk h3 h4 key
            go_enter Tryz.func72, Tryz.ntmps72
            go_wp2_with fail
            refine (HU.out _).mono ?_
            rintro e w1 ⟨rfl, hb1⟩
            have q1 : w.heap.size < w1.heap.size := by have := hb1.size; simp at this; omega
            have cc1 := (hb1.cell (p := ⟨w.heap.size, 1, none⟩) (by simp)).trans box_new.2.1
            have cc0 := (hb1.cell (p := ⟨w.heap.size, 0, none⟩) (by simp)).trans box_new.1
            have cc2 := (hb1.cell (p := ⟨w.heap.size, 2, none⟩) (by simp)).trans box_new.2.2.1
            have cc3 := (hb1.cell (p := ⟨w.heap.size, 3, none⟩) (by simp)).trans box_new.2.2.2
            go_wp2_with fail
            go_ret
            exact ⟨rfl, by (repeat (first | (with_reducible exact Below.refl _ _) | (with_reducible assumption) | (with_reducible apply bl_alloc) | (with_reducible apply bl_drewN) | (with_reducible apply bl_drew) | (with_reducible refine bl_set ?_ (by first | (simp; done) | (simp; omega)) _) | (with_reducible refine bl_call ?_ (by assumption))))⟩
        · rw [key (by cases a with | true => exact .inl rfl | false => exact .inr (Classical.byContradiction fun h => h3 ⟨rfl, h⟩)) (by cases b with | true => exact .inl rfl | false => exact .inr (Classical.byContradiction fun h => h4 ⟨rfl, h⟩)), ha]
          obtain ⟨v, hv⟩ : ∃ v, rgV o n = v := ⟨_, rfl⟩
          have HR := Lib.hid (fun W => range_gives hv s p m c' W)
          have HC := Lib.hid (fun W => check_gives (s := s) rfl (by omega) W)
          obtain ⟨x, hx⟩ : ∃ x, chk (bs s) = x := ⟨_, rfl⟩
          rw [hx] at HC ⊢
          rw [hv]
          cases a with
          | true =>
            cases b with
            | true =>
              clear hK ha hb hk h3 h4 key hv hx
              cases v with
              | false =>
                go_enter Tryz.func72, Tryz.ntmps72
                go_wp2_with fail
                refine (HU.out _).mono ?_
                rintro e w1 ⟨rfl, hb1⟩
                have q1 : w.heap.size < w1.heap.size := by have := hb1.size; simp at this; omega
                have cc1 := (hb1.cell (p := ⟨w.heap.size, 1, none⟩) (by simp)).trans box_new.2.1
                have cc0 := (hb1.cell (p := ⟨w.heap.size, 0, none⟩) (by simp)).trans box_new.1
                have cc2 := (hb1.cell (p := ⟨w.heap.size, 2, none⟩) (by simp)).trans box_new.2.2.1
                have cc3 := (hb1.cell (p := ⟨w.heap.size, 3, none⟩) (by simp)).trans box_new.2.2.2
                go_wp2_with fail
                refine (HR.out _).mono ?_
                rintro e w2 ⟨rfl, hb2⟩
                go_wp2_with fail
                go_ret
                exact ⟨rfl, by (repeat (first | (with_reducible exact Below.refl _ _) | (with_reducible assumption) | (with_reducible apply bl_alloc) | (with_reducible apply bl_drewN) | (with_reducible apply bl_drew) | (with_reducible refine bl_set ?_ (by first | (simp; done) | (simp; omega)) _) | (with_reducible refine bl_call ?_ (by assumption))))⟩
              | true =>
                go_enter Tryz.func72, Tryz.ntmps72
                go_wp2_with fail
                refine (HU.out _).mono ?_
                rintro e w1 ⟨rfl, hb1⟩
                have q1 : w.heap.size < w1.heap.size := by have := hb1.size; simp at this; omega
                have cc1 := (hb1.cell (p := ⟨w.heap.size, 1, none⟩) (by simp)).trans box_new.2.1
                have cc0 := (hb1.cell (p := ⟨w.heap.size, 0, none⟩) (by simp)).trans box_new.1
                have cc2 := (hb1.cell (p := ⟨w.heap.size, 2, none⟩) (by simp)).trans box_new.2.2.1
                have cc3 := (hb1.cell (p := ⟨w.heap.size, 3, none⟩) (by simp)).trans box_new.2.2.2
                go_wp2_with fail
                refine (HR.out _).mono ?_
                rintro e w2 ⟨rfl, hb2⟩
                have q2 : w1.heap.size < w2.heap.size := by have := hb2.size; simp at this; omega
                have dd1 : w2.cell? ⟨w1.heap.size, 1, none⟩ = some (.bool true) := (hb2.cell (by simp)).trans (by simp)
                have dd2 : w2.cell? ⟨w.heap.size, 1, none⟩ = some (.string s) := (hb2.cell (by simp; omega)).trans ((((Below.refl _ w1).alloc (Nat.le_refl _) _).cell (by simp; omega)).trans cc1)
                go_wp2_with fail
                refine (HC.out _).mono ?_
                rintro e w3 ⟨rfl, hb3⟩
                go_wp2_with fail
                go_ret
                exact ⟨rfl, by (repeat (first | (with_reducible exact Below.refl _ _) | (with_reducible assumption) | (with_reducible apply bl_alloc) | (with_reducible apply bl_drewN) | (with_reducible apply bl_drew) | (with_reducible refine bl_set ?_ (by first | (simp; done) | (simp; omega)) _) | (with_reducible refine bl_call ?_ (by assumption))))⟩
            | false =>
              obtain rfl : n = 0 := Classical.byContradiction fun h => h4 ⟨rfl, h⟩
              clear hK ha hb hk h3 h4 key hv hx
              cases v with
              | false =>
                go_enter Tryz.func72, Tryz.ntmps72
                go_wp2_with fail
                refine (HU.out _).mono ?_
                rintro e w1 ⟨rfl, hb1⟩
                have q1 : w.heap.size < w1.heap.size := by have := hb1.size; simp at this; omega
                have cc1 := (hb1.cell (p := ⟨w.heap.size, 1, none⟩) (by simp)).trans box_new.2.1
                have cc0 := (hb1.cell (p := ⟨w.heap.size, 0, none⟩) (by simp)).trans box_new.1
                have cc2 := (hb1.cell (p := ⟨w.heap.size, 2, none⟩) (by simp)).trans box_new.2.2.1
                have cc3 := (hb1.cell (p := ⟨w.heap.size, 3, none⟩) (by simp)).trans box_new.2.2.2
                go_wp2_with fail
                refine (HR.out _).mono ?_
                rintro e w2 ⟨rfl, hb2⟩
                go_wp2_with fail
                go_ret
                exact ⟨rfl, by (repeat (first | (with_reducible exact Below.refl _ _) | (with_reducible assumption) | (with_reducible apply bl_alloc) | (with_reducible apply bl_drewN) | (with_reducible apply bl_drew) | (with_reducible refine bl_set ?_ (by first | (simp; done) | (simp; omega)) _) | (with_reducible refine bl_call ?_ (by assumption))))⟩
              | true =>
                go_enter Tryz.func72, Tryz.ntmps72
                go_wp2_with fail
                refine (HU.out _).mono ?_
                rintro e w1 ⟨rfl, hb1⟩
                have q1 : w.heap.size < w1.heap.size := by have := hb1.size; simp at this; omega
                have cc1 := (hb1.cell (p := ⟨w.heap.size, 1, none⟩) (by simp)).trans box_new.2.1
                have cc0 := (hb1.cell (p := ⟨w.heap.size, 0, none⟩) (by simp)).trans box_new.1
                have cc2 := (hb1.cell (p := ⟨w.heap.size, 2, none⟩) (by simp)).trans box_new.2.2.1
                have cc3 := (hb1.cell (p := ⟨w.heap.size, 3, none⟩) (by simp)).trans box_new.2.2.2
                go_wp2_with fail
                refine (HR.out _).mono ?_
                rintro e w2 ⟨rfl, hb2⟩
                have q2 : w1.heap.size < w2.heap.size := by have := hb2.size; simp at this; omega
                have dd1 : w2.cell? ⟨w1.heap.size, 1, none⟩ = some (.bool true) := (hb2.cell (by simp)).trans (by simp)
                have dd2 : w2.cell? ⟨w.heap.size, 1, none⟩ = some (.string s) := (hb2.cell (by simp; omega)).trans ((((Below.refl _ w1).alloc (Nat.le_refl _) _).cell (by simp; omega)).trans cc1)
                go_wp2_with fail
                refine (HC.out _).mono ?_
                rintro e w3 ⟨rfl, hb3⟩
                go_wp2_with fail
                go_ret
                exact ⟨rfl, by (repeat (first | (with_reducible exact Below.refl _ _) | (with_reducible assumption) | (with_reducible apply bl_alloc) | (with_reducible apply bl_drewN) | (with_reducible apply bl_drew) | (with_reducible refine bl_set ?_ (by first | (simp; done) | (simp; omega)) _) | (with_reducible refine bl_call ?_ (by assumption))))⟩
          | false =>
            have t3 := emp_yes (s := s) (Classical.byContradiction fun h => h3 ⟨rfl, h⟩)
            cases b with
            | true =>
              clear hK ha hb hk h3 h4 key hv hx
              cases v with
              | false =>
                go_enter Tryz.func72, Tryz.ntmps72
                go_wp2_with fail
                refine (HU.out _).mono ?_
                rintro e w1 ⟨rfl, hb1⟩
                have q1 : w.heap.size < w1.heap.size := by have := hb1.size; simp at this; omega
                have cc1 := (hb1.cell (p := ⟨w.heap.size, 1, none⟩) (by simp)).trans box_new.2.1
                have cc0 := (hb1.cell (p := ⟨w.heap.size, 0, none⟩) (by simp)).trans box_new.1
                have cc2 := (hb1.cell (p := ⟨w.heap.size, 2, none⟩) (by simp)).trans box_new.2.2.1
                have cc3 := (hb1.cell (p := ⟨w.heap.size, 3, none⟩) (by simp)).trans box_new.2.2.2
                go_wp2_with fail
                refine (HR.out _).mono ?_
                rintro e w2 ⟨rfl, hb2⟩
                go_wp2_with fail
                go_ret
                exact ⟨rfl, by (repeat (first | (with_reducible exact Below.refl _ _) | (with_reducible assumption) | (with_reducible apply bl_alloc) | (with_reducible apply bl_drewN) | (with_reducible apply bl_drew) | (with_reducible refine bl_set ?_ (by first | (simp; done) | (simp; omega)) _) | (with_reducible refine bl_call ?_ (by assumption))))⟩
              | true =>
                go_enter Tryz.func72, Tryz.ntmps72
                go_wp2_with fail
                refine (HU.out _).mono ?_
                rintro e w1 ⟨rfl, hb1⟩
                have q1 : w.heap.size < w1.heap.size := by have := hb1.size; simp at this; omega
                have cc1 := (hb1.cell (p := ⟨w.heap.size, 1, none⟩) (by simp)).trans box_new.2.1
                have cc0 := (hb1.cell (p := ⟨w.heap.size, 0, none⟩) (by simp)).trans box_new.1
                have cc2 := (hb1.cell (p := ⟨w.heap.size, 2, none⟩) (by simp)).trans box_new.2.2.1
                have cc3 := (hb1.cell (p := ⟨w.heap.size, 3, none⟩) (by simp)).trans box_new.2.2.2
                go_wp2_with fail
                refine (HR.out _).mono ?_
                rintro e w2 ⟨rfl, hb2⟩
                have q2 : w1.heap.size < w2.heap.size := by have := hb2.size; simp at this; omega
                have dd1 : w2.cell? ⟨w1.heap.size, 1, none⟩ = some (.bool false) := (hb2.cell (by simp)).trans (by simp)
                go_wp2_with fail
                go_ret
                exact ⟨rfl, by (repeat (first | (with_reducible exact Below.refl _ _) | (with_reducible assumption) | (with_reducible apply bl_alloc) | (with_reducible apply bl_drewN) | (with_reducible apply bl_drew) | (with_reducible refine bl_set ?_ (by first | (simp; done) | (simp; omega)) _) | (with_reducible refine bl_call ?_ (by assumption))))⟩
            | false =>
              obtain rfl : n = 0 := Classical.byContradiction fun h => h4 ⟨rfl, h⟩
              clear hK ha hb hk h3 h4 key hv hx
              cases v with
              | false =>
                go_enter Tryz.func72, Tryz.ntmps72
                go_wp2_with fail
                refine (HU.out _).mono ?_
                rintro e w1 ⟨rfl, hb1⟩
                have q1 : w.heap.size < w1.heap.size := by have := hb1.size; simp at this; omega
                have cc1 := (hb1.cell (p := ⟨w.heap.size, 1, none⟩) (by simp)).trans box_new.2.1
                have cc0 := (hb1.cell (p := ⟨w.heap.size, 0, none⟩) (by simp)).trans box_new.1
                have cc2 := (hb1.cell (p := ⟨w.heap.size, 2, none⟩) (by simp)).trans box_new.2.2.1
                have cc3 := (hb1.cell (p := ⟨w.heap.size, 3, none⟩) (by simp)).trans box_new.2.2.2
                go_wp2_with fail
                refine (HR.out _).mono ?_
                rintro e w2 ⟨rfl, hb2⟩
                go_wp2_with fail
                go_ret
                exact ⟨rfl, by (repeat (first | (with_reducible exact Below.refl _ _) | (with_reducible assumption) | (with_reducible apply bl_alloc) | (with_reducible apply bl_drewN) | (with_reducible apply bl_drew) | (with_reducible refine bl_set ?_ (by first | (simp; done) | (simp; omega)) _) | (with_reducible refine bl_call ?_ (by assumption))))⟩
              | true =>
                go_enter Tryz.func72, Tryz.ntmps72
                go_wp2_with fail
                refine (HU.out _).mono ?_
                rintro e w1 ⟨rfl, hb1⟩
                have q1 : w.heap.size < w1.heap.size := by have := hb1.size; simp at this; omega
                have cc1 := (hb1.cell (p := ⟨w.heap.size, 1, none⟩) (by simp)).trans box_new.2.1
                have cc0 := (hb1.cell (p := ⟨w.heap.size, 0, none⟩) (by simp)).trans box_new.1
                have cc2 := (hb1.cell (p := ⟨w.heap.size, 2, none⟩) (by simp)).trans box_new.2.2.1
                have cc3 := (hb1.cell (p := ⟨w.heap.size, 3, none⟩) (by simp)).trans box_new.2.2.2
                go_wp2_with fail
                refine (HR.out _).mono ?_
                rintro e w2 ⟨rfl, hb2⟩
                have q2 : w1.heap.size < w2.heap.size := by have := hb2.size; simp at this; omega
                have dd1 : w2.cell? ⟨w1.heap.size, 1, none⟩ = some (.bool false) := (hb2.cell (by simp)).trans (by simp)
                go_wp2_with fail
                go_ret
                exact ⟨rfl, by (repeat (first | (with_reducible exact Below.refl _ _) | (with_reducible assumption) | (with_reducible apply bl_alloc) | (with_reducible apply bl_drewN) | (with_reducible apply bl_drew) | (with_reducible refine bl_set ?_ (by first | (simp; done) | (simp; omega)) _) | (with_reducible refine bl_call ?_ (by assumption))))⟩
    · rw [nd_two hk (by rw [hK]; exact h1)]
      have t1 : ((m : Int) == K) = false := beq_eq_false_iff_ne.2 h1
      have t2 : ((m : Int) != K) = true := bne_iff_ne.2 h1
      clear hK ha hb hk h1
      go_enter Tryz.func72, Tryz.ntmps72
      go_wp2_with fail
      refine (HU.out _).mono ?_
      rintro e w1 ⟨rfl, hb1⟩
      have q1 : w.heap.size < w1.heap.size := by have := hb1.size; simp at this; omega
      have cc1 := (hb1.cell (p := ⟨w.heap.size, 1, none⟩) (by simp)).trans box_new.2.1
      have cc0 := (hb1.cell (p := ⟨w.heap.size, 0, none⟩) (by simp)).trans box_new.1
      have cc2 := (hb1.cell (p := ⟨w.heap.size, 2, none⟩) (by simp)).trans box_new.2.2.1
      have cc3 := (hb1.cell (p := ⟨w.heap.size, 3, none⟩) (by simp)).trans box_new.2.2.2
      go_wp2_with fail
      go_ret
      exact ⟨rfl, by (repeat (first | (with_reducible exact Below.refl _ _) | (with_reducible assumption) | (with_reducible apply bl_alloc) | (with_reducible apply bl_drewN) | (with_reducible apply bl_drew) | (with_reducible refine bl_set ?_ (by first | (simp; done) | (simp; omega)) _) | (with_reducible refine bl_call ?_ (by assumption))))⟩
end Go.Proofs.YtonlmnlpofgccaaGreat.Ex
