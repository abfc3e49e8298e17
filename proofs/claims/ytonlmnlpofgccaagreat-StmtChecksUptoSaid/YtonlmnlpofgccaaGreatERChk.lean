/-
  Several parts of this proof in one text.
-/
import Derived.Test.YtonlmnlpofgccaaGreatESmall
import Derived.Test.YtonlmnlpofgccaaGreatERNode
import Derived.Test.YtonlmnlpofgccaaGreatNmRCheck
/-
  The contract of the reference's check of a node and its parts, and of the reference's Check and CheckCode.
-/
namespace Go.Proofs.YtonlmnlpofgccaaGreat.Ex
open Go.RowKit
open Go.Proofs.YtonlmnlpofgccaaGreat.Na (bs bs_inj chk)
set_option maxHeartbeats 4000000
set_option linter.unusedVariables false
theorem bad_mk {c : Bool} {o n : Int} {s : ByteArray} {l : List Ex} : bad c (pre (.mk o s n l)) = if nd c o (bs s) n l.length = 0 then bad c (preL l) else nd c o (bs s) n l.length := by rw [pre_one, bad]; rfl
theorem badL_step {c : Bool} {l : List Ex} {k : Nat} {x : Ex} (hx : l[k]? = some x) (h : bad c (preL (l.take k)) = 0) : bad c (preL (l.take (k + 1))) = bad c (pre x) := by rw [preL_take hx, bad_app_yes h]
theorem badL_stop {c : Bool} {l : List Ex} {k : Nat} {x : Ex} (hx : l[k]? = some x) (h : bad c (preL (l.take k)) = 0) (g : ¬ bad c (pre x) = 0) : bad c (preL l) = bad c (pre x) := by
  have h1 := badL_step hx h
  have h2 := preL_app (l.take (k + 1)) (l.drop (k + 1))
  rw [List.take_append_drop] at h2
  rw [h2, bad_app_no (by rw [h1]; exact g), h1]
theorem emp_no' {s : ByteArray} (h : ¬ bs s = []) : s.toList.isEmpty = false := by
  rw [Lib.toList_data]
  show (bs s).isEmpty = false
  cases g : bs s with
  | nil => exact absurd g h
  | cons x t => rfl
theorem emp_yes' {s : ByteArray} (h : bs s = []) : s.toList.isEmpty = true := by
  rw [Lib.toList_data]
  show (bs s).isEmpty = true
  rw [h]; rfl
theorem box4_drewN {w : World} {g : Nat} {o : Int} {s : ByteArray} {n : Int} {p : Option Addr} {m c : Nat} (h : box4 w g o s n p m c) (k : Nat) : box4 (w.drewN k) g o s n p m c := h
theorem arity_gives {o x : Int} (h : ari o = x) (w : World) : Calls Tryz.prog 102 #[.int .i64 o] w fun e w' => e = .returned (.int .i64 x) ∧ w' = w := by rw [← h]; exact arity_any o w
theorem object_gives {o : Int} {x : Bool} (h : obj o = x) (w : World) : Calls Tryz.prog 103 #[.int .i64 o] w fun e w' => e = .returned (.bool x) ∧ w' = w := by rw [← h]; exact object_any o w
theorem rcheck_gives {s : ByteArray} {x : Int} (h : chk (bs s) = x) (hs : s.size ≤ 9223372036854775807) (w : World) : Calls Tryz.prog 54 #[.string s] w (Gives (.int .i64 x) w) := by rw [← h]; exact Na.rcheck_any s w hs
theorem most_gives {o x : Int} (h : most o = x) (w : World) : Calls Tryz.prog 105 #[.int .i64 o] w fun e w' => e = .returned (.int .i64 x) ∧ w' = w := by rw [← h]; exact most_any o w
theorem rin_gives {n : Int} {x : Bool} (h : inI n = x) (w : World) : Calls Tryz.prog 104 #[.int .i64 n] w fun e w' => e = .returned (.bool x) ∧ w' = w := by rw [← h]; exact rin_any n w
section
variable {c : Bool} {o n : Int} {s : List UInt8} {m : Nat}
theorem nb_bad (h : badF c o s n m = true) : nd c o s n m = 1 := by unfold nd; rw [if_pos h]
theorem nb_kn (h : known c o = false) : nd c o s n m = 1 := nb_bad (by unfold badF; rw [h]; simp)
theorem nb_s (h : named c o = false) (g : ¬ s = []) : nd c o s n m = 1 := nb_bad (by unfold badF; rw [h, decide_eq_false g]; simp)
theorem nb_n (h : numbered c o = false) (g : ¬ n = 0) : nd c o s n m = 1 := nb_bad (by unfold badF; rw [h, decide_eq_false g]; simp)
theorem nb_m {A : Int} (h : ari o = A) (g : ¬ (m : Int) = A) : nd c o s n m = 1 := nb_bad (by unfold badF; rw [h, decide_eq_false g]; simp)
theorem nb_fair {a b : Bool} {A : Int} (h : known c o = true) (hn : named c o = a) (hb : numbered c o = b) (hA : ari o = A) (h1 : a = true ∨ s = []) (h2 : b = true ∨ n = 0) (h3 : (m : Int) = A) : nd c o s n m = if badR c o n then 2 else if a then chk s else 0 := by
  have hf : badF c o s n m = false := by
    unfold badF
    rw [h, hn, hb, hA, decide_eq_true h3]
    rcases h1 with h1 | h1 <;> rcases h2 with h2 | h2 <;> simp [h1, h2]
  unfold nd
  rw [if_neg (by rw [hf]; decide), hn]
end
def IHn (cc : Bool) (l : List Ex) : Prop := ∀ x ∈ l, ∀ (p : Option Addr) (m c : Nat) (w : World), In w x p m → Sz x → Calls Tryz.prog 101 #[.agg #[.int .i64 x.o, .string x.s, .int .i64 x.n, .slice p m c], .bool cc] w (Gives (.int .i64 (bad cc (pre x))) w)
end Go.Proofs.YtonlmnlpofgccaaGreat.Ex

/-
  The reference's check of a node, by forms: OneF, OneT, LowF, HighF.
-/
namespace Go.Proofs.YtonlmnlpofgccaaGreat.Ex
open Go.RowKit
open Go.Proofs.YtonlmnlpofgccaaGreat.Na (bs bs_inj chk)
set_option maxHeartbeats 4000000
set_option linter.unusedVariables false
set_option linter.unusedSimpArgs false
set_option maxRecDepth 100000 in
theorem rn_OneF (l : List Ex) (ih : IHn false l) (s : ByteArray) (n : Int) (p : Option Addr) (m c : Nat) (w : World) (h : In w (.mk (1) s n l) p m) (hs : Sz (.mk (1) s n l)) : Calls Tryz.prog 101 #[.agg #[.int .i64 (1), .string s, .int .i64 n, .slice p m c], .bool false] w (Gives (.int .i64 (bad false (pre (.mk (1) s n l)))) w) := by
  have HH := Lib.hid h
  have HI := Lib.hid ih
  obtain ⟨hl, hm⟩ := h.len
  have HL := Lib.hid hl
  have HS := Lib.hid hs
  have hsz := hs.self
  rw [bad_mk, hl]
  clear ih h hl hs
  have hA : ari (1) = 0 := rfl
  have hB : obj (1) = false := rfl
  have HA := Lib.hid (fun W => arity_gives hA W)
  have HB := Lib.hid (fun W => object_gives hB W)
  have hkn : known false (1) = true := rfl
  have hnm : named false (1) = false := rfl
  have hct : counted false (1) = false := rfl
  have hnb : numbered false (1) = true := rfl
  by_cases hs0 : bs s = []
  rotate_left
  · have e0 := emp_no' hs0
    have HV := Lib.hid (show nd false (1) (bs s) n m = 1 from nb_s hnm hs0)
    rw [HV.out, if_neg (by decide)]
    clear hkn hnm hct hnb hA hB hs0
    go_enter Tryz.func101, Tryz.ntmps101
    go_wp2_with (first | (go_at_call 102; refine (HA.out _).mono ?_; rintro e w1 ⟨rfl, rfl⟩) | (go_at_call 103; refine (HB.out _).mono ?_; rintro e w1 ⟨rfl, rfl⟩))
    go_ret
    exact ⟨rfl, by (repeat (first | (with_reducible exact Below.refl _ _) | (with_reducible assumption) | (with_reducible apply bl_alloc) | (with_reducible apply bl_drewN) | (with_reducible apply bl_drew) | (with_reducible refine bl_set ?_ (by first | (simp; done) | (simp; omega)) _) | (with_reducible refine bl_call ?_ (by assumption))))⟩
  have e0 := emp_yes' hs0
  by_cases hmA : (m : Int) = 0
  rotate_left
  · have g0 : ((m : Int) == 0) = false := beq_eq_false_iff_ne.2 hmA
    have g1 : ((m : Int) != 0) = true := bne_iff_ne.2 hmA
    have HV := Lib.hid (show nd false (1) (bs s) n m = 1 from nb_m hA hmA)
    rw [HV.out, if_neg (by decide)]
    clear hkn hnm hct hnb hA hB hs0
    go_enter Tryz.func101, Tryz.ntmps101
    go_wp2_with (first | (go_at_call 102; refine (HA.out _).mono ?_; rintro e w1 ⟨rfl, rfl⟩) | (go_at_call 103; refine (HB.out _).mono ?_; rintro e w1 ⟨rfl, rfl⟩))
    go_ret
    exact ⟨rfl, by (repeat (first | (with_reducible exact Below.refl _ _) | (with_reducible assumption) | (with_reducible apply bl_alloc) | (with_reducible apply bl_drewN) | (with_reducible apply bl_drew) | (with_reducible refine bl_set ?_ (by first | (simp; done) | (simp; omega)) _) | (with_reducible refine bl_call ?_ (by assumption))))⟩
  obtain rfl : m = 0 := by omega
  have hfair := nb_fair (s := bs s) (n := n) (m := 0) hkn hnm hnb hA (.inr hs0) (.inl rfl) rfl
  cases hv : inI n with
  | true =>
    have HIN := Lib.hid (fun W => rin_gives hv W)
    have hR : badR false (1) n = false := by unfold badR; rw [hct, hv]; rfl
    rw [hfair.trans (show _ = (0 : Int) by rw [hR]; rfl), if_pos rfl]
    clear hkn hnm hct hnb hA hB hfair hs0 hR hv
    go_enter Tryz.func101, Tryz.ntmps101
    go_wp2_with (first | (go_at_call 102; refine (HA.out _).mono ?_; rintro e w1 ⟨rfl, rfl⟩) | (go_at_call 103; refine (HB.out _).mono ?_; rintro e w1 ⟨rfl, rfl⟩))
    go_quiet ((go_at_call 104; exact Calls.quiet_of_same (HIN.out _)))
    go_wp2_with fail
    go_loopw [10] (fun i wr => ∃ k : Nat, k ≤ 0 ∧ Hid (bad false (preL (l.take k)) = 0) ∧ i = .int .i64 (k : Nat) ∧ Hid (Below w.heap.size w wr) ∧ Hid (box4 wr w.heap.size (1) s n p 0 c)) (fun i _ => 0 - (intOf i).toNat)
    case atStart => exact ⟨0, Nat.zero_le _, Lib.hid (by rw [List.take_zero, preL, bad]), rfl, Lib.hid (by (repeat (first | (with_reducible exact Below.refl _ _) | (with_reducible assumption) | (with_reducible apply bl_alloc) | (with_reducible apply bl_drewN) | (with_reducible apply bl_drew) | (with_reducible refine bl_set ?_ (by first | (simp; done) | (simp; omega)) _) | (with_reducible refine bl_call ?_ (by assumption))))), Lib.hid box_new⟩
    case round =>
      obtain ⟨k, hk, HT0, rfl, HW, HB4⟩ := hrel
      obtain ⟨b0, b1, b2, b3⟩ := HB4.out
      obtain rfl : k = 0 := by omega
      have hl0 : l = [] := List.length_eq_zero_iff.1 HL.out
      have HR : Hid (bad false (preL l) = 0) := Lib.hid (by rw [hl0, preL, bad])
      clear hl0
      go_wp2_with fail
      go_ret
      exact ⟨by rw [HR.out]; rfl, HW.out⟩
  | false =>
    have HIN := Lib.hid (fun W => rin_gives hv W)
    have hR : badR false (1) n = true := by unfold badR; rw [hct, hv]; rfl
    rw [hfair.trans (show _ = (2 : Int) by rw [hR]; rfl), if_neg (by decide)]
    clear hkn hnm hct hnb hA hB hfair hs0 hR hv
    go_enter Tryz.func101, Tryz.ntmps101
    go_wp2_with (first | (go_at_call 102; refine (HA.out _).mono ?_; rintro e w1 ⟨rfl, rfl⟩) | (go_at_call 103; refine (HB.out _).mono ?_; rintro e w1 ⟨rfl, rfl⟩))
    go_quiet ((go_at_call 104; exact Calls.quiet_of_same (HIN.out _)))
    go_wp2_with fail
    go_ret
    exact ⟨rfl, by (repeat (first | (with_reducible exact Below.refl _ _) | (with_reducible assumption) | (with_reducible apply bl_alloc) | (with_reducible apply bl_drewN) | (with_reducible apply bl_drew) | (with_reducible refine bl_set ?_ (by first | (simp; done) | (simp; omega)) _) | (with_reducible refine bl_call ?_ (by assumption))))⟩
set_option maxRecDepth 100000 in
theorem rn_OneT (l : List Ex) (ih : IHn true l) (s : ByteArray) (n : Int) (p : Option Addr) (m c : Nat) (w : World) (h : In w (.mk (1) s n l) p m) (hs : Sz (.mk (1) s n l)) : Calls Tryz.prog 101 #[.agg #[.int .i64 (1), .string s, .int .i64 n, .slice p m c], .bool true] w (Gives (.int .i64 (bad true (pre (.mk (1) s n l)))) w) := by
  have HH := Lib.hid h
  have HI := Lib.hid ih
  obtain ⟨hl, hm⟩ := h.len
  have HL := Lib.hid hl
  have HS := Lib.hid hs
  have hsz := hs.self
  rw [bad_mk, hl]
  clear ih h hl hs
  have hA : ari (1) = 0 := rfl
  have hB : obj (1) = false := rfl
  have HA := Lib.hid (fun W => arity_gives hA W)
  have HB := Lib.hid (fun W => object_gives hB W)
  have hkn : known true (1) = true := rfl
  have hnm : named true (1) = false := rfl
  have hct : counted true (1) = false := rfl
  have hnb : numbered true (1) = true := rfl
  by_cases hs0 : bs s = []
  rotate_left
  · have e0 := emp_no' hs0
    have HV := Lib.hid (show nd true (1) (bs s) n m = 1 from nb_s hnm hs0)
    rw [HV.out, if_neg (by decide)]
    clear hkn hnm hct hnb hA hB hs0
    go_enter Tryz.func101, Tryz.ntmps101
    go_wp2_with (first | (go_at_call 102; refine (HA.out _).mono ?_; rintro e w1 ⟨rfl, rfl⟩) | (go_at_call 103; refine (HB.out _).mono ?_; rintro e w1 ⟨rfl, rfl⟩))
    go_ret
    exact ⟨rfl, by (repeat (first | (with_reducible exact Below.refl _ _) | (with_reducible assumption) | (with_reducible apply bl_alloc) | (with_reducible apply bl_drewN) | (with_reducible apply bl_drew) | (with_reducible refine bl_set ?_ (by first | (simp; done) | (simp; omega)) _) | (with_reducible refine bl_call ?_ (by assumption))))⟩
  have e0 := emp_yes' hs0
  by_cases hmA : (m : Int) = 0
  rotate_left
  · have g0 : ((m : Int) == 0) = false := beq_eq_false_iff_ne.2 hmA
    have g1 : ((m : Int) != 0) = true := bne_iff_ne.2 hmA
    have HV := Lib.hid (show nd true (1) (bs s) n m = 1 from nb_m hA hmA)
    rw [HV.out, if_neg (by decide)]
    clear hkn hnm hct hnb hA hB hs0
    go_enter Tryz.func101, Tryz.ntmps101
    go_wp2_with (first | (go_at_call 102; refine (HA.out _).mono ?_; rintro e w1 ⟨rfl, rfl⟩) | (go_at_call 103; refine (HB.out _).mono ?_; rintro e w1 ⟨rfl, rfl⟩))
    go_ret
    exact ⟨rfl, by (repeat (first | (with_reducible exact Below.refl _ _) | (with_reducible assumption) | (with_reducible apply bl_alloc) | (with_reducible apply bl_drewN) | (with_reducible apply bl_drew) | (with_reducible refine bl_set ?_ (by first | (simp; done) | (simp; omega)) _) | (with_reducible refine bl_call ?_ (by assumption))))⟩
  obtain rfl : m = 0 := by omega
  have hfair := nb_fair (s := bs s) (n := n) (m := 0) hkn hnm hnb hA (.inr hs0) (.inl rfl) rfl
  cases hv : inI n with
  | true =>
    have HIN := Lib.hid (fun W => rin_gives hv W)
    have hR : badR true (1) n = false := by unfold badR; rw [hct, hv]; rfl
    rw [hfair.trans (show _ = (0 : Int) by rw [hR]; rfl), if_pos rfl]
    clear hkn hnm hct hnb hA hB hfair hs0 hR hv
    go_enter Tryz.func101, Tryz.ntmps101
    go_wp2_with (first | (go_at_call 102; refine (HA.out _).mono ?_; rintro e w1 ⟨rfl, rfl⟩) | (go_at_call 103; refine (HB.out _).mono ?_; rintro e w1 ⟨rfl, rfl⟩))
    go_quiet ((go_at_call 104; exact Calls.quiet_of_same (HIN.out _)))
    go_wp2_with fail
    go_loopw [10] (fun i wr => ∃ k : Nat, k ≤ 0 ∧ Hid (bad true (preL (l.take k)) = 0) ∧ i = .int .i64 (k : Nat) ∧ Hid (Below w.heap.size w wr) ∧ Hid (box4 wr w.heap.size (1) s n p 0 c)) (fun i _ => 0 - (intOf i).toNat)
    case atStart => exact ⟨0, Nat.zero_le _, Lib.hid (by rw [List.take_zero, preL, bad]), rfl, Lib.hid (by (repeat (first | (with_reducible exact Below.refl _ _) | (with_reducible assumption) | (with_reducible apply bl_alloc) | (with_reducible apply bl_drewN) | (with_reducible apply bl_drew) | (with_reducible refine bl_set ?_ (by first | (simp; done) | (simp; omega)) _) | (with_reducible refine bl_call ?_ (by assumption))))), Lib.hid box_new⟩
    case round =>
      obtain ⟨k, hk, HT0, rfl, HW, HB4⟩ := hrel
      obtain ⟨b0, b1, b2, b3⟩ := HB4.out
      obtain rfl : k = 0 := by omega
      have hl0 : l = [] := List.length_eq_zero_iff.1 HL.out
      have HR : Hid (bad true (preL l) = 0) := Lib.hid (by rw [hl0, preL, bad])
      clear hl0
      go_wp2_with fail
      go_ret
      exact ⟨by rw [HR.out]; rfl, HW.out⟩
  | false =>
    have HIN := Lib.hid (fun W => rin_gives hv W)
    have hR : badR true (1) n = true := by unfold badR; rw [hct, hv]; rfl
    rw [hfair.trans (show _ = (2 : Int) by rw [hR]; rfl), if_neg (by decide)]
    clear hkn hnm hct hnb hA hB hfair hs0 hR hv
    go_enter Tryz.func101, Tryz.ntmps101
    go_wp2_with (first | (go_at_call 102; refine (HA.out _).mono ?_; rintro e w1 ⟨rfl, rfl⟩) | (go_at_call 103; refine (HB.out _).mono ?_; rintro e w1 ⟨rfl, rfl⟩))
    go_quiet ((go_at_call 104; exact Calls.quiet_of_same (HIN.out _)))
    go_wp2_with fail
    go_ret
    exact ⟨rfl, by (repeat (first | (with_reducible exact Below.refl _ _) | (with_reducible assumption) | (with_reducible apply bl_alloc) | (with_reducible apply bl_drewN) | (with_reducible apply bl_drew) | (with_reducible refine bl_set ?_ (by first | (simp; done) | (simp; omega)) _) | (with_reducible refine bl_call ?_ (by assumption))))⟩
set_option maxRecDepth 100000 in
theorem rn_LowF (l : List Ex) (ih : IHn false l) (o : Int) (h1 : o < 1) (s : ByteArray) (n : Int) (p : Option Addr) (m c : Nat) (w : World) (h : In w (.mk o s n l) p m) (hs : Sz (.mk o s n l)) : Calls Tryz.prog 101 #[.agg #[.int .i64 (o), .string s, .int .i64 n, .slice p m c], .bool false] w (Gives (.int .i64 (bad false (pre (.mk o s n l)))) w) := by
  have HH := Lib.hid h
  have HI := Lib.hid ih
  obtain ⟨hl, hm⟩ := h.len
  have HL := Lib.hid hl
  have HS := Lib.hid hs
  have hsz := hs.self
  rw [bad_mk, hl]
  clear ih h hl hs
  obtain ⟨A, hA⟩ : ∃ A, ari o = A := ⟨_, rfl⟩
  have hA1 : A < 0 := by unfold ari at hA; rw [if_pos (by omega)] at hA; omega
  have hB : obj o = false := by unfold obj; simp; omega
  have HA := Lib.hid (fun W => arity_gives hA W)
  have HB := Lib.hid (fun W => object_gives hB W)
  have t1 : (o == 1) = false := beq_eq_false_iff_ne.2 (by omega)
  have t2 : (o == 2) = false := beq_eq_false_iff_ne.2 (by omega)
  have t3 : (o == 3) = false := beq_eq_false_iff_ne.2 (by omega)
  have t25 : (o == 25) = false := beq_eq_false_iff_ne.2 (by omega)
  have t26 : (o == 26) = false := beq_eq_false_iff_ne.2 (by omega)
  have u3 : (o != 3) = true := bne_iff_ne.2 (by omega)
  have v3 : ¬ o = 3 := by omega
  have hkn : known false o = false := by unfold known; rw [hA]; rw [decide_eq_false (by omega)]; rfl
  have HV := Lib.hid (show nd false o (bs s) n m = 1 from nb_kn hkn)
  rw [HV.out, if_neg (by decide)]
  clear hkn hA hB
  go_enter Tryz.func101, Tryz.ntmps101
  go_wp2_with (first | (go_at_call 102; refine (HA.out _).mono ?_; rintro e w1 ⟨rfl, rfl⟩) | (go_at_call 103; refine (HB.out _).mono ?_; rintro e w1 ⟨rfl, rfl⟩))
  go_ret
  exact ⟨rfl, by (repeat (first | (with_reducible exact Below.refl _ _) | (with_reducible assumption) | (with_reducible apply bl_alloc) | (with_reducible apply bl_drewN) | (with_reducible apply bl_drew) | (with_reducible refine bl_set ?_ (by first | (simp; done) | (simp; omega)) _) | (with_reducible refine bl_call ?_ (by assumption))))⟩
set_option maxRecDepth 100000 in
theorem rn_HighF (l : List Ex) (ih : IHn false l) (o : Int) (h26 : 26 < o) (s : ByteArray) (n : Int) (p : Option Addr) (m c : Nat) (w : World) (h : In w (.mk o s n l) p m) (hs : Sz (.mk o s n l)) : Calls Tryz.prog 101 #[.agg #[.int .i64 (o), .string s, .int .i64 n, .slice p m c], .bool false] w (Gives (.int .i64 (bad false (pre (.mk o s n l)))) w) := by
  have HH := Lib.hid h
  have HI := Lib.hid ih
  obtain ⟨hl, hm⟩ := h.len
  have HL := Lib.hid hl
  have HS := Lib.hid hs
  have hsz := hs.self
  rw [bad_mk, hl]
  clear ih h hl hs
  obtain ⟨A, hA⟩ : ∃ A, ari o = A := ⟨_, rfl⟩
  have hA1 : A < 0 := by unfold ari at hA; rw [if_pos (by omega)] at hA; omega
  have hB : obj o = false := by unfold obj; simp; omega
  have HA := Lib.hid (fun W => arity_gives hA W)
  have HB := Lib.hid (fun W => object_gives hB W)
  have t1 : (o == 1) = false := beq_eq_false_iff_ne.2 (by omega)
  have t2 : (o == 2) = false := beq_eq_false_iff_ne.2 (by omega)
  have t3 : (o == 3) = false := beq_eq_false_iff_ne.2 (by omega)
  have t25 : (o == 25) = false := beq_eq_false_iff_ne.2 (by omega)
  have t26 : (o == 26) = false := beq_eq_false_iff_ne.2 (by omega)
  have u3 : (o != 3) = true := bne_iff_ne.2 (by omega)
  have v3 : ¬ o = 3 := by omega
  have hkn : known false o = false := by unfold known; rw [hA]; rw [decide_eq_false (by omega)]; rfl
  have HV := Lib.hid (show nd false o (bs s) n m = 1 from nb_kn hkn)
  rw [HV.out, if_neg (by decide)]
  clear hkn hA hB
  go_enter Tryz.func101, Tryz.ntmps101
  go_wp2_with (first | (go_at_call 102; refine (HA.out _).mono ?_; rintro e w1 ⟨rfl, rfl⟩) | (go_at_call 103; refine (HB.out _).mono ?_; rintro e w1 ⟨rfl, rfl⟩))
  go_ret
  exact ⟨rfl, by (repeat (first | (with_reducible exact Below.refl _ _) | (with_reducible assumption) | (with_reducible apply bl_alloc) | (with_reducible apply bl_drewN) | (with_reducible apply bl_drew) | (with_reducible refine bl_set ?_ (by first | (simp; done) | (simp; omega)) _) | (with_reducible refine bl_call ?_ (by assumption))))⟩
end Go.Proofs.YtonlmnlpofgccaaGreat.Ex

/-
  The reference's check of a node, by forms: TwoF, TwoT, SlotF, VarF.
-/
namespace Go.Proofs.YtonlmnlpofgccaaGreat.Ex
open Go.RowKit
open Go.Proofs.YtonlmnlpofgccaaGreat.Na (bs bs_inj chk)
set_option maxHeartbeats 4000000
set_option linter.unusedVariables false
set_option linter.unusedSimpArgs false
set_option maxRecDepth 100000 in
theorem rn_TwoF (l : List Ex) (ih : IHn false l) (o : Int) (h2 : o = 2) (s : ByteArray) (n : Int) (p : Option Addr) (m c : Nat) (w : World) (h : In w (.mk o s n l) p m) (hs : Sz (.mk o s n l)) : Calls Tryz.prog 101 #[.agg #[.int .i64 o, .string s, .int .i64 n, .slice p m c], .bool false] w (Gives (.int .i64 (bad false (pre (.mk o s n l)))) w) := by
  have HH := Lib.hid h
  have HI := Lib.hid ih
  obtain ⟨hl, hm⟩ := h.len
  have HL := Lib.hid hl
  have HS := Lib.hid hs
  have hsz := hs.self
  rw [bad_mk, hl]
  clear ih h hl hs
  have hA : ari o = 0 := by rw [h2]; rfl
  have hB : obj o = false := by rw [h2]; rfl
  have t1 : (o == 1) = false := by rw [h2]; rfl
  have t2 : (o == 2) = true := by rw [h2]; rfl
  have t3 : (o == 3) = false := by rw [h2]; rfl
  have t25 : (o == 25) = false := by rw [h2]; rfl
  have t26 : (o == 26) = false := by rw [h2]; rfl
  have u3 : (o != 3) = true := by rw [h2]; rfl
  have v3 : ¬ o = 3 := by omega
  have w24 : o ≤ 24 := by omega
  have HA := Lib.hid (fun W => arity_gives hA W)
  have HB := Lib.hid (fun W => object_gives hB W)
  have hkn : known false o = true := by rw [h2]; rfl
  have hnm : named false o = false := by rw [h2]; rfl
  have hct : counted false o = false := by rw [h2]; rfl
  have hnb : numbered false o = true := by rw [h2]; rfl
  by_cases hs0 : bs s = []
  rotate_left
  · have e0 := emp_no' hs0
    have HV := Lib.hid (show nd false o (bs s) n m = 1 from nb_s hnm hs0)
    rw [HV.out, if_neg (by decide)]
    clear hkn hnm hct hnb hA hB hs0 h2
    go_enter Tryz.func101, Tryz.ntmps101
    go_wp2_with (first | (go_at_call 102; refine (HA.out _).mono ?_; rintro e w1 ⟨rfl, rfl⟩) | (go_at_call 103; refine (HB.out _).mono ?_; rintro e w1 ⟨rfl, rfl⟩))
    go_ret
    exact ⟨rfl, by (repeat (first | (with_reducible exact Below.refl _ _) | (with_reducible assumption) | (with_reducible apply bl_alloc) | (with_reducible apply bl_drewN) | (with_reducible apply bl_drew) | (with_reducible refine bl_set ?_ (by first | (simp; done) | (simp; omega)) _) | (with_reducible refine bl_call ?_ (by assumption))))⟩
  have e0 := emp_yes' hs0
  by_cases hmA : (m : Int) = 0
  rotate_left
  · have g0 : ((m : Int) == 0) = false := beq_eq_false_iff_ne.2 hmA
    have g1 : ((m : Int) != 0) = true := bne_iff_ne.2 hmA
    have HV := Lib.hid (show nd false o (bs s) n m = 1 from nb_m hA hmA)
    rw [HV.out, if_neg (by decide)]
    clear hkn hnm hct hnb hA hB hs0 h2
    go_enter Tryz.func101, Tryz.ntmps101
    go_wp2_with (first | (go_at_call 102; refine (HA.out _).mono ?_; rintro e w1 ⟨rfl, rfl⟩) | (go_at_call 103; refine (HB.out _).mono ?_; rintro e w1 ⟨rfl, rfl⟩))
    go_ret
    exact ⟨rfl, by (repeat (first | (with_reducible exact Below.refl _ _) | (with_reducible assumption) | (with_reducible apply bl_alloc) | (with_reducible apply bl_drewN) | (with_reducible apply bl_drew) | (with_reducible refine bl_set ?_ (by first | (simp; done) | (simp; omega)) _) | (with_reducible refine bl_call ?_ (by assumption))))⟩
  obtain rfl : m = 0 := by omega
  have hfair := nb_fair (s := bs s) (n := n) (m := 0) hkn hnm hnb hA (.inr hs0) (.inl rfl) rfl
  by_cases hn0 : n = 0
  · have f0 : (n == 0) = true := beq_iff_eq.2 hn0
    have f2 : (n != 0) = false := by simp [bne, f0]
    have hR : badR false o n = false := by rw [h2, hn0]; rfl
    rw [hfair.trans (show _ = (0 : Int) by rw [hR]; rfl), if_pos rfl]
    clear hkn hnm hct hnb hA hB hfair hs0 hR h2 hn0
    go_enter Tryz.func101, Tryz.ntmps101
    go_wp2_with (first | (go_at_call 102; refine (HA.out _).mono ?_; rintro e w1 ⟨rfl, rfl⟩) | (go_at_call 103; refine (HB.out _).mono ?_; rintro e w1 ⟨rfl, rfl⟩))
    go_quiet (fail)
    go_wp2_with fail
    go_loopw [10] (fun i wr => ∃ k : Nat, k ≤ 0 ∧ Hid (bad false (preL (l.take k)) = 0) ∧ i = .int .i64 (k : Nat) ∧ Hid (Below w.heap.size w wr) ∧ Hid (box4 wr w.heap.size o s n p 0 c)) (fun i _ => 0 - (intOf i).toNat)
    case atStart => exact ⟨0, Nat.zero_le _, Lib.hid (by rw [List.take_zero, preL, bad]), rfl, Lib.hid (by (repeat (first | (with_reducible exact Below.refl _ _) | (with_reducible assumption) | (with_reducible apply bl_alloc) | (with_reducible apply bl_drewN) | (with_reducible apply bl_drew) | (with_reducible refine bl_set ?_ (by first | (simp; done) | (simp; omega)) _) | (with_reducible refine bl_call ?_ (by assumption))))), Lib.hid box_new⟩
    case round =>
      obtain ⟨k, hk, HT0, rfl, HW, HB4⟩ := hrel
      obtain ⟨b0, b1, b2, b3⟩ := HB4.out
      obtain rfl : k = 0 := by omega
      have hl0 : l = [] := List.length_eq_zero_iff.1 HL.out
      have HR : Hid (bad false (preL l) = 0) := Lib.hid (by rw [hl0, preL, bad])
      clear hl0
      go_wp2_with fail
      go_ret
      exact ⟨by rw [HR.out]; rfl, HW.out⟩
  by_cases hn1 : n = 1
  · have f0 : (n == 0) = false := beq_eq_false_iff_ne.2 hn0
    have f1 : (n == 1) = true := beq_iff_eq.2 hn1
    have f2 : (n != 0) = true := by simp [bne, f0]
    have f3 : (n != 1) = false := by simp [bne, f1]
    have hR : badR false o n = false := by rw [h2, hn1]; rfl
    rw [hfair.trans (show _ = (0 : Int) by rw [hR]; rfl), if_pos rfl]
    clear hkn hnm hct hnb hA hB hfair hs0 hR hn0 hn1 h2
    go_enter Tryz.func101, Tryz.ntmps101
    go_wp2_with (first | (go_at_call 102; refine (HA.out _).mono ?_; rintro e w1 ⟨rfl, rfl⟩) | (go_at_call 103; refine (HB.out _).mono ?_; rintro e w1 ⟨rfl, rfl⟩))
    go_quiet (fail)
    go_wp2_with fail
    go_loopw [10] (fun i wr => ∃ k : Nat, k ≤ 0 ∧ Hid (bad false (preL (l.take k)) = 0) ∧ i = .int .i64 (k : Nat) ∧ Hid (Below w.heap.size w wr) ∧ Hid (box4 wr w.heap.size o s n p 0 c)) (fun i _ => 0 - (intOf i).toNat)
    case atStart => exact ⟨0, Nat.zero_le _, Lib.hid (by rw [List.take_zero, preL, bad]), rfl, Lib.hid (by (repeat (first | (with_reducible exact Below.refl _ _) | (with_reducible assumption) | (with_reducible apply bl_alloc) | (with_reducible apply bl_drewN) | (with_reducible apply bl_drew) | (with_reducible refine bl_set ?_ (by first | (simp; done) | (simp; omega)) _) | (with_reducible refine bl_call ?_ (by assumption))))), Lib.hid box_new⟩
    case round =>
      obtain ⟨k, hk, HT0, rfl, HW, HB4⟩ := hrel
      obtain ⟨b0, b1, b2, b3⟩ := HB4.out
      obtain rfl : k = 0 := by omega
      have hl0 : l = [] := List.length_eq_zero_iff.1 HL.out
      have HR : Hid (bad false (preL l) = 0) := Lib.hid (by rw [hl0, preL, bad])
      clear hl0
      go_wp2_with fail
      go_ret
      exact ⟨by rw [HR.out]; rfl, HW.out⟩
  have f0 : (n == 0) = false := beq_eq_false_iff_ne.2 hn0
  have f1 : (n == 1) = false := beq_eq_false_iff_ne.2 hn1
  have f2 : (n != 0) = true := by simp [bne, f0]
  have f3 : (n != 1) = true := by simp [bne, f1]
  have hR : badR false o n = true := by rw [h2]; unfold badR; simp [hn0, hn1]
  rw [hfair.trans (show _ = (2 : Int) by rw [hR]; rfl), if_neg (by decide)]
  clear hkn hnm hct hnb hA hB hfair hs0 hR h2 hn0 hn1
  go_enter Tryz.func101, Tryz.ntmps101
  go_wp2_with (first | (go_at_call 102; refine (HA.out _).mono ?_; rintro e w1 ⟨rfl, rfl⟩) | (go_at_call 103; refine (HB.out _).mono ?_; rintro e w1 ⟨rfl, rfl⟩))
  go_quiet (fail)
  go_wp2_with fail
  go_ret
  exact ⟨rfl, by (repeat (first | (with_reducible exact Below.refl _ _) | (with_reducible assumption) | (with_reducible apply bl_alloc) | (with_reducible apply bl_drewN) | (with_reducible apply bl_drew) | (with_reducible refine bl_set ?_ (by first | (simp; done) | (simp; omega)) _) | (with_reducible refine bl_call ?_ (by assumption))))⟩
end Go.Proofs.YtonlmnlpofgccaaGreat.Ex

/-
  The reference's check of a node, by forms: MidF, MidT.
-/
namespace Go.Proofs.YtonlmnlpofgccaaGreat.Ex
open Go.RowKit
open Go.Proofs.YtonlmnlpofgccaaGreat.Na (bs bs_inj chk)
set_option maxHeartbeats 4000000
set_option linter.unusedVariables false
set_option linter.unusedSimpArgs false
set_option maxRecDepth 100000 in
theorem rn_MidF (l : List Ex) (ih : IHn false l) (o : Int) (h4 : 4 ≤ o) (h21 : o ≤ 21) (s : ByteArray) (n : Int) (p : Option Addr) (m c : Nat) (w : World) (h : In w (.mk o s n l) p m) (hs : Sz (.mk o s n l)) : Calls Tryz.prog 101 #[.agg #[.int .i64 (o), .string s, .int .i64 n, .slice p m c], .bool false] w (Gives (.int .i64 (bad false (pre (.mk o s n l)))) w) := by
  have HH := Lib.hid h
  have HI := Lib.hid ih
  obtain ⟨hl, hm⟩ := h.len
  have HL := Lib.hid hl
  have HS := Lib.hid hs
  have hsz := hs.self
  rw [bad_mk, hl]
  clear ih h hl hs
  obtain ⟨A, hA⟩ : ∃ A, ari o = A := ⟨_, rfl⟩
  have hA1 : 0 ≤ A := by unfold ari at hA; split at hA <;> (try split at hA) <;> (try split at hA) <;> omega
  have hB : obj o = false := by unfold obj; simp; omega
  have HA := Lib.hid (fun W => arity_gives hA W)
  have HB := Lib.hid (fun W => object_gives hB W)
  have t1 : (o == 1) = false := beq_eq_false_iff_ne.2 (by omega)
  have t2 : (o == 2) = false := beq_eq_false_iff_ne.2 (by omega)
  have t3 : (o == 3) = false := beq_eq_false_iff_ne.2 (by omega)
  have t25 : (o == 25) = false := beq_eq_false_iff_ne.2 (by omega)
  have t26 : (o == 26) = false := beq_eq_false_iff_ne.2 (by omega)
  have u3 : (o != 3) = true := bne_iff_ne.2 (by omega)
  have v3 : ¬ o = 3 := by omega
  have hkn : known false o = true := by unfold known; rw [hA]; rw [decide_eq_true hA1]; simp; omega
  have hnm : named false o = false := by unfold named; rw [hB]; simp; omega
  have hct : counted false o = false := by unfold counted; rw [hB]; simp
  have hnb : numbered false o = false := by unfold numbered; rw [hct]; simp; omega
  by_cases hs0 : bs s = []
  rotate_left
  · have e0 := emp_no' hs0
    have HV := Lib.hid (show nd false o (bs s) n m = 1 from nb_s hnm hs0)
    rw [HV.out, if_neg (by decide)]
    clear hkn hnm hct hnb hA hB hs0
    go_enter Tryz.func101, Tryz.ntmps101
    go_wp2_with (first | (go_at_call 102; refine (HA.out _).mono ?_; rintro e w1 ⟨rfl, rfl⟩) | (go_at_call 103; refine (HB.out _).mono ?_; rintro e w1 ⟨rfl, rfl⟩))
    go_ret
    exact ⟨rfl, by (repeat (first | (with_reducible exact Below.refl _ _) | (with_reducible assumption) | (with_reducible apply bl_alloc) | (with_reducible apply bl_drewN) | (with_reducible apply bl_drew) | (with_reducible refine bl_set ?_ (by first | (simp; done) | (simp; omega)) _) | (with_reducible refine bl_call ?_ (by assumption))))⟩
  have e0 := emp_yes' hs0
  by_cases hn0 : n = 0
  rotate_left
  · have f0 : (n == 0) = false := beq_eq_false_iff_ne.2 hn0
    have HV := Lib.hid (show nd false o (bs s) n m = 1 from nb_n hnb hn0)
    rw [HV.out, if_neg (by decide)]
    clear hkn hnm hct hnb hA hB hn0 hs0
    go_enter Tryz.func101, Tryz.ntmps101
    go_wp2_with (first | (go_at_call 102; refine (HA.out _).mono ?_; rintro e w1 ⟨rfl, rfl⟩) | (go_at_call 103; refine (HB.out _).mono ?_; rintro e w1 ⟨rfl, rfl⟩))
    go_ret
    exact ⟨rfl, by (repeat (first | (with_reducible exact Below.refl _ _) | (with_reducible assumption) | (with_reducible apply bl_alloc) | (with_reducible apply bl_drewN) | (with_reducible apply bl_drew) | (with_reducible refine bl_set ?_ (by first | (simp; done) | (simp; omega)) _) | (with_reducible refine bl_call ?_ (by assumption))))⟩
  subst hn0
  by_cases hmA : (m : Int) = A
  rotate_left
  · have g0 : ((m : Int) == A) = false := beq_eq_false_iff_ne.2 hmA
    have g1 : ((m : Int) != A) = true := bne_iff_ne.2 hmA
    have HV := Lib.hid (show nd false o (bs s) 0 m = 1 from nb_m hA hmA)
    rw [HV.out, if_neg (by decide)]
    clear hkn hnm hct hnb hA hB hs0
    go_enter Tryz.func101, Tryz.ntmps101
    go_wp2_with (first | (go_at_call 102; refine (HA.out _).mono ?_; rintro e w1 ⟨rfl, rfl⟩) | (go_at_call 103; refine (HB.out _).mono ?_; rintro e w1 ⟨rfl, rfl⟩))
    go_ret
    exact ⟨rfl, by (repeat (first | (with_reducible exact Below.refl _ _) | (with_reducible assumption) | (with_reducible apply bl_alloc) | (with_reducible apply bl_drewN) | (with_reducible apply bl_drew) | (with_reducible refine bl_set ?_ (by first | (simp; done) | (simp; omega)) _) | (with_reducible refine bl_call ?_ (by assumption))))⟩
  subst hmA
  have hfair := nb_fair (s := bs s) (n := 0) (m := m) hkn hnm hnb hA (.inr hs0) (.inr rfl) rfl
  have hR : badR false o 0 = false := by unfold badR; rw [hct]; simp; omega
  rw [hfair.trans (show _ = (0 : Int) by rw [hR]; rfl), if_pos rfl]
  clear hkn hnm hct hnb hA hB hfair hs0 hR
  go_enter Tryz.func101, Tryz.ntmps101
  go_wp2_with (first | (go_at_call 102; refine (HA.out _).mono ?_; rintro e w1 ⟨rfl, rfl⟩) | (go_at_call 103; refine (HB.out _).mono ?_; rintro e w1 ⟨rfl, rfl⟩))
  go_quiet (fail)
  go_wp2_with fail
  go_loopw [10] (fun i wr => ∃ k : Nat, k ≤ m ∧ Hid (bad false (preL (l.take k)) = 0) ∧ i = .int .i64 (k : Nat) ∧ Hid (Below w.heap.size w wr) ∧ Hid (box4 wr w.heap.size o s 0 p m c)) (fun i _ => m - (intOf i).toNat)
  case atStart => exact ⟨0, Nat.zero_le _, Lib.hid (by rw [List.take_zero, preL, bad]), rfl, Lib.hid (by (repeat (first | (with_reducible exact Below.refl _ _) | (with_reducible assumption) | (with_reducible apply bl_alloc) | (with_reducible apply bl_drewN) | (with_reducible apply bl_drew) | (with_reducible refine bl_set ?_ (by first | (simp; done) | (simp; omega)) _) | (with_reducible refine bl_call ?_ (by assumption))))), Lib.hid box_new⟩
  case round =>
    obtain ⟨k, hk, HT0, rfl, HW, HB4⟩ := hrel
    obtain ⟨b0, b1, b2, b3⟩ := HB4.out
    have k0 : (0 : Int) ≤ (k : Int) := by omega
    rcases Nat.lt_or_ge k m with h | h
    · have k1 : (k : Int) < (m : Int) := by omega
      obtain ⟨b, o', rfl, -, hG, hcell⟩ := HH.out.kids (by omega)
      have hkl : k < l.length := by rw [HL.out]; omega
      obtain ⟨q, j, c', hc4, hkin⟩ := hcell.out k hkl
      have hmem : l[k] ∈ l := List.getElem_mem hkl
      have hgx : l[k]? = some l[k] := List.getElem?_eq_getElem hkl
      obtain ⟨x, hx⟩ : ∃ x, l[k] = x := ⟨_, rfl⟩
      rw [hx] at hc4 hkin hmem hgx
      obtain ⟨e0, e1, e2, e3⟩ := hc4.on HW.out hG
      have HKIN := Lib.hid hkin
      have HX := Lib.hid hgx
      have HM := Lib.hid hmem
      clear hcell hc4 hkin hx hmem hgx hkl
      have HSP := Lib.hid (badL_stop (c := false) HX.out HT0.out)
      have HE := Lib.hid (badL_step (c := false) HX.out HT0.out)
      have HI1 := HI.out x HM.out q j c' wr (HKIN.out.on HW.out) (HS.out.kid HM.out)
      obtain ⟨E, hE⟩ : ∃ E, bad false (pre x) = E := ⟨_, rfl⟩
      rw [hE] at HI1 HSP HE
      clear hE
      go_wp2_with fail
      refine HI1.mono ?_
      rintro e w2 ⟨rfl, hb2⟩
      have HW2 : Hid (Below w.heap.size w w2) := Lib.hid (by have HBB := HW.out; (repeat (first | (with_reducible exact Below.refl _ _) | (with_reducible assumption) | (with_reducible apply bl_alloc) | (with_reducible apply bl_drewN) | (with_reducible apply bl_drew) | (with_reducible refine bl_set ?_ (by first | (simp; done) | (simp; omega)) _) | (with_reducible refine bl_call ?_ (by assumption)))))
      have HB5 := Lib.hid (HB4.out.on hb2)
      clear hb2 HI1
      by_cases hE0 : E = 0
      · subst hE0
        have HR := HE.out
        have HR2 := Lib.hid HR
        clear HR
        go_wp2_with fail
        go_roundw
        case rel => exact ⟨k + 1, by omega, HR2, by go_num, HW2, HB5⟩
        case measure => simp [intOf]; omega
      · have e1 : (E == 0) = false := beq_eq_false_iff_ne.2 hE0
        have HR := Lib.hid (HSP.out hE0)
        go_wp2_with fail
        go_ret
        exact ⟨by rw [HR.out]; rfl, HW2.out⟩
    · obtain rfl : m = k := by omega
      have HT : Hid (l.take m = l) := Lib.hid (List.take_of_length_le (by rw [HL.out]; exact Nat.le_refl _))
      rw [HT.out] at HT0
      go_wp2_with fail
      go_ret
      exact ⟨by rw [HT0.out]; rfl, HW.out⟩
set_option maxRecDepth 100000 in
theorem rn_MidT (l : List Ex) (ih : IHn true l) (o : Int) (h4 : 4 ≤ o) (h21 : o ≤ 21) (s : ByteArray) (n : Int) (p : Option Addr) (m c : Nat) (w : World) (h : In w (.mk o s n l) p m) (hs : Sz (.mk o s n l)) : Calls Tryz.prog 101 #[.agg #[.int .i64 (o), .string s, .int .i64 n, .slice p m c], .bool true] w (Gives (.int .i64 (bad true (pre (.mk o s n l)))) w) := by
  have HH := Lib.hid h
  have HI := Lib.hid ih
  obtain ⟨hl, hm⟩ := h.len
  have HL := Lib.hid hl
  have HS := Lib.hid hs
  have hsz := hs.self
  rw [bad_mk, hl]
  clear ih h hl hs
  obtain ⟨A, hA⟩ : ∃ A, ari o = A := ⟨_, rfl⟩
  have hA1 : 0 ≤ A := by unfold ari at hA; split at hA <;> (try split at hA) <;> (try split at hA) <;> omega
  have hB : obj o = false := by unfold obj; simp; omega
  have HA := Lib.hid (fun W => arity_gives hA W)
  have HB := Lib.hid (fun W => object_gives hB W)
  have t1 : (o == 1) = false := beq_eq_false_iff_ne.2 (by omega)
  have t2 : (o == 2) = false := beq_eq_false_iff_ne.2 (by omega)
  have t3 : (o == 3) = false := beq_eq_false_iff_ne.2 (by omega)
  have t25 : (o == 25) = false := beq_eq_false_iff_ne.2 (by omega)
  have t26 : (o == 26) = false := beq_eq_false_iff_ne.2 (by omega)
  have u3 : (o != 3) = true := bne_iff_ne.2 (by omega)
  have v3 : ¬ o = 3 := by omega
  have hkn : known true o = true := by unfold known; rw [hA]; rw [decide_eq_true hA1]; simp; omega
  have hnm : named true o = false := by unfold named; rw [hB]; simp
  have hct : counted true o = false := by unfold counted; rw [hB]; simp; omega
  have hnb : numbered true o = false := by unfold numbered; rw [hct]; simp; omega
  by_cases hs0 : bs s = []
  rotate_left
  · have e0 := emp_no' hs0
    have HV := Lib.hid (show nd true o (bs s) n m = 1 from nb_s hnm hs0)
    rw [HV.out, if_neg (by decide)]
    clear hkn hnm hct hnb hA hB hs0
    go_enter Tryz.func101, Tryz.ntmps101
    go_wp2_with (first | (go_at_call 102; refine (HA.out _).mono ?_; rintro e w1 ⟨rfl, rfl⟩) | (go_at_call 103; refine (HB.out _).mono ?_; rintro e w1 ⟨rfl, rfl⟩))
    go_ret
    exact ⟨rfl, by (repeat (first | (with_reducible exact Below.refl _ _) | (with_reducible assumption) | (with_reducible apply bl_alloc) | (with_reducible apply bl_drewN) | (with_reducible apply bl_drew) | (with_reducible refine bl_set ?_ (by first | (simp; done) | (simp; omega)) _) | (with_reducible refine bl_call ?_ (by assumption))))⟩
  have e0 := emp_yes' hs0
  by_cases hn0 : n = 0
  rotate_left
  · have f0 : (n == 0) = false := beq_eq_false_iff_ne.2 hn0
    have HV := Lib.hid (show nd true o (bs s) n m = 1 from nb_n hnb hn0)
    rw [HV.out, if_neg (by decide)]
    clear hkn hnm hct hnb hA hB hn0 hs0
    go_enter Tryz.func101, Tryz.ntmps101
    go_wp2_with (first | (go_at_call 102; refine (HA.out _).mono ?_; rintro e w1 ⟨rfl, rfl⟩) | (go_at_call 103; refine (HB.out _).mono ?_; rintro e w1 ⟨rfl, rfl⟩))
    go_ret
    exact ⟨rfl, by (repeat (first | (with_reducible exact Below.refl _ _) | (with_reducible assumption) | (with_reducible apply bl_alloc) | (with_reducible apply bl_drewN) | (with_reducible apply bl_drew) | (with_reducible refine bl_set ?_ (by first | (simp; done) | (simp; omega)) _) | (with_reducible refine bl_call ?_ (by assumption))))⟩
  subst hn0
  by_cases hmA : (m : Int) = A
  rotate_left
  · have g0 : ((m : Int) == A) = false := beq_eq_false_iff_ne.2 hmA
    have g1 : ((m : Int) != A) = true := bne_iff_ne.2 hmA
    have HV := Lib.hid (show nd true o (bs s) 0 m = 1 from nb_m hA hmA)
    rw [HV.out, if_neg (by decide)]
    clear hkn hnm hct hnb hA hB hs0
    go_enter Tryz.func101, Tryz.ntmps101
    go_wp2_with (first | (go_at_call 102; refine (HA.out _).mono ?_; rintro e w1 ⟨rfl, rfl⟩) | (go_at_call 103; refine (HB.out _).mono ?_; rintro e w1 ⟨rfl, rfl⟩))
    go_ret
    exact ⟨rfl, by (repeat (first | (with_reducible exact Below.refl _ _) | (with_reducible assumption) | (with_reducible apply bl_alloc) | (with_reducible apply bl_drewN) | (with_reducible apply bl_drew) | (with_reducible refine bl_set ?_ (by first | (simp; done) | (simp; omega)) _) | (with_reducible refine bl_call ?_ (by assumption))))⟩
  subst hmA
  have hfair := nb_fair (s := bs s) (n := 0) (m := m) hkn hnm hnb hA (.inr hs0) (.inr rfl) rfl
  have hR : badR true o 0 = false := by unfold badR; rw [hct]; simp; omega
  rw [hfair.trans (show _ = (0 : Int) by rw [hR]; rfl), if_pos rfl]
  clear hkn hnm hct hnb hA hB hfair hs0 hR
  go_enter Tryz.func101, Tryz.ntmps101
  go_wp2_with (first | (go_at_call 102; refine (HA.out _).mono ?_; rintro e w1 ⟨rfl, rfl⟩) | (go_at_call 103; refine (HB.out _).mono ?_; rintro e w1 ⟨rfl, rfl⟩))
  go_quiet (fail)
  go_wp2_with fail
  go_loopw [10] (fun i wr => ∃ k : Nat, k ≤ m ∧ Hid (bad true (preL (l.take k)) = 0) ∧ i = .int .i64 (k : Nat) ∧ Hid (Below w.heap.size w wr) ∧ Hid (box4 wr w.heap.size o s 0 p m c)) (fun i _ => m - (intOf i).toNat)
  case atStart => exact ⟨0, Nat.zero_le _, Lib.hid (by rw [List.take_zero, preL, bad]), rfl, Lib.hid (by (repeat (first | (with_reducible exact Below.refl _ _) | (with_reducible assumption) | (with_reducible apply bl_alloc) | (with_reducible apply bl_drewN) | (with_reducible apply bl_drew) | (with_reducible refine bl_set ?_ (by first | (simp; done) | (simp; omega)) _) | (with_reducible refine bl_call ?_ (by assumption))))), Lib.hid box_new⟩
  case round =>
    obtain ⟨k, hk, HT0, rfl, HW, HB4⟩ := hrel
    obtain ⟨b0, b1, b2, b3⟩ := HB4.out
    have k0 : (0 : Int) ≤ (k : Int) := by omega
    rcases Nat.lt_or_ge k m with h | h
    · have k1 : (k : Int) < (m : Int) := by omega
      obtain ⟨b, o', rfl, -, hG, hcell⟩ := HH.out.kids (by omega)
      have hkl : k < l.length := by rw [HL.out]; omega
      obtain ⟨q, j, c', hc4, hkin⟩ := hcell.out k hkl
      have hmem : l[k] ∈ l := List.getElem_mem hkl
      have hgx : l[k]? = some l[k] := List.getElem?_eq_getElem hkl
      obtain ⟨x, hx⟩ : ∃ x, l[k] = x := ⟨_, rfl⟩
      rw [hx] at hc4 hkin hmem hgx
      obtain ⟨e0, e1, e2, e3⟩ := hc4.on HW.out hG
      have HKIN := Lib.hid hkin
      have HX := Lib.hid hgx
      have HM := Lib.hid hmem
      clear hcell hc4 hkin hx hmem hgx hkl
      have HSP := Lib.hid (badL_stop (c := true) HX.out HT0.out)
      have HE := Lib.hid (badL_step (c := true) HX.out HT0.out)
      have HI1 := HI.out x HM.out q j c' wr (HKIN.out.on HW.out) (HS.out.kid HM.out)
      obtain ⟨E, hE⟩ : ∃ E, bad true (pre x) = E := ⟨_, rfl⟩
      rw [hE] at HI1 HSP HE
      clear hE
      go_wp2_with fail
      refine HI1.mono ?_
      rintro e w2 ⟨rfl, hb2⟩
      have HW2 : Hid (Below w.heap.size w w2) := Lib.hid (by have HBB := HW.out; (repeat (first | (with_reducible exact Below.refl _ _) | (with_reducible assumption) | (with_reducible apply bl_alloc) | (with_reducible apply bl_drewN) | (with_reducible apply bl_drew) | (with_reducible refine bl_set ?_ (by first | (simp; done) | (simp; omega)) _) | (with_reducible refine bl_call ?_ (by assumption)))))
      have HB5 := Lib.hid (HB4.out.on hb2)
      clear hb2 HI1
      by_cases hE0 : E = 0
      · subst hE0
        have HR := HE.out
        have HR2 := Lib.hid HR
        clear HR
        go_wp2_with fail
        go_roundw
        case rel => exact ⟨k + 1, by omega, HR2, by go_num, HW2, HB5⟩
        case measure => simp [intOf]; omega
      · have e1 : (E == 0) = false := beq_eq_false_iff_ne.2 hE0
        have HR := Lib.hid (HSP.out hE0)
        go_wp2_with fail
        go_ret
        exact ⟨by rw [HR.out]; rfl, HW2.out⟩
    · obtain rfl : m = k := by omega
      have HT : Hid (l.take m = l) := Lib.hid (List.take_of_length_le (by rw [HL.out]; exact Nat.le_refl _))
      rw [HT.out] at HT0
      go_wp2_with fail
      go_ret
      exact ⟨by rw [HT0.out]; rfl, HW.out⟩
end Go.Proofs.YtonlmnlpofgccaaGreat.Ex

/-
  The reference's check of a node, by forms: ThreeF, ObjF, ThreeT, LowT.
-/
namespace Go.Proofs.YtonlmnlpofgccaaGreat.Ex
open Go.RowKit
open Go.Proofs.YtonlmnlpofgccaaGreat.Na (bs bs_inj chk)
set_option maxHeartbeats 4000000
set_option linter.unusedVariables false
set_option linter.unusedSimpArgs false
set_option maxRecDepth 100000 in
theorem rn_ThreeF (l : List Ex) (ih : IHn false l) (s : ByteArray) (n : Int) (p : Option Addr) (m c : Nat) (w : World) (h : In w (.mk (3) s n l) p m) (hs : Sz (.mk (3) s n l)) : Calls Tryz.prog 101 #[.agg #[.int .i64 (3), .string s, .int .i64 n, .slice p m c], .bool false] w (Gives (.int .i64 (bad false (pre (.mk (3) s n l)))) w) := by
  have HH := Lib.hid h
  have HI := Lib.hid ih
  obtain ⟨hl, hm⟩ := h.len
  have HL := Lib.hid hl
  have HS := Lib.hid hs
  have hsz := hs.self
  rw [bad_mk, hl]
  clear ih h hl hs
  have hA : ari (3) = 0 := rfl
  have hB : obj (3) = false := rfl
  have HA := Lib.hid (fun W => arity_gives hA W)
  have HB := Lib.hid (fun W => object_gives hB W)
  have hkn : known false (3) = true := rfl
  have hnm : named false (3) = true := rfl
  have hct : counted false (3) = false := rfl
  have hnb : numbered false (3) = false := rfl
  by_cases hn0 : n = 0
  rotate_left
  · have f0 : (n == 0) = false := beq_eq_false_iff_ne.2 hn0
    have HV := Lib.hid (show nd false (3) (bs s) n m = 1 from nb_n hnb hn0)
    rw [HV.out, if_neg (by decide)]
    clear hkn hnm hct hnb hA hB hn0
    go_enter Tryz.func101, Tryz.ntmps101
    go_wp2_with (first | (go_at_call 102; refine (HA.out _).mono ?_; rintro e w1 ⟨rfl, rfl⟩) | (go_at_call 103; refine (HB.out _).mono ?_; rintro e w1 ⟨rfl, rfl⟩))
    go_ret
    exact ⟨rfl, by (repeat (first | (with_reducible exact Below.refl _ _) | (with_reducible assumption) | (with_reducible apply bl_alloc) | (with_reducible apply bl_drewN) | (with_reducible apply bl_drew) | (with_reducible refine bl_set ?_ (by first | (simp; done) | (simp; omega)) _) | (with_reducible refine bl_call ?_ (by assumption))))⟩
  subst hn0
  by_cases hmA : (m : Int) = 0
  rotate_left
  · have g0 : ((m : Int) == 0) = false := beq_eq_false_iff_ne.2 hmA
    have g1 : ((m : Int) != 0) = true := bne_iff_ne.2 hmA
    have HV := Lib.hid (show nd false (3) (bs s) 0 m = 1 from nb_m hA hmA)
    rw [HV.out, if_neg (by decide)]
    clear hkn hnm hct hnb hA hB
    go_enter Tryz.func101, Tryz.ntmps101
    go_wp2_with (first | (go_at_call 102; refine (HA.out _).mono ?_; rintro e w1 ⟨rfl, rfl⟩) | (go_at_call 103; refine (HB.out _).mono ?_; rintro e w1 ⟨rfl, rfl⟩))
    go_ret
    exact ⟨rfl, by (repeat (first | (with_reducible exact Below.refl _ _) | (with_reducible assumption) | (with_reducible apply bl_alloc) | (with_reducible apply bl_drewN) | (with_reducible apply bl_drew) | (with_reducible refine bl_set ?_ (by first | (simp; done) | (simp; omega)) _) | (with_reducible refine bl_call ?_ (by assumption))))⟩
  obtain rfl : m = 0 := by omega
  have hfair := nb_fair (s := bs s) (n := 0) (m := 0) hkn hnm hnb hA (.inl rfl) (.inr rfl) rfl
  have hR : badR false (3) 0 = false := by unfold badR; rw [hct]; simp
  rw [hfair.trans (show _ = chk (bs s) by rw [hR]; rfl)]
  have HCK := Lib.hid (fun W => rcheck_gives (s := s) rfl (by omega) W)
  obtain ⟨X, hX⟩ : ∃ X, chk (bs s) = X := ⟨_, rfl⟩
  rw [hX] at HCK ⊢
  by_cases hX0 : X = 0
  · subst hX0
    rw [if_pos rfl]
    clear hkn hnm hct hnb hA hB hfair hR hX
    go_enter Tryz.func101, Tryz.ntmps101
    go_wp2_with (first | (go_at_call 102; refine (HA.out _).mono ?_; rintro e w1 ⟨rfl, rfl⟩) | (go_at_call 103; refine (HB.out _).mono ?_; rintro e w1 ⟨rfl, rfl⟩))
    go_quiet (fail)
    go_wp2_with fail
    refine (HCK.out _).mono ?_
    rintro e w2 ⟨rfl, hb2⟩
    obtain ⟨b0, b1, b2, b3⟩ : box4 w2 w.heap.size (3) s 0 p 0 c := box4.on hb2 (box4_drewN box_new _)
    go_wp2_with fail
    go_loopw [10] (fun i wr => ∃ k : Nat, k ≤ 0 ∧ Hid (bad false (preL (l.take k)) = 0) ∧ i = .int .i64 (k : Nat) ∧ Hid (Below w.heap.size w wr) ∧ Hid (box4 wr w.heap.size (3) s 0 p 0 c)) (fun i _ => 0 - (intOf i).toNat)
    case atStart => exact ⟨0, Nat.zero_le _, Lib.hid (by rw [List.take_zero, preL, bad]), rfl, Lib.hid (by (repeat (first | (with_reducible exact Below.refl _ _) | (with_reducible assumption) | (with_reducible apply bl_alloc) | (with_reducible apply bl_drewN) | (with_reducible apply bl_drew) | (with_reducible refine bl_set ?_ (by first | (simp; done) | (simp; omega)) _) | (with_reducible refine bl_call ?_ (by assumption))))), Lib.hid ⟨b0, b1, b2, b3⟩⟩
    case round =>
      obtain ⟨k, hk, HT0, rfl, HW, HB4⟩ := hrel
      obtain ⟨b0, b1, b2, b3⟩ := HB4.out
      obtain rfl : k = 0 := by omega
      have hl0 : l = [] := List.length_eq_zero_iff.1 HL.out
      have HR : Hid (bad false (preL l) = 0) := Lib.hid (by rw [hl0, preL, bad])
      clear hl0
      go_wp2_with fail
      go_ret
      exact ⟨by rw [HR.out]; rfl, HW.out⟩
  · rw [if_neg hX0]
    have x1 : (X == 0) = false := beq_eq_false_iff_ne.2 hX0
    clear hkn hnm hct hnb hA hB hfair hR hX
    go_enter Tryz.func101, Tryz.ntmps101
    go_wp2_with (first | (go_at_call 102; refine (HA.out _).mono ?_; rintro e w1 ⟨rfl, rfl⟩) | (go_at_call 103; refine (HB.out _).mono ?_; rintro e w1 ⟨rfl, rfl⟩))
    go_quiet (fail)
    go_wp2_with fail
    refine (HCK.out _).mono ?_
    rintro e w2 ⟨rfl, hb2⟩
    obtain ⟨b0, b1, b2, b3⟩ : box4 w2 w.heap.size (3) s 0 p 0 c := box4.on hb2 (box4_drewN box_new _)
    go_wp2_with fail
    refine (HCK.out _).mono ?_
    rintro e w3 ⟨rfl, hb3⟩
    go_wp2_with fail
    go_ret
    exact ⟨rfl, by (repeat (first | (with_reducible exact Below.refl _ _) | (with_reducible assumption) | (with_reducible apply bl_alloc) | (with_reducible apply bl_drewN) | (with_reducible apply bl_drew) | (with_reducible refine bl_set ?_ (by first | (simp; done) | (simp; omega)) _) | (with_reducible refine bl_call ?_ (by assumption))))⟩
set_option maxRecDepth 100000 in
theorem rn_ObjF (l : List Ex) (ih : IHn false l) (o : Int) (h22 : 22 ≤ o) (h24 : o ≤ 24) (s : ByteArray) (n : Int) (p : Option Addr) (m c : Nat) (w : World) (h : In w (.mk o s n l) p m) (hs : Sz (.mk o s n l)) : Calls Tryz.prog 101 #[.agg #[.int .i64 (o), .string s, .int .i64 n, .slice p m c], .bool false] w (Gives (.int .i64 (bad false (pre (.mk o s n l)))) w) := by
  have HH := Lib.hid h
  have HI := Lib.hid ih
  obtain ⟨hl, hm⟩ := h.len
  have HL := Lib.hid hl
  have HS := Lib.hid hs
  have hsz := hs.self
  rw [bad_mk, hl]
  clear ih h hl hs
  obtain ⟨A, hA⟩ : ∃ A, ari o = A := ⟨_, rfl⟩
  have hA1 : 0 ≤ A := by unfold ari at hA; split at hA <;> (try split at hA) <;> (try split at hA) <;> omega
  have hB : obj o = true := by unfold obj; simp; omega
  have HA := Lib.hid (fun W => arity_gives hA W)
  have HB := Lib.hid (fun W => object_gives hB W)
  have t1 : (o == 1) = false := beq_eq_false_iff_ne.2 (by omega)
  have t2 : (o == 2) = false := beq_eq_false_iff_ne.2 (by omega)
  have t3 : (o == 3) = false := beq_eq_false_iff_ne.2 (by omega)
  have t25 : (o == 25) = false := beq_eq_false_iff_ne.2 (by omega)
  have t26 : (o == 26) = false := beq_eq_false_iff_ne.2 (by omega)
  have u3 : (o != 3) = true := bne_iff_ne.2 (by omega)
  have v3 : ¬ o = 3 := by omega
  have hkn : known false o = true := by unfold known; rw [hA]; rw [decide_eq_true hA1]; simp; omega
  have hnm : named false o = true := by unfold named; rw [hB]; simp
  have hct : counted false o = false := by unfold counted; rw [hB]; simp
  have hnb : numbered false o = false := by unfold numbered; rw [hct]; simp; omega
  by_cases hn0 : n = 0
  rotate_left
  · have f0 : (n == 0) = false := beq_eq_false_iff_ne.2 hn0
    have HV := Lib.hid (show nd false o (bs s) n m = 1 from nb_n hnb hn0)
    rw [HV.out, if_neg (by decide)]
    clear hkn hnm hct hnb hA hB hn0
    go_enter Tryz.func101, Tryz.ntmps101
    go_wp2_with (first | (go_at_call 102; refine (HA.out _).mono ?_; rintro e w1 ⟨rfl, rfl⟩) | (go_at_call 103; refine (HB.out _).mono ?_; rintro e w1 ⟨rfl, rfl⟩))
    go_ret
    exact ⟨rfl, by (repeat (first | (with_reducible exact Below.refl _ _) | (with_reducible assumption) | (with_reducible apply bl_alloc) | (with_reducible apply bl_drewN) | (with_reducible apply bl_drew) | (with_reducible refine bl_set ?_ (by first | (simp; done) | (simp; omega)) _) | (with_reducible refine bl_call ?_ (by assumption))))⟩
  subst hn0
  by_cases hmA : (m : Int) = A
  rotate_left
  · have g0 : ((m : Int) == A) = false := beq_eq_false_iff_ne.2 hmA
    have g1 : ((m : Int) != A) = true := bne_iff_ne.2 hmA
    have HV := Lib.hid (show nd false o (bs s) 0 m = 1 from nb_m hA hmA)
    rw [HV.out, if_neg (by decide)]
    clear hkn hnm hct hnb hA hB
    go_enter Tryz.func101, Tryz.ntmps101
    go_wp2_with (first | (go_at_call 102; refine (HA.out _).mono ?_; rintro e w1 ⟨rfl, rfl⟩) | (go_at_call 103; refine (HB.out _).mono ?_; rintro e w1 ⟨rfl, rfl⟩))
    go_ret
    exact ⟨rfl, by (repeat (first | (with_reducible exact Below.refl _ _) | (with_reducible assumption) | (with_reducible apply bl_alloc) | (with_reducible apply bl_drewN) | (with_reducible apply bl_drew) | (with_reducible refine bl_set ?_ (by first | (simp; done) | (simp; omega)) _) | (with_reducible refine bl_call ?_ (by assumption))))⟩
  subst hmA
  have hfair := nb_fair (s := bs s) (n := 0) (m := m) hkn hnm hnb hA (.inl rfl) (.inr rfl) rfl
  have hR : badR false o 0 = false := by unfold badR; rw [hct]; simp; omega
  rw [hfair.trans (show _ = chk (bs s) by rw [hR]; rfl)]
  have HCK := Lib.hid (fun W => rcheck_gives (s := s) rfl (by omega) W)
  obtain ⟨X, hX⟩ : ∃ X, chk (bs s) = X := ⟨_, rfl⟩
  rw [hX] at HCK ⊢
  by_cases hX0 : X = 0
  · subst hX0
    rw [if_pos rfl]
    clear hkn hnm hct hnb hA hB hfair hR hX
    go_enter Tryz.func101, Tryz.ntmps101
    go_wp2_with (first | (go_at_call 102; refine (HA.out _).mono ?_; rintro e w1 ⟨rfl, rfl⟩) | (go_at_call 103; refine (HB.out _).mono ?_; rintro e w1 ⟨rfl, rfl⟩))
    go_quiet (fail)
    go_wp2_with fail
    refine (HCK.out _).mono ?_
    rintro e w2 ⟨rfl, hb2⟩
    obtain ⟨b0, b1, b2, b3⟩ : box4 w2 w.heap.size o s 0 p m c := box4.on hb2 (box4_drewN box_new _)
    go_wp2_with fail
    go_loopw [10] (fun i wr => ∃ k : Nat, k ≤ m ∧ Hid (bad false (preL (l.take k)) = 0) ∧ i = .int .i64 (k : Nat) ∧ Hid (Below w.heap.size w wr) ∧ Hid (box4 wr w.heap.size o s 0 p m c)) (fun i _ => m - (intOf i).toNat)
    case atStart => exact ⟨0, Nat.zero_le _, Lib.hid (by rw [List.take_zero, preL, bad]), rfl, Lib.hid (by (repeat (first | (with_reducible exact Below.refl _ _) | (with_reducible assumption) | (with_reducible apply bl_alloc) | (with_reducible apply bl_drewN) | (with_reducible apply bl_drew) | (with_reducible refine bl_set ?_ (by first | (simp; done) | (simp; omega)) _) | (with_reducible refine bl_call ?_ (by assumption))))), Lib.hid ⟨b0, b1, b2, b3⟩⟩
    case round =>
      obtain ⟨k, hk, HT0, rfl, HW, HB4⟩ := hrel
      obtain ⟨b0, b1, b2, b3⟩ := HB4.out
      have k0 : (0 : Int) ≤ (k : Int) := by omega
      rcases Nat.lt_or_ge k m with h | h
      · have k1 : (k : Int) < (m : Int) := by omega
        obtain ⟨b, o', rfl, -, hG, hcell⟩ := HH.out.kids (by omega)
        have hkl : k < l.length := by rw [HL.out]; omega
        obtain ⟨q, j, c', hc4, hkin⟩ := hcell.out k hkl
        have hmem : l[k] ∈ l := List.getElem_mem hkl
        have hgx : l[k]? = some l[k] := List.getElem?_eq_getElem hkl
        obtain ⟨x, hx⟩ : ∃ x, l[k] = x := ⟨_, rfl⟩
        rw [hx] at hc4 hkin hmem hgx
        obtain ⟨e0, e1, e2, e3⟩ := hc4.on HW.out hG
        have HKIN := Lib.hid hkin
        have HX := Lib.hid hgx
        have HM := Lib.hid hmem
        clear hcell hc4 hkin hx hmem hgx hkl
        have HSP := Lib.hid (badL_stop (c := false) HX.out HT0.out)
        have HE := Lib.hid (badL_step (c := false) HX.out HT0.out)
        have HI1 := HI.out x HM.out q j c' wr (HKIN.out.on HW.out) (HS.out.kid HM.out)
        obtain ⟨E, hE⟩ : ∃ E, bad false (pre x) = E := ⟨_, rfl⟩
        rw [hE] at HI1 HSP HE
        clear hE
        go_wp2_with fail
        refine HI1.mono ?_
        rintro e w2 ⟨rfl, hb2⟩
        have HW2 : Hid (Below w.heap.size w w2) := Lib.hid (by have HBB := HW.out; (repeat (first | (with_reducible exact Below.refl _ _) | (with_reducible assumption) | (with_reducible apply bl_alloc) | (with_reducible apply bl_drewN) | (with_reducible apply bl_drew) | (with_reducible refine bl_set ?_ (by first | (simp; done) | (simp; omega)) _) | (with_reducible refine bl_call ?_ (by assumption)))))
        have HB5 := Lib.hid (HB4.out.on hb2)
        clear hb2 HI1
        by_cases hE0 : E = 0
        · subst hE0
          have HR := HE.out
          have HR2 := Lib.hid HR
          clear HR
          go_wp2_with fail
          go_roundw
          case rel => exact ⟨k + 1, by omega, HR2, by go_num, HW2, HB5⟩
          case measure => simp [intOf]; omega
        · have e1 : (E == 0) = false := beq_eq_false_iff_ne.2 hE0
          have HR := Lib.hid (HSP.out hE0)
          go_wp2_with fail
          go_ret
          exact ⟨by rw [HR.out]; rfl, HW2.out⟩
      · obtain rfl : m = k := by omega
        have HT : Hid (l.take m = l) := Lib.hid (List.take_of_length_le (by rw [HL.out]; exact Nat.le_refl _))
        rw [HT.out] at HT0
        go_wp2_with fail
        go_ret
        exact ⟨by rw [HT0.out]; rfl, HW.out⟩
  · rw [if_neg hX0]
    have x1 : (X == 0) = false := beq_eq_false_iff_ne.2 hX0
    clear hkn hnm hct hnb hA hB hfair hR hX
    go_enter Tryz.func101, Tryz.ntmps101
    go_wp2_with (first | (go_at_call 102; refine (HA.out _).mono ?_; rintro e w1 ⟨rfl, rfl⟩) | (go_at_call 103; refine (HB.out _).mono ?_; rintro e w1 ⟨rfl, rfl⟩))
    go_quiet (fail)
    go_wp2_with fail
    refine (HCK.out _).mono ?_
    rintro e w2 ⟨rfl, hb2⟩
    obtain ⟨b0, b1, b2, b3⟩ : box4 w2 w.heap.size o s 0 p m c := box4.on hb2 (box4_drewN box_new _)
    go_wp2_with fail
    refine (HCK.out _).mono ?_
    rintro e w3 ⟨rfl, hb3⟩
    go_wp2_with fail
    go_ret
    exact ⟨rfl, by (repeat (first | (with_reducible exact Below.refl _ _) | (with_reducible assumption) | (with_reducible apply bl_alloc) | (with_reducible apply bl_drewN) | (with_reducible apply bl_drew) | (with_reducible refine bl_set ?_ (by first | (simp; done) | (simp; omega)) _) | (with_reducible refine bl_call ?_ (by assumption))))⟩
set_option maxRecDepth 100000 in
theorem rn_ThreeT (l : List Ex) (ih : IHn true l) (s : ByteArray) (n : Int) (p : Option Addr) (m c : Nat) (w : World) (h : In w (.mk (3) s n l) p m) (hs : Sz (.mk (3) s n l)) : Calls Tryz.prog 101 #[.agg #[.int .i64 (3), .string s, .int .i64 n, .slice p m c], .bool true] w (Gives (.int .i64 (bad true (pre (.mk (3) s n l)))) w) := by
  have HH := Lib.hid h
  have HI := Lib.hid ih
  obtain ⟨hl, hm⟩ := h.len
  have HL := Lib.hid hl
  have HS := Lib.hid hs
  have hsz := hs.self
  rw [bad_mk, hl]
  clear ih h hl hs
  have hA : ari (3) = 0 := rfl
  have hB : obj (3) = false := rfl
  have HA := Lib.hid (fun W => arity_gives hA W)
  have HB := Lib.hid (fun W => object_gives hB W)
  have hkn : known true (3) = false := rfl
  have HV := Lib.hid (show nd true (3) (bs s) n m = 1 from nb_kn hkn)
  rw [HV.out, if_neg (by decide)]
  clear hkn hA hB
  go_enter Tryz.func101, Tryz.ntmps101
  go_wp2_with (first | (go_at_call 102; refine (HA.out _).mono ?_; rintro e w1 ⟨rfl, rfl⟩) | (go_at_call 103; refine (HB.out _).mono ?_; rintro e w1 ⟨rfl, rfl⟩))
  go_ret
  exact ⟨rfl, by (repeat (first | (with_reducible exact Below.refl _ _) | (with_reducible assumption) | (with_reducible apply bl_alloc) | (with_reducible apply bl_drewN) | (with_reducible apply bl_drew) | (with_reducible refine bl_set ?_ (by first | (simp; done) | (simp; omega)) _) | (with_reducible refine bl_call ?_ (by assumption))))⟩
set_option maxRecDepth 100000 in
theorem rn_LowT (l : List Ex) (ih : IHn true l) (o : Int) (h1 : o < 1) (s : ByteArray) (n : Int) (p : Option Addr) (m c : Nat) (w : World) (h : In w (.mk o s n l) p m) (hs : Sz (.mk o s n l)) : Calls Tryz.prog 101 #[.agg #[.int .i64 (o), .string s, .int .i64 n, .slice p m c], .bool true] w (Gives (.int .i64 (bad true (pre (.mk o s n l)))) w) := by
  have HH := Lib.hid h
  have HI := Lib.hid ih
  obtain ⟨hl, hm⟩ := h.len
  have HL := Lib.hid hl
  have HS := Lib.hid hs
  have hsz := hs.self
  rw [bad_mk, hl]
  clear ih h hl hs
  obtain ⟨A, hA⟩ : ∃ A, ari o = A := ⟨_, rfl⟩
  have hA1 : A < 0 := by unfold ari at hA; rw [if_pos (by omega)] at hA; omega
  have hB : obj o = false := by unfold obj; simp; omega
  have HA := Lib.hid (fun W => arity_gives hA W)
  have HB := Lib.hid (fun W => object_gives hB W)
  have t1 : (o == 1) = false := beq_eq_false_iff_ne.2 (by omega)
  have t2 : (o == 2) = false := beq_eq_false_iff_ne.2 (by omega)
  have t3 : (o == 3) = false := beq_eq_false_iff_ne.2 (by omega)
  have t25 : (o == 25) = false := beq_eq_false_iff_ne.2 (by omega)
  have t26 : (o == 26) = false := beq_eq_false_iff_ne.2 (by omega)
  have u3 : (o != 3) = true := bne_iff_ne.2 (by omega)
  have v3 : ¬ o = 3 := by omega
  have hkn : known true o = false := by unfold known; rw [hA]; rw [decide_eq_false (by omega)]; rfl
  have HV := Lib.hid (show nd true o (bs s) n m = 1 from nb_kn hkn)
  rw [HV.out, if_neg (by decide)]
  clear hkn hA hB
  go_enter Tryz.func101, Tryz.ntmps101
  go_wp2_with (first | (go_at_call 102; refine (HA.out _).mono ?_; rintro e w1 ⟨rfl, rfl⟩) | (go_at_call 103; refine (HB.out _).mono ?_; rintro e w1 ⟨rfl, rfl⟩))
  go_ret
  exact ⟨rfl, by (repeat (first | (with_reducible exact Below.refl _ _) | (with_reducible assumption) | (with_reducible apply bl_alloc) | (with_reducible apply bl_drewN) | (with_reducible apply bl_drew) | (with_reducible refine bl_set ?_ (by first | (simp; done) | (simp; omega)) _) | (with_reducible refine bl_call ?_ (by assumption))))⟩
end Go.Proofs.YtonlmnlpofgccaaGreat.Ex

/-
  The reference's check of a node, by forms: ObjT, HighT.
-/
namespace Go.Proofs.YtonlmnlpofgccaaGreat.Ex
open Go.RowKit
open Go.Proofs.YtonlmnlpofgccaaGreat.Na (bs bs_inj chk)
set_option maxHeartbeats 4000000
set_option linter.unusedVariables false
set_option linter.unusedSimpArgs false
set_option maxRecDepth 100000 in
theorem rn_ObjT (l : List Ex) (ih : IHn true l) (o : Int) (h22 : 22 ≤ o) (h24 : o ≤ 24) (s : ByteArray) (n : Int) (p : Option Addr) (m c : Nat) (w : World) (h : In w (.mk o s n l) p m) (hs : Sz (.mk o s n l)) : Calls Tryz.prog 101 #[.agg #[.int .i64 (o), .string s, .int .i64 n, .slice p m c], .bool true] w (Gives (.int .i64 (bad true (pre (.mk o s n l)))) w) := by
  have HH := Lib.hid h
  have HI := Lib.hid ih
  obtain ⟨hl, hm⟩ := h.len
  have HL := Lib.hid hl
  have HS := Lib.hid hs
  have hsz := hs.self
  rw [bad_mk, hl]
  clear ih h hl hs
  obtain ⟨A, hA⟩ : ∃ A, ari o = A := ⟨_, rfl⟩
  have hA1 : 0 ≤ A := by unfold ari at hA; split at hA <;> (try split at hA) <;> (try split at hA) <;> omega
  have hB : obj o = true := by unfold obj; simp; omega
  have HA := Lib.hid (fun W => arity_gives hA W)
  have HB := Lib.hid (fun W => object_gives hB W)
  have t1 : (o == 1) = false := beq_eq_false_iff_ne.2 (by omega)
  have t2 : (o == 2) = false := beq_eq_false_iff_ne.2 (by omega)
  have t3 : (o == 3) = false := beq_eq_false_iff_ne.2 (by omega)
  have t25 : (o == 25) = false := beq_eq_false_iff_ne.2 (by omega)
  have t26 : (o == 26) = false := beq_eq_false_iff_ne.2 (by omega)
  have u3 : (o != 3) = true := bne_iff_ne.2 (by omega)
  have v3 : ¬ o = 3 := by omega
  have hkn : known true o = true := by unfold known; rw [hA]; rw [decide_eq_true hA1]; simp; omega
  have hnm : named true o = false := by unfold named; rw [hB]; simp
  have hct : counted true o = true := by unfold counted; rw [hB]; simp
  have hnb : numbered true o = true := by unfold numbered; rw [hct]; simp
  by_cases hs0 : bs s = []
  rotate_left
  · have e0 := emp_no' hs0
    have HV := Lib.hid (show nd true o (bs s) n m = 1 from nb_s hnm hs0)
    rw [HV.out, if_neg (by decide)]
    clear hkn hnm hct hnb hA hB hs0
    go_enter Tryz.func101, Tryz.ntmps101
    go_wp2_with (first | (go_at_call 102; refine (HA.out _).mono ?_; rintro e w1 ⟨rfl, rfl⟩) | (go_at_call 103; refine (HB.out _).mono ?_; rintro e w1 ⟨rfl, rfl⟩))
    go_ret
    exact ⟨rfl, by (repeat (first | (with_reducible exact Below.refl _ _) | (with_reducible assumption) | (with_reducible apply bl_alloc) | (with_reducible apply bl_drewN) | (with_reducible apply bl_drew) | (with_reducible refine bl_set ?_ (by first | (simp; done) | (simp; omega)) _) | (with_reducible refine bl_call ?_ (by assumption))))⟩
  have e0 := emp_yes' hs0
  by_cases hmA : (m : Int) = A
  rotate_left
  · have g0 : ((m : Int) == A) = false := beq_eq_false_iff_ne.2 hmA
    have g1 : ((m : Int) != A) = true := bne_iff_ne.2 hmA
    have HV := Lib.hid (show nd true o (bs s) n m = 1 from nb_m hA hmA)
    rw [HV.out, if_neg (by decide)]
    clear hkn hnm hct hnb hA hB hs0
    go_enter Tryz.func101, Tryz.ntmps101
    go_wp2_with (first | (go_at_call 102; refine (HA.out _).mono ?_; rintro e w1 ⟨rfl, rfl⟩) | (go_at_call 103; refine (HB.out _).mono ?_; rintro e w1 ⟨rfl, rfl⟩))
    go_ret
    exact ⟨rfl, by (repeat (first | (with_reducible exact Below.refl _ _) | (with_reducible assumption) | (with_reducible apply bl_alloc) | (with_reducible apply bl_drewN) | (with_reducible apply bl_drew) | (with_reducible refine bl_set ?_ (by first | (simp; done) | (simp; omega)) _) | (with_reducible refine bl_call ?_ (by assumption))))⟩
  subst hmA
  have hfair := nb_fair (s := bs s) (n := n) (m := m) hkn hnm hnb hA (.inr hs0) (.inl rfl) rfl
  obtain ⟨M, hM⟩ : ∃ M, most o = M := ⟨_, rfl⟩
  have HMO := Lib.hid (fun W => most_gives hM W)
  by_cases hn0 : n < 0
  · have f0 : decide (n < 0) = true := decide_eq_true hn0
    have hR : badR true o n = true := by unfold badR; rw [hct, hM, decide_eq_true hn0]; simp
    rw [hfair.trans (show _ = (2 : Int) by rw [hR]; rfl), if_neg (by decide)]
    clear hkn hnm hct hnb hA hB hfair hs0 hR hM
    go_enter Tryz.func101, Tryz.ntmps101
    go_wp2_with (first | (go_at_call 102; refine (HA.out _).mono ?_; rintro e w1 ⟨rfl, rfl⟩) | (go_at_call 103; refine (HB.out _).mono ?_; rintro e w1 ⟨rfl, rfl⟩))
    go_quiet ((go_at_call 105; exact Calls.quiet_of_same (HMO.out _)))
    go_wp2_with fail
    go_ret
    exact ⟨rfl, by (repeat (first | (with_reducible exact Below.refl _ _) | (with_reducible assumption) | (with_reducible apply bl_alloc) | (with_reducible apply bl_drewN) | (with_reducible apply bl_drew) | (with_reducible refine bl_set ?_ (by first | (simp; done) | (simp; omega)) _) | (with_reducible refine bl_call ?_ (by assumption))))⟩
  have f0 : decide (n < 0) = false := decide_eq_false hn0
  by_cases hn1 : M < n
  · have f1 : decide (M < n) = true := decide_eq_true hn1
    have hR : badR true o n = true := by unfold badR; rw [hct, hM, f0, f1]; simp
    rw [hfair.trans (show _ = (2 : Int) by rw [hR]; rfl), if_neg (by decide)]
    clear hkn hnm hct hnb hA hB hfair hs0 hR hM
    go_enter Tryz.func101, Tryz.ntmps101
    go_wp2_with (first | (go_at_call 102; refine (HA.out _).mono ?_; rintro e w1 ⟨rfl, rfl⟩) | (go_at_call 103; refine (HB.out _).mono ?_; rintro e w1 ⟨rfl, rfl⟩))
    go_quiet ((go_at_call 105; exact Calls.quiet_of_same (HMO.out _)))
    go_wp2_with fail
    go_ret
    exact ⟨rfl, by (repeat (first | (with_reducible exact Below.refl _ _) | (with_reducible assumption) | (with_reducible apply bl_alloc) | (with_reducible apply bl_drewN) | (with_reducible apply bl_drew) | (with_reducible refine bl_set ?_ (by first | (simp; done) | (simp; omega)) _) | (with_reducible refine bl_call ?_ (by assumption))))⟩
  have f1 : decide (M < n) = false := decide_eq_false hn1
  have hR : badR true o n = false := by unfold badR; rw [hct, hM, f0, f1]; simp; omega
  rw [hfair.trans (show _ = (0 : Int) by rw [hR]; rfl), if_pos rfl]
  clear hkn hnm hct hnb hA hB hfair hs0 hR hM
  go_enter Tryz.func101, Tryz.ntmps101
  go_wp2_with (first | (go_at_call 102; refine (HA.out _).mono ?_; rintro e w1 ⟨rfl, rfl⟩) | (go_at_call 103; refine (HB.out _).mono ?_; rintro e w1 ⟨rfl, rfl⟩))
  go_quiet ((go_at_call 105; exact Calls.quiet_of_same (HMO.out _)))
  go_wp2_with fail
  go_loopw [10] (fun i wr => ∃ k : Nat, k ≤ m ∧ Hid (bad true (preL (l.take k)) = 0) ∧ i = .int .i64 (k : Nat) ∧ Hid (Below w.heap.size w wr) ∧ Hid (box4 wr w.heap.size o s n p m c)) (fun i _ => m - (intOf i).toNat)
  case atStart => exact ⟨0, Nat.zero_le _, Lib.hid (by rw [List.take_zero, preL, bad]), rfl, Lib.hid (by (repeat (first | (with_reducible exact Below.refl _ _) | (with_reducible assumption) | (with_reducible apply bl_alloc) | (with_reducible apply bl_drewN) | (with_reducible apply bl_drew) | (with_reducible refine bl_set ?_ (by first | (simp; done) | (simp; omega)) _) | (with_reducible refine bl_call ?_ (by assumption))))), Lib.hid box_new⟩
  case round =>
    obtain ⟨k, hk, HT0, rfl, HW, HB4⟩ := hrel
    obtain ⟨b0, b1, b2, b3⟩ := HB4.out
    have k0 : (0 : Int) ≤ (k : Int) := by omega
    rcases Nat.lt_or_ge k m with h | h
    · have k1 : (k : Int) < (m : Int) := by omega
      obtain ⟨b, o', rfl, -, hG, hcell⟩ := HH.out.kids (by omega)
      have hkl : k < l.length := by rw [HL.out]; omega
      obtain ⟨q, j, c', hc4, hkin⟩ := hcell.out k hkl
      have hmem : l[k] ∈ l := List.getElem_mem hkl
      have hgx : l[k]? = some l[k] := List.getElem?_eq_getElem hkl
      obtain ⟨x, hx⟩ : ∃ x, l[k] = x := ⟨_, rfl⟩
      rw [hx] at hc4 hkin hmem hgx
      obtain ⟨e0, e1, e2, e3⟩ := hc4.on HW.out hG
      have HKIN := Lib.hid hkin
      have HX := Lib.hid hgx
      have HM := Lib.hid hmem
      clear hcell hc4 hkin hx hmem hgx hkl
      have HSP := Lib.hid (badL_stop (c := true) HX.out HT0.out)
      have HE := Lib.hid (badL_step (c := true) HX.out HT0.out)
      have HI1 := HI.out x HM.out q j c' wr (HKIN.out.on HW.out) (HS.out.kid HM.out)
      obtain ⟨E, hE⟩ : ∃ E, bad true (pre x) = E := ⟨_, rfl⟩
      rw [hE] at HI1 HSP HE
      clear hE
      go_wp2_with fail
      refine HI1.mono ?_
      rintro e w2 ⟨rfl, hb2⟩
      have HW2 : Hid (Below w.heap.size w w2) := Lib.hid (by have HBB := HW.out; (repeat (first | (with_reducible exact Below.refl _ _) | (with_reducible assumption) | (with_reducible apply bl_alloc) | (with_reducible apply bl_drewN) | (with_reducible apply bl_drew) | (with_reducible refine bl_set ?_ (by first | (simp; done) | (simp; omega)) _) | (with_reducible refine bl_call ?_ (by assumption)))))
      have HB5 := Lib.hid (HB4.out.on hb2)
      clear hb2 HI1
      by_cases hE0 : E = 0
      · subst hE0
        have HR := HE.out
        have HR2 := Lib.hid HR
        clear HR
        go_wp2_with fail
        go_roundw
        case rel => exact ⟨k + 1, by omega, HR2, by go_num, HW2, HB5⟩
        case measure => simp [intOf]; omega
      · have e1 : (E == 0) = false := beq_eq_false_iff_ne.2 hE0
        have HR := Lib.hid (HSP.out hE0)
        go_wp2_with fail
        go_ret
        exact ⟨by rw [HR.out]; rfl, HW2.out⟩
    · obtain rfl : m = k := by omega
      have HT : Hid (l.take m = l) := Lib.hid (List.take_of_length_le (by rw [HL.out]; exact Nat.le_refl _))
      rw [HT.out] at HT0
      go_wp2_with fail
      go_ret
      exact ⟨by rw [HT0.out]; rfl, HW.out⟩
set_option maxRecDepth 100000 in
theorem rn_HighT (l : List Ex) (ih : IHn true l) (o : Int) (h26 : 26 < o) (s : ByteArray) (n : Int) (p : Option Addr) (m c : Nat) (w : World) (h : In w (.mk o s n l) p m) (hs : Sz (.mk o s n l)) : Calls Tryz.prog 101 #[.agg #[.int .i64 (o), .string s, .int .i64 n, .slice p m c], .bool true] w (Gives (.int .i64 (bad true (pre (.mk o s n l)))) w) := by
  have HH := Lib.hid h
  have HI := Lib.hid ih
  obtain ⟨hl, hm⟩ := h.len
  have HL := Lib.hid hl
  have HS := Lib.hid hs
  have hsz := hs.self
  rw [bad_mk, hl]
  clear ih h hl hs
  obtain ⟨A, hA⟩ : ∃ A, ari o = A := ⟨_, rfl⟩
  have hA1 : A < 0 := by unfold ari at hA; rw [if_pos (by omega)] at hA; omega
  have hB : obj o = false := by unfold obj; simp; omega
  have HA := Lib.hid (fun W => arity_gives hA W)
  have HB := Lib.hid (fun W => object_gives hB W)
  have t1 : (o == 1) = false := beq_eq_false_iff_ne.2 (by omega)
  have t2 : (o == 2) = false := beq_eq_false_iff_ne.2 (by omega)
  have t3 : (o == 3) = false := beq_eq_false_iff_ne.2 (by omega)
  have t25 : (o == 25) = false := beq_eq_false_iff_ne.2 (by omega)
  have t26 : (o == 26) = false := beq_eq_false_iff_ne.2 (by omega)
  have u3 : (o != 3) = true := bne_iff_ne.2 (by omega)
  have v3 : ¬ o = 3 := by omega
  have hkn : known true o = false := by unfold known; rw [hA]; rw [decide_eq_false (by omega)]; rfl
  have HV := Lib.hid (show nd true o (bs s) n m = 1 from nb_kn hkn)
  rw [HV.out, if_neg (by decide)]
  clear hkn hA hB
  go_enter Tryz.func101, Tryz.ntmps101
  go_wp2_with (first | (go_at_call 102; refine (HA.out _).mono ?_; rintro e w1 ⟨rfl, rfl⟩) | (go_at_call 103; refine (HB.out _).mono ?_; rintro e w1 ⟨rfl, rfl⟩))
  go_ret
  exact ⟨rfl, by (repeat (first | (with_reducible exact Below.refl _ _) | (with_reducible assumption) | (with_reducible apply bl_alloc) | (with_reducible apply bl_drewN) | (with_reducible apply bl_drew) | (with_reducible refine bl_set ?_ (by first | (simp; done) | (simp; omega)) _) | (with_reducible refine bl_call ?_ (by assumption))))⟩
end Go.Proofs.YtonlmnlpofgccaaGreat.Ex

/-
  The reference's check of a node, by forms: SlotT, VarT.
-/
namespace Go.Proofs.YtonlmnlpofgccaaGreat.Ex
open Go.RowKit
open Go.Proofs.YtonlmnlpofgccaaGreat.Na (bs bs_inj chk)
set_option maxHeartbeats 4000000
set_option linter.unusedVariables false
set_option linter.unusedSimpArgs false
set_option maxRecDepth 100000 in
theorem rn_SlotT (l : List Ex) (ih : IHn true l) (s : ByteArray) (n : Int) (p : Option Addr) (m c : Nat) (w : World) (h : In w (.mk (25) s n l) p m) (hs : Sz (.mk (25) s n l)) : Calls Tryz.prog 101 #[.agg #[.int .i64 (25), .string s, .int .i64 n, .slice p m c], .bool true] w (Gives (.int .i64 (bad true (pre (.mk (25) s n l)))) w) := by
  have HH := Lib.hid h
  have HI := Lib.hid ih
  obtain ⟨hl, hm⟩ := h.len
  have HL := Lib.hid hl
  have HS := Lib.hid hs
  have hsz := hs.self
  rw [bad_mk, hl]
  clear ih h hl hs
  have hA : ari (25) = 0 := rfl
  have hB : obj (25) = false := rfl
  have HA := Lib.hid (fun W => arity_gives hA W)
  have HB := Lib.hid (fun W => object_gives hB W)
  have hkn : known true (25) = true := rfl
  have hnm : named true (25) = false := rfl
  have hct : counted true (25) = true := rfl
  have hnb : numbered true (25) = true := rfl
  by_cases hs0 : bs s = []
  rotate_left
  · have e0 := emp_no' hs0
    have HV := Lib.hid (show nd true (25) (bs s) n m = 1 from nb_s hnm hs0)
    rw [HV.out, if_neg (by decide)]
    clear hkn hnm hct hnb hA hB hs0
    go_enter Tryz.func101, Tryz.ntmps101
    go_wp2_with (first | (go_at_call 102; refine (HA.out _).mono ?_; rintro e w1 ⟨rfl, rfl⟩) | (go_at_call 103; refine (HB.out _).mono ?_; rintro e w1 ⟨rfl, rfl⟩))
    go_ret
    exact ⟨rfl, by (repeat (first | (with_reducible exact Below.refl _ _) | (with_reducible assumption) | (with_reducible apply bl_alloc) | (with_reducible apply bl_drewN) | (with_reducible apply bl_drew) | (with_reducible refine bl_set ?_ (by first | (simp; done) | (simp; omega)) _) | (with_reducible refine bl_call ?_ (by assumption))))⟩
  have e0 := emp_yes' hs0
  by_cases hmA : (m : Int) = 0
  rotate_left
  · have g0 : ((m : Int) == 0) = false := beq_eq_false_iff_ne.2 hmA
    have g1 : ((m : Int) != 0) = true := bne_iff_ne.2 hmA
    have HV := Lib.hid (show nd true (25) (bs s) n m = 1 from nb_m hA hmA)
    rw [HV.out, if_neg (by decide)]
    clear hkn hnm hct hnb hA hB hs0
    go_enter Tryz.func101, Tryz.ntmps101
    go_wp2_with (first | (go_at_call 102; refine (HA.out _).mono ?_; rintro e w1 ⟨rfl, rfl⟩) | (go_at_call 103; refine (HB.out _).mono ?_; rintro e w1 ⟨rfl, rfl⟩))
    go_ret
    exact ⟨rfl, by (repeat (first | (with_reducible exact Below.refl _ _) | (with_reducible assumption) | (with_reducible apply bl_alloc) | (with_reducible apply bl_drewN) | (with_reducible apply bl_drew) | (with_reducible refine bl_set ?_ (by first | (simp; done) | (simp; omega)) _) | (with_reducible refine bl_call ?_ (by assumption))))⟩
  obtain rfl : m = 0 := by omega
  have hfair := nb_fair (s := bs s) (n := n) (m := 0) hkn hnm hnb hA (.inr hs0) (.inl rfl) rfl
  obtain ⟨M, hM⟩ : ∃ M, most (25) = M := ⟨_, rfl⟩
  have HMO := Lib.hid (fun W => most_gives hM W)
  by_cases hn0 : n < 0
  · have f0 : decide (n < 0) = true := decide_eq_true hn0
    have hR : badR true (25) n = true := by unfold badR; rw [hct, hM, decide_eq_true hn0]; simp
    rw [hfair.trans (show _ = (2 : Int) by rw [hR]; rfl), if_neg (by decide)]
    clear hkn hnm hct hnb hA hB hfair hs0 hR hM
    go_enter Tryz.func101, Tryz.ntmps101
    go_wp2_with (first | (go_at_call 102; refine (HA.out _).mono ?_; rintro e w1 ⟨rfl, rfl⟩) | (go_at_call 103; refine (HB.out _).mono ?_; rintro e w1 ⟨rfl, rfl⟩))
    go_quiet ((go_at_call 105; exact Calls.quiet_of_same (HMO.out _)))
    go_wp2_with fail
    go_ret
    exact ⟨rfl, by (repeat (first | (with_reducible exact Below.refl _ _) | (with_reducible assumption) | (with_reducible apply bl_alloc) | (with_reducible apply bl_drewN) | (with_reducible apply bl_drew) | (with_reducible refine bl_set ?_ (by first | (simp; done) | (simp; omega)) _) | (with_reducible refine bl_call ?_ (by assumption))))⟩
  have f0 : decide (n < 0) = false := decide_eq_false hn0
  by_cases hn1 : M < n
  · have f1 : decide (M < n) = true := decide_eq_true hn1
    have hR : badR true (25) n = true := by unfold badR; rw [hct, hM, f0, f1]; simp
    rw [hfair.trans (show _ = (2 : Int) by rw [hR]; rfl), if_neg (by decide)]
    clear hkn hnm hct hnb hA hB hfair hs0 hR hM
    go_enter Tryz.func101, Tryz.ntmps101
    go_wp2_with (first | (go_at_call 102; refine (HA.out _).mono ?_; rintro e w1 ⟨rfl, rfl⟩) | (go_at_call 103; refine (HB.out _).mono ?_; rintro e w1 ⟨rfl, rfl⟩))
    go_quiet ((go_at_call 105; exact Calls.quiet_of_same (HMO.out _)))
    go_wp2_with fail
    go_ret
    exact ⟨rfl, by (repeat (first | (with_reducible exact Below.refl _ _) | (with_reducible assumption) | (with_reducible apply bl_alloc) | (with_reducible apply bl_drewN) | (with_reducible apply bl_drew) | (with_reducible refine bl_set ?_ (by first | (simp; done) | (simp; omega)) _) | (with_reducible refine bl_call ?_ (by assumption))))⟩
  have f1 : decide (M < n) = false := decide_eq_false hn1
  have hR : badR true (25) n = false := by unfold badR; rw [hct, hM, f0, f1]; simp
  rw [hfair.trans (show _ = (0 : Int) by rw [hR]; rfl), if_pos rfl]
  clear hkn hnm hct hnb hA hB hfair hs0 hR hM
  go_enter Tryz.func101, Tryz.ntmps101
  go_wp2_with (first | (go_at_call 102; refine (HA.out _).mono ?_; rintro e w1 ⟨rfl, rfl⟩) | (go_at_call 103; refine (HB.out _).mono ?_; rintro e w1 ⟨rfl, rfl⟩))
  go_quiet ((go_at_call 105; exact Calls.quiet_of_same (HMO.out _)))
  go_wp2_with fail
  go_loopw [10] (fun i wr => ∃ k : Nat, k ≤ 0 ∧ Hid (bad true (preL (l.take k)) = 0) ∧ i = .int .i64 (k : Nat) ∧ Hid (Below w.heap.size w wr) ∧ Hid (box4 wr w.heap.size (25) s n p 0 c)) (fun i _ => 0 - (intOf i).toNat)
  case atStart => exact ⟨0, Nat.zero_le _, Lib.hid (by rw [List.take_zero, preL, bad]), rfl, Lib.hid (by (repeat (first | (with_reducible exact Below.refl _ _) | (with_reducible assumption) | (with_reducible apply bl_alloc) | (with_reducible apply bl_drewN) | (with_reducible apply bl_drew) | (with_reducible refine bl_set ?_ (by first | (simp; done) | (simp; omega)) _) | (with_reducible refine bl_call ?_ (by assumption))))), Lib.hid box_new⟩
  case round =>
    obtain ⟨k, hk, HT0, rfl, HW, HB4⟩ := hrel
    obtain ⟨b0, b1, b2, b3⟩ := HB4.out
    obtain rfl : k = 0 := by omega
    have hl0 : l = [] := List.length_eq_zero_iff.1 HL.out
    have HR : Hid (bad true (preL l) = 0) := Lib.hid (by rw [hl0, preL, bad])
    clear hl0
    go_wp2_with fail
    go_ret
    exact ⟨by rw [HR.out]; rfl, HW.out⟩
set_option maxRecDepth 100000 in
theorem rn_VarT (l : List Ex) (ih : IHn true l) (s : ByteArray) (n : Int) (p : Option Addr) (m c : Nat) (w : World) (h : In w (.mk (26) s n l) p m) (hs : Sz (.mk (26) s n l)) : Calls Tryz.prog 101 #[.agg #[.int .i64 (26), .string s, .int .i64 n, .slice p m c], .bool true] w (Gives (.int .i64 (bad true (pre (.mk (26) s n l)))) w) := by
  have HH := Lib.hid h
  have HI := Lib.hid ih
  obtain ⟨hl, hm⟩ := h.len
  have HL := Lib.hid hl
  have HS := Lib.hid hs
  have hsz := hs.self
  rw [bad_mk, hl]
  clear ih h hl hs
  have hA : ari (26) = 0 := rfl
  have hB : obj (26) = false := rfl
  have HA := Lib.hid (fun W => arity_gives hA W)
  have HB := Lib.hid (fun W => object_gives hB W)
  have hkn : known true (26) = true := rfl
  have hnm : named true (26) = false := rfl
  have hct : counted true (26) = true := rfl
  have hnb : numbered true (26) = true := rfl
  by_cases hs0 : bs s = []
  rotate_left
  · have e0 := emp_no' hs0
    have HV := Lib.hid (show nd true (26) (bs s) n m = 1 from nb_s hnm hs0)
    rw [HV.out, if_neg (by decide)]
    clear hkn hnm hct hnb hA hB hs0
    go_enter Tryz.func101, Tryz.ntmps101
    go_wp2_with (first | (go_at_call 102; refine (HA.out _).mono ?_; rintro e w1 ⟨rfl, rfl⟩) | (go_at_call 103; refine (HB.out _).mono ?_; rintro e w1 ⟨rfl, rfl⟩))
    go_ret
    exact ⟨rfl, by (repeat (first | (with_reducible exact Below.refl _ _) | (with_reducible assumption) | (with_reducible apply bl_alloc) | (with_reducible apply bl_drewN) | (with_reducible apply bl_drew) | (with_reducible refine bl_set ?_ (by first | (simp; done) | (simp; omega)) _) | (with_reducible refine bl_call ?_ (by assumption))))⟩
  have e0 := emp_yes' hs0
  by_cases hmA : (m : Int) = 0
  rotate_left
  · have g0 : ((m : Int) == 0) = false := beq_eq_false_iff_ne.2 hmA
    have g1 : ((m : Int) != 0) = true := bne_iff_ne.2 hmA
    have HV := Lib.hid (show nd true (26) (bs s) n m = 1 from nb_m hA hmA)
    rw [HV.out, if_neg (by decide)]
    clear hkn hnm hct hnb hA hB hs0
    go_enter Tryz.func101, Tryz.ntmps101
    go_wp2_with (first | (go_at_call 102; refine (HA.out _).mono ?_; rintro e w1 ⟨rfl, rfl⟩) | (go_at_call 103; refine (HB.out _).mono ?_; rintro e w1 ⟨rfl, rfl⟩))
    go_ret
    exact ⟨rfl, by (repeat (first | (with_reducible exact Below.refl _ _) | (with_reducible assumption) | (with_reducible apply bl_alloc) | (with_reducible apply bl_drewN) | (with_reducible apply bl_drew) | (with_reducible refine bl_set ?_ (by first | (simp; done) | (simp; omega)) _) | (with_reducible refine bl_call ?_ (by assumption))))⟩
  obtain rfl : m = 0 := by omega
  have hfair := nb_fair (s := bs s) (n := n) (m := 0) hkn hnm hnb hA (.inr hs0) (.inl rfl) rfl
  obtain ⟨M, hM⟩ : ∃ M, most (26) = M := ⟨_, rfl⟩
  have HMO := Lib.hid (fun W => most_gives hM W)
  by_cases hn0 : n < 0
  · have f0 : decide (n < 0) = true := decide_eq_true hn0
    have hR : badR true (26) n = true := by unfold badR; rw [hct, hM, decide_eq_true hn0]; simp
    rw [hfair.trans (show _ = (2 : Int) by rw [hR]; rfl), if_neg (by decide)]
    clear hkn hnm hct hnb hA hB hfair hs0 hR hM
    go_enter Tryz.func101, Tryz.ntmps101
    go_wp2_with (first | (go_at_call 102; refine (HA.out _).mono ?_; rintro e w1 ⟨rfl, rfl⟩) | (go_at_call 103; refine (HB.out _).mono ?_; rintro e w1 ⟨rfl, rfl⟩))
    go_quiet ((go_at_call 105; exact Calls.quiet_of_same (HMO.out _)))
    go_wp2_with fail
    go_ret
    exact ⟨rfl, by (repeat (first | (with_reducible exact Below.refl _ _) | (with_reducible assumption) | (with_reducible apply bl_alloc) | (with_reducible apply bl_drewN) | (with_reducible apply bl_drew) | (with_reducible refine bl_set ?_ (by first | (simp; done) | (simp; omega)) _) | (with_reducible refine bl_call ?_ (by assumption))))⟩
  have f0 : decide (n < 0) = false := decide_eq_false hn0
  by_cases hn1 : M < n
  · have f1 : decide (M < n) = true := decide_eq_true hn1
    have hR : badR true (26) n = true := by unfold badR; rw [hct, hM, f0, f1]; simp
    rw [hfair.trans (show _ = (2 : Int) by rw [hR]; rfl), if_neg (by decide)]
    clear hkn hnm hct hnb hA hB hfair hs0 hR hM
    go_enter Tryz.func101, Tryz.ntmps101
    go_wp2_with (first | (go_at_call 102; refine (HA.out _).mono ?_; rintro e w1 ⟨rfl, rfl⟩) | (go_at_call 103; refine (HB.out _).mono ?_; rintro e w1 ⟨rfl, rfl⟩))
    go_quiet ((go_at_call 105; exact Calls.quiet_of_same (HMO.out _)))
    go_wp2_with fail
    go_ret
    exact ⟨rfl, by (repeat (first | (with_reducible exact Below.refl _ _) | (with_reducible assumption) | (with_reducible apply bl_alloc) | (with_reducible apply bl_drewN) | (with_reducible apply bl_drew) | (with_reducible refine bl_set ?_ (by first | (simp; done) | (simp; omega)) _) | (with_reducible refine bl_call ?_ (by assumption))))⟩
  have f1 : decide (M < n) = false := decide_eq_false hn1
  have hR : badR true (26) n = false := by unfold badR; rw [hct, hM, f0, f1]; simp
  rw [hfair.trans (show _ = (0 : Int) by rw [hR]; rfl), if_pos rfl]
  clear hkn hnm hct hnb hA hB hfair hs0 hR hM
  go_enter Tryz.func101, Tryz.ntmps101
  go_wp2_with (first | (go_at_call 102; refine (HA.out _).mono ?_; rintro e w1 ⟨rfl, rfl⟩) | (go_at_call 103; refine (HB.out _).mono ?_; rintro e w1 ⟨rfl, rfl⟩))
  go_quiet ((go_at_call 105; exact Calls.quiet_of_same (HMO.out _)))
  go_wp2_with fail
  go_loopw [10] (fun i wr => ∃ k : Nat, k ≤ 0 ∧ Hid (bad true (preL (l.take k)) = 0) ∧ i = .int .i64 (k : Nat) ∧ Hid (Below w.heap.size w wr) ∧ Hid (box4 wr w.heap.size (26) s n p 0 c)) (fun i _ => 0 - (intOf i).toNat)
  case atStart => exact ⟨0, Nat.zero_le _, Lib.hid (by rw [List.take_zero, preL, bad]), rfl, Lib.hid (by (repeat (first | (with_reducible exact Below.refl _ _) | (with_reducible assumption) | (with_reducible apply bl_alloc) | (with_reducible apply bl_drewN) | (with_reducible apply bl_drew) | (with_reducible refine bl_set ?_ (by first | (simp; done) | (simp; omega)) _) | (with_reducible refine bl_call ?_ (by assumption))))), Lib.hid box_new⟩
  case round =>
    obtain ⟨k, hk, HT0, rfl, HW, HB4⟩ := hrel
    obtain ⟨b0, b1, b2, b3⟩ := HB4.out
    obtain rfl : k = 0 := by omega
    have hl0 : l = [] := List.length_eq_zero_iff.1 HL.out
    have HR : Hid (bad true (preL l) = 0) := Lib.hid (by rw [hl0, preL, bad])
    clear hl0
    go_wp2_with fail
    go_ret
    exact ⟨by rw [HR.out]; rfl, HW.out⟩
end Go.Proofs.YtonlmnlpofgccaaGreat.Ex

/-
  The reference's check of a node, by forms: TwoF, TwoT, SlotF, VarF.
-/
namespace Go.Proofs.YtonlmnlpofgccaaGreat.Ex
open Go.RowKit
open Go.Proofs.YtonlmnlpofgccaaGreat.Na (bs bs_inj chk)
set_option maxHeartbeats 4000000
set_option linter.unusedVariables false
set_option linter.unusedSimpArgs false
set_option maxRecDepth 100000 in
theorem rn_TwoT (l : List Ex) (ih : IHn true l) (o : Int) (h2 : o = 2) (s : ByteArray) (n : Int) (p : Option Addr) (m c : Nat) (w : World) (h : In w (.mk o s n l) p m) (hs : Sz (.mk o s n l)) : Calls Tryz.prog 101 #[.agg #[.int .i64 o, .string s, .int .i64 n, .slice p m c], .bool true] w (Gives (.int .i64 (bad true (pre (.mk o s n l)))) w) := by
  have HH := Lib.hid h
  have HI := Lib.hid ih
  obtain ⟨hl, hm⟩ := h.len
  have HL := Lib.hid hl
  have HS := Lib.hid hs
  have hsz := hs.self
  rw [bad_mk, hl]
  clear ih h hl hs
  have hA : ari o = 0 := by rw [h2]; rfl
  have hB : obj o = false := by rw [h2]; rfl
  have t1 : (o == 1) = false := by rw [h2]; rfl
  have t2 : (o == 2) = true := by rw [h2]; rfl
  have t3 : (o == 3) = false := by rw [h2]; rfl
  have t25 : (o == 25) = false := by rw [h2]; rfl
  have t26 : (o == 26) = false := by rw [h2]; rfl
  have u3 : (o != 3) = true := by rw [h2]; rfl
  have v3 : ¬ o = 3 := by omega
  have w24 : o ≤ 24 := by omega
  have HA := Lib.hid (fun W => arity_gives hA W)
  have HB := Lib.hid (fun W => object_gives hB W)
  have hkn : known true o = true := by rw [h2]; rfl
  have hnm : named true o = false := by rw [h2]; rfl
  have hct : counted true o = false := by rw [h2]; rfl
  have hnb : numbered true o = true := by rw [h2]; rfl
  by_cases hs0 : bs s = []
  rotate_left
  · have e0 := emp_no' hs0
    have HV := Lib.hid (show nd true o (bs s) n m = 1 from nb_s hnm hs0)
    rw [HV.out, if_neg (by decide)]
    clear hkn hnm hct hnb hA hB hs0 h2
    go_enter Tryz.func101, Tryz.ntmps101
    go_wp2_with (first | (go_at_call 102; refine (HA.out _).mono ?_; rintro e w1 ⟨rfl, rfl⟩) | (go_at_call 103; refine (HB.out _).mono ?_; rintro e w1 ⟨rfl, rfl⟩))
    go_ret
    exact ⟨rfl, by (repeat (first | (with_reducible exact Below.refl _ _) | (with_reducible assumption) | (with_reducible apply bl_alloc) | (with_reducible apply bl_drewN) | (with_reducible apply bl_drew) | (with_reducible refine bl_set ?_ (by first | (simp; done) | (simp; omega)) _) | (with_reducible refine bl_call ?_ (by assumption))))⟩
  have e0 := emp_yes' hs0
  by_cases hmA : (m : Int) = 0
  rotate_left
  · have g0 : ((m : Int) == 0) = false := beq_eq_false_iff_ne.2 hmA
    have g1 : ((m : Int) != 0) = true := bne_iff_ne.2 hmA
    have HV := Lib.hid (show nd true o (bs s) n m = 1 from nb_m hA hmA)
    rw [HV.out, if_neg (by decide)]
    clear hkn hnm hct hnb hA hB hs0 h2
    go_enter Tryz.func101, Tryz.ntmps101
    go_wp2_with (first | (go_at_call 102; refine (HA.out _).mono ?_; rintro e w1 ⟨rfl, rfl⟩) | (go_at_call 103; refine (HB.out _).mono ?_; rintro e w1 ⟨rfl, rfl⟩))
    go_ret
    exact ⟨rfl, by (repeat (first | (with_reducible exact Below.refl _ _) | (with_reducible assumption) | (with_reducible apply bl_alloc) | (with_reducible apply bl_drewN) | (with_reducible apply bl_drew) | (with_reducible refine bl_set ?_ (by first | (simp; done) | (simp; omega)) _) | (with_reducible refine bl_call ?_ (by assumption))))⟩
  obtain rfl : m = 0 := by omega
  have hfair := nb_fair (s := bs s) (n := n) (m := 0) hkn hnm hnb hA (.inr hs0) (.inl rfl) rfl
  by_cases hn0 : n = 0
  · have f0 : (n == 0) = true := beq_iff_eq.2 hn0
    have f2 : (n != 0) = false := by simp [bne, f0]
    have hR : badR true o n = false := by rw [h2, hn0]; rfl
    rw [hfair.trans (show _ = (0 : Int) by rw [hR]; rfl), if_pos rfl]
    clear hkn hnm hct hnb hA hB hfair hs0 hR h2 hn0
    go_enter Tryz.func101, Tryz.ntmps101
    go_wp2_with (first | (go_at_call 102; refine (HA.out _).mono ?_; rintro e w1 ⟨rfl, rfl⟩) | (go_at_call 103; refine (HB.out _).mono ?_; rintro e w1 ⟨rfl, rfl⟩))
    go_quiet (fail)
    go_wp2_with fail
    go_loopw [10] (fun i wr => ∃ k : Nat, k ≤ 0 ∧ Hid (bad true (preL (l.take k)) = 0) ∧ i = .int .i64 (k : Nat) ∧ Hid (Below w.heap.size w wr) ∧ Hid (box4 wr w.heap.size o s n p 0 c)) (fun i _ => 0 - (intOf i).toNat)
    case atStart => exact ⟨0, Nat.zero_le _, Lib.hid (by rw [List.take_zero, preL, bad]), rfl, Lib.hid (by (repeat (first | (with_reducible exact Below.refl _ _) | (with_reducible assumption) | (with_reducible apply bl_alloc) | (with_reducible apply bl_drewN) | (with_reducible apply bl_drew) | (with_reducible refine bl_set ?_ (by first | (simp; done) | (simp; omega)) _) | (with_reducible refine bl_call ?_ (by assumption))))), Lib.hid box_new⟩
    case round =>
      obtain ⟨k, hk, HT0, rfl, HW, HB4⟩ := hrel
      obtain ⟨b0, b1, b2, b3⟩ := HB4.out
      obtain rfl : k = 0 := by omega
      have hl0 : l = [] := List.length_eq_zero_iff.1 HL.out
      have HR : Hid (bad true (preL l) = 0) := Lib.hid (by rw [hl0, preL, bad])
      clear hl0
      go_wp2_with fail
      go_ret
      exact ⟨by rw [HR.out]; rfl, HW.out⟩
  by_cases hn1 : n = 1
  · have f0 : (n == 0) = false := beq_eq_false_iff_ne.2 hn0
    have f1 : (n == 1) = true := beq_iff_eq.2 hn1
    have f2 : (n != 0) = true := by simp [bne, f0]
    have f3 : (n != 1) = false := by simp [bne, f1]
    have hR : badR true o n = false := by rw [h2, hn1]; rfl
    rw [hfair.trans (show _ = (0 : Int) by rw [hR]; rfl), if_pos rfl]
    clear hkn hnm hct hnb hA hB hfair hs0 hR hn0 hn1 h2
    go_enter Tryz.func101, Tryz.ntmps101
    go_wp2_with (first | (go_at_call 102; refine (HA.out _).mono ?_; rintro e w1 ⟨rfl, rfl⟩) | (go_at_call 103; refine (HB.out _).mono ?_; rintro e w1 ⟨rfl, rfl⟩))
    go_quiet (fail)
    go_wp2_with fail
    go_loopw [10] (fun i wr => ∃ k : Nat, k ≤ 0 ∧ Hid (bad true (preL (l.take k)) = 0) ∧ i = .int .i64 (k : Nat) ∧ Hid (Below w.heap.size w wr) ∧ Hid (box4 wr w.heap.size o s n p 0 c)) (fun i _ => 0 - (intOf i).toNat)
    case atStart => exact ⟨0, Nat.zero_le _, Lib.hid (by rw [List.take_zero, preL, bad]), rfl, Lib.hid (by (repeat (first | (with_reducible exact Below.refl _ _) | (with_reducible assumption) | (with_reducible apply bl_alloc) | (with_reducible apply bl_drewN) | (with_reducible apply bl_drew) | (with_reducible refine bl_set ?_ (by first | (simp; done) | (simp; omega)) _) | (with_reducible refine bl_call ?_ (by assumption))))), Lib.hid box_new⟩
    case round =>
      obtain ⟨k, hk, HT0, rfl, HW, HB4⟩ := hrel
      obtain ⟨b0, b1, b2, b3⟩ := HB4.out
      obtain rfl : k = 0 := by omega
      have hl0 : l = [] := List.length_eq_zero_iff.1 HL.out
      have HR : Hid (bad true (preL l) = 0) := Lib.hid (by rw [hl0, preL, bad])
      clear hl0
      go_wp2_with fail
      go_ret
      exact ⟨by rw [HR.out]; rfl, HW.out⟩
  have f0 : (n == 0) = false := beq_eq_false_iff_ne.2 hn0
  have f1 : (n == 1) = false := beq_eq_false_iff_ne.2 hn1
  have f2 : (n != 0) = true := by simp [bne, f0]
  have f3 : (n != 1) = true := by simp [bne, f1]
  have hR : badR true o n = true := by rw [h2]; unfold badR; simp [hn0, hn1]
  rw [hfair.trans (show _ = (2 : Int) by rw [hR]; rfl), if_neg (by decide)]
  clear hkn hnm hct hnb hA hB hfair hs0 hR h2 hn0 hn1
  go_enter Tryz.func101, Tryz.ntmps101
  go_wp2_with (first | (go_at_call 102; refine (HA.out _).mono ?_; rintro e w1 ⟨rfl, rfl⟩) | (go_at_call 103; refine (HB.out _).mono ?_; rintro e w1 ⟨rfl, rfl⟩))
  go_quiet (fail)
  go_wp2_with fail
  go_ret
  exact ⟨rfl, by (repeat (first | (with_reducible exact Below.refl _ _) | (with_reducible assumption) | (with_reducible apply bl_alloc) | (with_reducible apply bl_drewN) | (with_reducible apply bl_drew) | (with_reducible refine bl_set ?_ (by first | (simp; done) | (simp; omega)) _) | (with_reducible refine bl_call ?_ (by assumption))))⟩
end Go.Proofs.YtonlmnlpofgccaaGreat.Ex

/-
  The reference's check of a node, by forms: TwoF, TwoT, SlotF, VarF.
-/
namespace Go.Proofs.YtonlmnlpofgccaaGreat.Ex
open Go.RowKit
open Go.Proofs.YtonlmnlpofgccaaGreat.Na (bs bs_inj chk)
set_option maxHeartbeats 4000000
set_option linter.unusedVariables false
set_option linter.unusedSimpArgs false
set_option maxRecDepth 100000 in
theorem rn_SlotF (l : List Ex) (ih : IHn false l) (s : ByteArray) (n : Int) (p : Option Addr) (m c : Nat) (w : World) (h : In w (.mk (25) s n l) p m) (hs : Sz (.mk (25) s n l)) : Calls Tryz.prog 101 #[.agg #[.int .i64 (25), .string s, .int .i64 n, .slice p m c], .bool false] w (Gives (.int .i64 (bad false (pre (.mk (25) s n l)))) w) := by
  have HH := Lib.hid h
  have HI := Lib.hid ih
  obtain ⟨hl, hm⟩ := h.len
  have HL := Lib.hid hl
  have HS := Lib.hid hs
  have hsz := hs.self
  rw [bad_mk, hl]
  clear ih h hl hs
  have hA : ari (25) = 0 := rfl
  have hB : obj (25) = false := rfl
  have HA := Lib.hid (fun W => arity_gives hA W)
  have HB := Lib.hid (fun W => object_gives hB W)
  have hkn : known false (25) = false := rfl
  have HV := Lib.hid (show nd false (25) (bs s) n m = 1 from nb_kn hkn)
  rw [HV.out, if_neg (by decide)]
  clear hkn hA hB
  go_enter Tryz.func101, Tryz.ntmps101
  go_wp2_with (first | (go_at_call 102; refine (HA.out _).mono ?_; rintro e w1 ⟨rfl, rfl⟩) | (go_at_call 103; refine (HB.out _).mono ?_; rintro e w1 ⟨rfl, rfl⟩))
  go_ret
  exact ⟨rfl, by (repeat (first | (with_reducible exact Below.refl _ _) | (with_reducible assumption) | (with_reducible apply bl_alloc) | (with_reducible apply bl_drewN) | (with_reducible apply bl_drew) | (with_reducible refine bl_set ?_ (by first | (simp; done) | (simp; omega)) _) | (with_reducible refine bl_call ?_ (by assumption))))⟩
set_option maxRecDepth 100000 in
theorem rn_VarF (l : List Ex) (ih : IHn false l) (s : ByteArray) (n : Int) (p : Option Addr) (m c : Nat) (w : World) (h : In w (.mk (26) s n l) p m) (hs : Sz (.mk (26) s n l)) : Calls Tryz.prog 101 #[.agg #[.int .i64 (26), .string s, .int .i64 n, .slice p m c], .bool false] w (Gives (.int .i64 (bad false (pre (.mk (26) s n l)))) w) := by
  have HH := Lib.hid h
  have HI := Lib.hid ih
  obtain ⟨hl, hm⟩ := h.len
  have HL := Lib.hid hl
  have HS := Lib.hid hs
  have hsz := hs.self
  rw [bad_mk, hl]
  clear ih h hl hs
  have hA : ari (26) = 0 := rfl
  have hB : obj (26) = false := rfl
  have HA := Lib.hid (fun W => arity_gives hA W)
  have HB := Lib.hid (fun W => object_gives hB W)
  have hkn : known false (26) = false := rfl
  have HV := Lib.hid (show nd false (26) (bs s) n m = 1 from nb_kn hkn)
  rw [HV.out, if_neg (by decide)]
  clear hkn hA hB
  go_enter Tryz.func101, Tryz.ntmps101
  go_wp2_with (first | (go_at_call 102; refine (HA.out _).mono ?_; rintro e w1 ⟨rfl, rfl⟩) | (go_at_call 103; refine (HB.out _).mono ?_; rintro e w1 ⟨rfl, rfl⟩))
  go_ret
  exact ⟨rfl, by (repeat (first | (with_reducible exact Below.refl _ _) | (with_reducible assumption) | (with_reducible apply bl_alloc) | (with_reducible apply bl_drewN) | (with_reducible apply bl_drew) | (with_reducible refine bl_set ?_ (by first | (simp; done) | (simp; omega)) _) | (with_reducible refine bl_call ?_ (by assumption))))⟩
end Go.Proofs.YtonlmnlpofgccaaGreat.Ex

/-
  The contracts of the reference's check of nodes, of its Check and CheckCode.
-/
namespace Go.Proofs.YtonlmnlpofgccaaGreat.Ex
open Go.RowKit
open Go.Proofs.YtonlmnlpofgccaaGreat.Na (bs bs_inj chk)
set_option maxHeartbeats 2000000
set_option linter.unusedVariables false
theorem rnode_any (cc : Bool) (e : Ex) : ∀ (p : Option Addr) (m c : Nat) (w : World), In w e p m → Sz e → Calls Tryz.prog 101 #[.agg #[.int .i64 e.o, .string e.s, .int .i64 e.n, .slice p m c], .bool cc] w (Gives (.int .i64 (bad cc (pre e))) w) := by
  induction e using Ex.ind with
  | h o s n l ih =>
    intro p m c w h hs
    have ih : IHn cc l := ih
    simp only [Ex.o, Ex.s, Ex.n]
    by_cases h1 : o < 1
    · cases cc
      · exact rn_LowF l ih o h1 s n p m c w h hs
      · exact rn_LowT l ih o h1 s n p m c w h hs
    by_cases h26 : 26 < o
    · cases cc
      · exact rn_HighF l ih o h26 s n p m c w h hs
      · exact rn_HighT l ih o h26 s n p m c w h hs
    by_cases e1 : o = 1
    · subst e1
      cases cc
      · exact rn_OneF l ih s n p m c w h hs
      · exact rn_OneT l ih s n p m c w h hs
    by_cases e2 : o = 2
    · cases cc
      · exact rn_TwoF l ih o e2 s n p m c w h hs
      · exact rn_TwoT l ih o e2 s n p m c w h hs
    by_cases e3 : o = 3
    · subst e3
      cases cc
      · exact rn_ThreeF l ih s n p m c w h hs
      · exact rn_ThreeT l ih s n p m c w h hs
    by_cases e21 : o ≤ 21
    · cases cc
      · exact rn_MidF l ih o (by omega) e21 s n p m c w h hs
      · exact rn_MidT l ih o (by omega) e21 s n p m c w h hs
    by_cases e24 : o ≤ 24
    · cases cc
      · exact rn_ObjF l ih o (by omega) e24 s n p m c w h hs
      · exact rn_ObjT l ih o (by omega) e24 s n p m c w h hs
    by_cases e25 : o = 25
    · subst e25
      cases cc
      · exact rn_SlotF l ih s n p m c w h hs
      · exact rn_SlotT l ih s n p m c w h hs
    · obtain rfl : o = 26 := by omega
      cases cc
      · exact rn_VarF l ih s n p m c w h hs
      · exact rn_VarT l ih s n p m c w h hs
set_option maxRecDepth 100000 in
theorem rchk_any (cc : Bool) (e : Ex) (p : Option Addr) (m c : Nat) (w : World) (h : In w e p m) (hs : Sz e) (hc : cnt e ≤ 1000000) : Calls Tryz.prog 96 #[.agg #[.int .i64 e.o, .string e.s, .int .i64 e.n, .slice p m c], .bool cc] w (Gives (.int .i64 (chkE cc e)) w) := by
  have HN := Lib.hid (fun W hi => rnodes_any e p m c W hi hc)
  have HD := Lib.hid (fun W hi => rdepth_any e p m c W hi hc)
  have HE := Lib.hid (fun W hi => rnode_any cc e p m c W hi hs)
  have HH := Lib.hid h
  have hdc := dep_le_cnt e
  obtain ⟨N, hN⟩ : ∃ N, cnt e = N := ⟨_, rfl⟩
  obtain ⟨D, hD⟩ : ∃ D, dep e = D := ⟨_, rfl⟩
  obtain ⟨V, hV⟩ : ∃ V, bad cc (pre e) = V := ⟨_, rfl⟩
  have HV := Lib.hid (show chkE cc e = if 60 < N then 6 else if 12 < D then 11 else V by unfold chkE; rw [hN, hD, hV])
  rw [HV.out]
  rw [hN] at HN hc hdc
  rw [hD] at HD hdc
  rw [hV] at HE
  obtain ⟨o, s, nn, kl⟩ := e
  simp only [Ex.o, Ex.s, Ex.n] at HN HD HE ⊢
  clear h hs hN hD hV
  by_cases h6 : 60 < N
  · rw [if_pos h6]
    have t1 : decide ((60 : Int) < (N : Int)) = true := decide_eq_true (by omega)
    have t2 : (60 : Int) < (N : Int) := by omega
    clear h6 hc hdc
    go_enter Tryz.func96, Tryz.ntmps96
    go_wp2_with fail
    refine (HN.out _ (HH.out.on (by (repeat (first | (with_reducible exact Below.refl _ _) | (with_reducible assumption) | (with_reducible apply bl_alloc) | (with_reducible apply bl_drewN) | (with_reducible apply bl_drew) | (with_reducible refine bl_set ?_ (by first | (simp; done) | (simp; omega)) _) | (with_reducible refine bl_call ?_ (by assumption))))))).mono ?_
    rintro e w1 ⟨rfl, hb1⟩
    go_wp2_with fail
    go_ret
    exact ⟨rfl, by (repeat (first | (with_reducible exact Below.refl _ _) | (with_reducible assumption) | (with_reducible apply bl_alloc) | (with_reducible apply bl_drewN) | (with_reducible apply bl_drew) | (with_reducible refine bl_set ?_ (by first | (simp; done) | (simp; omega)) _) | (with_reducible refine bl_call ?_ (by assumption))))⟩
  rw [if_neg h6]
  have t1 : decide ((60 : Int) < (N : Int)) = false := decide_eq_false (by omega)
  have t2 : (N : Int) ≤ 60 := by omega
  by_cases h12 : 12 < D
  · rw [if_pos h12]
    have t3 : decide ((12 : Int) < (D : Int)) = true := decide_eq_true (by omega)
    have t4 : (12 : Int) < (D : Int) := by omega
    clear h6 h12 hc hdc
    go_enter Tryz.func96, Tryz.ntmps96
    go_wp2_with fail
    refine (HN.out _ (HH.out.on (by (repeat (first | (with_reducible exact Below.refl _ _) | (with_reducible assumption) | (with_reducible apply bl_alloc) | (with_reducible apply bl_drewN) | (with_reducible apply bl_drew) | (with_reducible refine bl_set ?_ (by first | (simp; done) | (simp; omega)) _) | (with_reducible refine bl_call ?_ (by assumption))))))).mono ?_
    rintro e w1 ⟨rfl, hb1⟩
    obtain ⟨x0, x1, x2, x3⟩ : box4 w1 w.heap.size o s nn p m c := box_new.on hb1
    have HW1 : Hid (Below w.heap.size w w1) := Lib.hid (by (repeat (first | (with_reducible exact Below.refl _ _) | (with_reducible assumption) | (with_reducible apply bl_alloc) | (with_reducible apply bl_drewN) | (with_reducible apply bl_drew) | (with_reducible refine bl_set ?_ (by first | (simp; done) | (simp; omega)) _) | (with_reducible refine bl_call ?_ (by assumption)))))
    clear hb1
    go_wp2_with fail
    refine (HD.out _ (HH.out.on HW1.out)).mono ?_
    rintro e w2 ⟨rfl, hb2⟩
    go_wp2_with fail
    go_ret
    exact ⟨rfl, by have HBB := HW1.out; (repeat (first | (with_reducible exact Below.refl _ _) | (with_reducible assumption) | (with_reducible apply bl_alloc) | (with_reducible apply bl_drewN) | (with_reducible apply bl_drew) | (with_reducible refine bl_set ?_ (by first | (simp; done) | (simp; omega)) _) | (with_reducible refine bl_call ?_ (by assumption))))⟩
  rw [if_neg h12]
  have t3 : decide ((12 : Int) < (D : Int)) = false := decide_eq_false (by omega)
  have t4 : (D : Int) ≤ 12 := by omega
  clear h6 h12 hc hdc
  go_enter Tryz.func96, Tryz.ntmps96
  go_wp2_with fail
  refine (HN.out _ (HH.out.on (by (repeat (first | (with_reducible exact Below.refl _ _) | (with_reducible assumption) | (with_reducible apply bl_alloc) | (with_reducible apply bl_drewN) | (with_reducible apply bl_drew) | (with_reducible refine bl_set ?_ (by first | (simp; done) | (simp; omega)) _) | (with_reducible refine bl_call ?_ (by assumption))))))).mono ?_
  rintro e w1 ⟨rfl, hb1⟩
  have hx1 : box4 w1 w.heap.size o s nn p m c := box_new.on hb1
  have HX1 := Lib.hid hx1
  obtain ⟨x0, x1, x2, x3⟩ := hx1
  have HW1 : Hid (Below w.heap.size w w1) := Lib.hid (by (repeat (first | (with_reducible exact Below.refl _ _) | (with_reducible assumption) | (with_reducible apply bl_alloc) | (with_reducible apply bl_drewN) | (with_reducible apply bl_drew) | (with_reducible refine bl_set ?_ (by first | (simp; done) | (simp; omega)) _) | (with_reducible refine bl_call ?_ (by assumption)))))
  clear hb1
  go_wp2_with fail
  refine (HD.out _ (HH.out.on HW1.out)).mono ?_
  rintro e w2 ⟨rfl, hb2⟩
  obtain ⟨y0, y1, y2, y3⟩ := HX1.out.on hb2
  have HW2 : Hid (Below w.heap.size w w2) := Lib.hid (by have HBB := HW1.out; (repeat (first | (with_reducible exact Below.refl _ _) | (with_reducible assumption) | (with_reducible apply bl_alloc) | (with_reducible apply bl_drewN) | (with_reducible apply bl_drew) | (with_reducible refine bl_set ?_ (by first | (simp; done) | (simp; omega)) _) | (with_reducible refine bl_call ?_ (by assumption)))))
  clear hb2 x0 x1 x2 x3
  go_wp2_with fail
  refine (HE.out _ (HH.out.on HW2.out)).mono ?_
  rintro e w3 ⟨rfl, hb3⟩
  go_wp2_with fail
  go_ret
  exact ⟨rfl, by have HBB := HW2.out; (repeat (first | (with_reducible exact Below.refl _ _) | (with_reducible assumption) | (with_reducible apply bl_alloc) | (with_reducible apply bl_drewN) | (with_reducible apply bl_drew) | (with_reducible refine bl_set ?_ (by first | (simp; done) | (simp; omega)) _) | (with_reducible refine bl_call ?_ (by assumption))))⟩
theorem rcheck_any (e : Ex) (p : Option Addr) (m c : Nat) (w : World) (h : In w e p m) (hs : Sz e) (hc : cnt e ≤ 1000000) : Calls Tryz.prog 79 #[.agg #[.int .i64 e.o, .string e.s, .int .i64 e.n, .slice p m c]] w (Gives (.int .i64 (chkE false e)) w) := by
  have H := Lib.hid (fun W hi => rchk_any false e p m c W hi hs hc)
  have HH := Lib.hid h
  obtain ⟨v, hv⟩ : ∃ v, chkE false e = v := ⟨_, rfl⟩
  rw [hv] at H ⊢
  obtain ⟨o, s, nn, kl⟩ := e
  simp only [Ex.o, Ex.s, Ex.n] at H ⊢
  clear h hs hc hv
  go_enter Tryz.func79, Tryz.ntmps79
  go_wp2_with fail
  refine (H.out _ (HH.out.on (by (repeat (first | (with_reducible exact Below.refl _ _) | (with_reducible assumption) | (with_reducible apply bl_alloc) | (with_reducible apply bl_drewN) | (with_reducible apply bl_drew) | (with_reducible refine bl_set ?_ (by first | (simp; done) | (simp; omega)) _) | (with_reducible refine bl_call ?_ (by assumption))))))).mono ?_
  rintro e w1 ⟨rfl, hb1⟩
  go_wp2_with fail
  go_ret
  exact ⟨rfl, by (repeat (first | (with_reducible exact Below.refl _ _) | (with_reducible assumption) | (with_reducible apply bl_alloc) | (with_reducible apply bl_drewN) | (with_reducible apply bl_drew) | (with_reducible refine bl_set ?_ (by first | (simp; done) | (simp; omega)) _) | (with_reducible refine bl_call ?_ (by assumption))))⟩
end Go.Proofs.YtonlmnlpofgccaaGreat.Ex
