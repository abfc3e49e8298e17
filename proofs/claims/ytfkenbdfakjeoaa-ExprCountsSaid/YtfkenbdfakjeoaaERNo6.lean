/-
  The reference's check of a node, by forms: SlotT, VarT.
-/
import Derived.Test.YtfkenbdfakjeoaaERNod
namespace Go.Proofs.Ytfkenbdfakjeoaa.Ex
open Go.RowKit
open Go.Proofs.Ytfkenbdfakjeoaa.Na (bs bs_inj chk)
set_option maxHeartbeats 4000000
set_option linter.unusedVariables false
set_option linter.unusedSimpArgs false
set_option maxRecDepth 100000 in
theorem rn_SlotT (l : List Ex) (ih : IHn true l) (s : ByteArray) (n : Int) (p : Option Addr) (m c : Nat) (w : World) (h : In w (.mk (25) s n l) p m) (hs : Sz (.mk (25) s n l)) : Calls Try.prog 48 #[.agg #[.int .i64 (25), .string s, .int .i64 n, .slice p m c], .bool true] w (Gives (.int .i64 (bad true (pre (.mk (25) s n l)))) w) := by
  have HH := Lib.hid h
  have HI := Lib.hid ih
  obtain ⟨hl, hm⟩ := h.len
  have HL := Lib.hid hl
  have HS := Lib.hid hs
  have hsz := hs.self
  rw [bad_mk, hl]
  clear ih h hl hs
  have hA : ari (25) = 0 := rfl
  have hB : obj (25) = false := rfl
  have HA := Lib.hid (fun W => arity_gives hA W)
  have HB := Lib.hid (fun W => object_gives hB W)
  have hkn : known true (25) = true := rfl
  have hnm : named true (25) = false := rfl
  have hct : counted true (25) = true := rfl
  have hnb : numbered true (25) = true := rfl
  by_cases hs0 : bs s = []
  rotate_left
  · have e0 := emp_no' hs0
    have HV := Lib.hid (show nd true (25) (bs s) n m = 1 from nb_s hnm hs0)
    rw [HV.out, if_neg (by decide)]
    clear hkn hnm hct hnb hA hB hs0
    go_enter Try.func48, Try.ntmps48
    go_wp2_with (first | (go_at_call 58; refine (HA.out _).mono ?_; rintro e w1 ⟨rfl, rfl⟩) | (go_at_call 53; refine (HB.out _).mono ?_; rintro e w1 ⟨rfl, rfl⟩))
    go_ret
    exact ⟨rfl, by (repeat (first | (with_reducible exact Below.refl _ _) | (with_reducible assumption) | (with_reducible apply bl_alloc) | (with_reducible apply bl_drewN) | (with_reducible apply bl_drew) | (with_reducible refine bl_set ?_ (by first | (simp; done) | (simp; omega)) _) | (with_reducible refine bl_call ?_ (by assumption))))⟩
  have e0 := emp_yes' hs0
  by_cases hmA : (m : Int) = 0
  rotate_left
  · have g0 : ((m : Int) == 0) = false := beq_eq_false_iff_ne.2 hmA
    have g1 : ((m : Int) != 0) = true := bne_iff_ne.2 hmA
    have HV := Lib.hid (show nd true (25) (bs s) n m = 1 from nb_m hA hmA)
    rw [HV.out, if_neg (by decide)]
    clear hkn hnm hct hnb hA hB hs0
    go_enter Try.func48, Try.ntmps48
    go_wp2_with (first | (go_at_call 58; refine (HA.out _).mono ?_; rintro e w1 ⟨rfl, rfl⟩) | (go_at_call 53; refine (HB.out _).mono ?_; rintro e w1 ⟨rfl, rfl⟩))
    go_ret
    exact ⟨rfl, by (repeat (first | (with_reducible exact Below.refl _ _) | (with_reducible assumption) | (with_reducible apply bl_alloc) | (with_reducible apply bl_drewN) | (with_reducible apply bl_drew) | (with_reducible refine bl_set ?_ (by first | (simp; done) | (simp; omega)) _) | (with_reducible refine bl_call ?_ (by assumption))))⟩
  obtain rfl : m = 0 := by omega
  have hfair := nb_fair (s := bs s) (n := n) (m := 0) hkn hnm hnb hA (.inr hs0) (.inl rfl) rfl
  obtain ⟨M, hM⟩ : ∃ M, most (25) = M := ⟨_, rfl⟩
  have HMO := Lib.hid (fun W => most_gives hM W)
  by_cases hn0 : n < 0
  · have f0 : decide (n < 0) = true := decide_eq_true hn0
    have hR : badR true (25) n = true := by unfold badR; rw [hct, hM, decide_eq_true hn0]; simp
    rw [hfair.trans (show _ = (2 : Int) by rw [hR]; rfl), if_neg (by decide)]
    clear hkn hnm hct hnb hA hB hfair hs0 hR hM
    go_enter Try.func48, Try.ntmps48
    go_wp2_with (first | (go_at_call 58; refine (HA.out _).mono ?_; rintro e w1 ⟨rfl, rfl⟩) | (go_at_call 53; refine (HB.out _).mono ?_; rintro e w1 ⟨rfl, rfl⟩))
    go_quiet ((go_at_call 60; exact Calls.quiet_of_same (HMO.out _)))
    go_wp2_with fail
    go_ret
    exact ⟨rfl, by (repeat (first | (with_reducible exact Below.refl _ _) | (with_reducible assumption) | (with_reducible apply bl_alloc) | (with_reducible apply bl_drewN) | (with_reducible apply bl_drew) | (with_reducible refine bl_set ?_ (by first | (simp; done) | (simp; omega)) _) | (with_reducible refine bl_call ?_ (by assumption))))⟩
  have f0 : decide (n < 0) = false := decide_eq_false hn0
  by_cases hn1 : M < n
  · have f1 : decide (M < n) = true := decide_eq_true hn1
    have hR : badR true (25) n = true := by unfold badR; rw [hct, hM, f0, f1]; simp
    rw [hfair.trans (show _ = (2 : Int) by rw [hR]; rfl), if_neg (by decide)]
    clear hkn hnm hct hnb hA hB hfair hs0 hR hM
    go_enter Try.func48, Try.ntmps48
    go_wp2_with (first | (go_at_call 58; refine (HA.out _).mono ?_; rintro e w1 ⟨rfl, rfl⟩) | (go_at_call 53; refine (HB.out _).mono ?_; rintro e w1 ⟨rfl, rfl⟩))
    go_quiet ((go_at_call 60; exact Calls.quiet_of_same (HMO.out _)))
    go_wp2_with fail
    go_ret
    exact ⟨rfl, by (repeat (first | (with_reducible exact Below.refl _ _) | (with_reducible assumption) | (with_reducible apply bl_alloc) | (with_reducible apply bl_drewN) | (with_reducible apply bl_drew) | (with_reducible refine bl_set ?_ (by first | (simp; done) | (simp; omega)) _) | (with_reducible refine bl_call ?_ (by assumption))))⟩
  have f1 : decide (M < n) = false := decide_eq_false hn1
  have hR : badR true (25) n = false := by unfold badR; rw [hct, hM, f0, f1]; simp
  rw [hfair.trans (show _ = (0 : Int) by rw [hR]; rfl), if_pos rfl]
  clear hkn hnm hct hnb hA hB hfair hs0 hR hM
  go_enter Try.func48, Try.ntmps48
  go_wp2_with (first | (go_at_call 58; refine (HA.out _).mono ?_; rintro e w1 ⟨rfl, rfl⟩) | (go_at_call 53; refine (HB.out _).mono ?_; rintro e w1 ⟨rfl, rfl⟩))
  go_quiet ((go_at_call 60; exact Calls.quiet_of_same (HMO.out _)))
  go_wp2_with fail
  go_loopw [10] (fun i wr => ∃ k : Nat, k ≤ 0 ∧ Hid (bad true (preL (l.take k)) = 0) ∧ i = .int .i64 (k : Nat) ∧ Hid (Below w.heap.size w wr) ∧ Hid (box4 wr w.heap.size (25) s n p 0 c)) (fun i _ => 0 - (intOf i).toNat)
  case atStart => exact ⟨0, Nat.zero_le _, Lib.hid (by rw [List.take_zero, preL, bad]), rfl, Lib.hid (by (repeat (first | (with_reducible exact Below.refl _ _) | (with_reducible assumption) | (with_reducible apply bl_alloc) | (with_reducible apply bl_drewN) | (with_reducible apply bl_drew) | (with_reducible refine bl_set ?_ (by first | (simp; done) | (simp; omega)) _) | (with_reducible refine bl_call ?_ (by assumption))))), Lib.hid box_new⟩
  case round =>
    obtain ⟨k, hk, HT0, rfl, HW, HB4⟩ := hrel
    obtain ⟨b0, b1, b2, b3⟩ := HB4.out
    obtain rfl : k = 0 := by omega
    have hl0 : l = [] := List.length_eq_zero_iff.1 HL.out
    have HR : Hid (bad true (preL l) = 0) := Lib.hid (by rw [hl0, preL, bad])
    clear hl0
    go_wp2_with fail
    go_ret
    exact ⟨by rw [HR.out]; rfl, HW.out⟩
set_option maxRecDepth 100000 in
theorem rn_VarT (l : List Ex) (ih : IHn true l) (s : ByteArray) (n : Int) (p : Option Addr) (m c : Nat) (w : World) (h : In w (.mk (26) s n l) p m) (hs : Sz (.mk (26) s n l)) : Calls Try.prog 48 #[.agg #[.int .i64 (26), .string s, .int .i64 n, .slice p m c], .bool true] w (Gives (.int .i64 (bad true (pre (.mk (26) s n l)))) w) := by
  have HH := Lib.hid h
  have HI := Lib.hid ih
  obtain ⟨hl, hm⟩ := h.len
  have HL := Lib.hid hl
  have HS := Lib.hid hs
  have hsz := hs.self
  rw [bad_mk, hl]
  clear ih h hl hs
  have hA : ari (26) = 0 := rfl
  have hB : obj (26) = false := rfl
  have HA := Lib.hid (fun W => arity_gives hA W)
  have HB := Lib.hid (fun W => object_gives hB W)
  have hkn : known true (26) = true := rfl
  have hnm : named true (26) = false := rfl
  have hct : counted true (26) = true := rfl
  have hnb : numbered true (26) = true := rfl
  by_cases hs0 : bs s = []
  rotate_left
  · have e0 := emp_no' hs0
    have HV := Lib.hid (show nd true (26) (bs s) n m = 1 from nb_s hnm hs0)
    rw [HV.out, if_neg (by decide)]
    clear hkn hnm hct hnb hA hB hs0
    go_enter Try.func48, Try.ntmps48
    go_wp2_with (first | (go_at_call 58; refine (HA.out _).mono ?_; rintro e w1 ⟨rfl, rfl⟩) | (go_at_call 53; refine (HB.out _).mono ?_; rintro e w1 ⟨rfl, rfl⟩))
    go_ret
    exact ⟨rfl, by (repeat (first | (with_reducible exact Below.refl _ _) | (with_reducible assumption) | (with_reducible apply bl_alloc) | (with_reducible apply bl_drewN) | (with_reducible apply bl_drew) | (with_reducible refine bl_set ?_ (by first | (simp; done) | (simp; omega)) _) | (with_reducible refine bl_call ?_ (by assumption))))⟩
  have e0 := emp_yes' hs0
  by_cases hmA : (m : Int) = 0
  rotate_left
  · have g0 : ((m : Int) == 0) = false := beq_eq_false_iff_ne.2 hmA
    have g1 : ((m : Int) != 0) = true := bne_iff_ne.2 hmA
    have HV := Lib.hid (show nd true (26) (bs s) n m = 1 from nb_m hA hmA)
    rw [HV.out, if_neg (by decide)]
    clear hkn hnm hct hnb hA hB hs0
    go_enter Try.func48, Try.ntmps48
    go_wp2_with (first | (go_at_call 58; refine (HA.out _).mono ?_; rintro e w1 ⟨rfl, rfl⟩) | (go_at_call 53; refine (HB.out _).mono ?_; rintro e w1 ⟨rfl, rfl⟩))
    go_ret
    exact ⟨rfl, by (repeat (first | (with_reducible exact Below.refl _ _) | (with_reducible assumption) | (with_reducible apply bl_alloc) | (with_reducible apply bl_drewN) | (with_reducible apply bl_drew) | (with_reducible refine bl_set ?_ (by first | (simp; done) | (simp; omega)) _) | (with_reducible refine bl_call ?_ (by assumption))))⟩
  obtain rfl : m = 0 := by omega
  have hfair := nb_fair (s := bs s) (n := n) (m := 0) hkn hnm hnb hA (.inr hs0) (.inl rfl) rfl
  obtain ⟨M, hM⟩ : ∃ M, most (26) = M := ⟨_, rfl⟩
  have HMO := Lib.hid (fun W => most_gives hM W)
  by_cases hn0 : n < 0
  · have f0 : decide (n < 0) = true := decide_eq_true hn0
    have hR : badR true (26) n = true := by unfold badR; rw [hct, hM, decide_eq_true hn0]; simp
    rw [hfair.trans (show _ = (2 : Int) by rw [hR]; rfl), if_neg (by decide)]
    clear hkn hnm hct hnb hA hB hfair hs0 hR hM
    go_enter Try.func48, Try.ntmps48
    go_wp2_with (first | (go_at_call 58; refine (HA.out _).mono ?_; rintro e w1 ⟨rfl, rfl⟩) | (go_at_call 53; refine (HB.out _).mono ?_; rintro e w1 ⟨rfl, rfl⟩))
    go_quiet ((go_at_call 60; exact Calls.quiet_of_same (HMO.out _)))
    go_wp2_with fail
    go_ret
    exact ⟨rfl, by (repeat (first | (with_reducible exact Below.refl _ _) | (with_reducible assumption) | (with_reducible apply bl_alloc) | (with_reducible apply bl_drewN) | (with_reducible apply bl_drew) | (with_reducible refine bl_set ?_ (by first | (simp; done) | (simp; omega)) _) | (with_reducible refine bl_call ?_ (by assumption))))⟩
  have f0 : decide (n < 0) = false := decide_eq_false hn0
  by_cases hn1 : M < n
  · have f1 : decide (M < n) = true := decide_eq_true hn1
    have hR : badR true (26) n = true := by unfold badR; rw [hct, hM, f0, f1]; simp
    rw [hfair.trans (show _ = (2 : Int) by rw [hR]; rfl), if_neg (by decide)]
    clear hkn hnm hct hnb hA hB hfair hs0 hR hM
    go_enter Try.func48, Try.ntmps48
    go_wp2_with (first | (go_at_call 58; refine (HA.out _).mono ?_; rintro e w1 ⟨rfl, rfl⟩) | (go_at_call 53; refine (HB.out _).mono ?_; rintro e w1 ⟨rfl, rfl⟩))
    go_quiet ((go_at_call 60; exact Calls.quiet_of_same (HMO.out _)))
    go_wp2_with fail
    go_ret
    exact ⟨rfl, by (repeat (first | (with_reducible exact Below.refl _ _) | (with_reducible assumption) | (with_reducible apply bl_alloc) | (with_reducible apply bl_drewN) | (with_reducible apply bl_drew) | (with_reducible refine bl_set ?_ (by first | (simp; done) | (simp; omega)) _) | (with_reducible refine bl_call ?_ (by assumption))))⟩
  have f1 : decide (M < n) = false := decide_eq_false hn1
  have hR : badR true (26) n = false := by unfold badR; rw [hct, hM, f0, f1]; simp
  rw [hfair.trans (show _ = (0 : Int) by rw [hR]; rfl), if_pos rfl]
  clear hkn hnm hct hnb hA hB hfair hs0 hR hM
  go_enter Try.func48, Try.ntmps48
  go_wp2_with (first | (go_at_call 58; refine (HA.out _).mono ?_; rintro e w1 ⟨rfl, rfl⟩) | (go_at_call 53; refine (HB.out _).mono ?_; rintro e w1 ⟨rfl, rfl⟩))
  go_quiet ((go_at_call 60; exact Calls.quiet_of_same (HMO.out _)))
  go_wp2_with fail
  go_loopw [10] (fun i wr => ∃ k : Nat, k ≤ 0 ∧ Hid (bad true (preL (l.take k)) = 0) ∧ i = .int .i64 (k : Nat) ∧ Hid (Below w.heap.size w wr) ∧ Hid (box4 wr w.heap.size (26) s n p 0 c)) (fun i _ => 0 - (intOf i).toNat)
  case atStart => exact ⟨0, Nat.zero_le _, Lib.hid (by rw [List.take_zero, preL, bad]), rfl, Lib.hid (by (repeat (first | (with_reducible exact Below.refl _ _) | (with_reducible assumption) | (with_reducible apply bl_alloc) | (with_reducible apply bl_drewN) | (with_reducible apply bl_drew) | (with_reducible refine bl_set ?_ (by first | (simp; done) | (simp; omega)) _) | (with_reducible refine bl_call ?_ (by assumption))))), Lib.hid box_new⟩
  case round =>
    obtain ⟨k, hk, HT0, rfl, HW, HB4⟩ := hrel
    obtain ⟨b0, b1, b2, b3⟩ := HB4.out
    obtain rfl : k = 0 := by omega
    have hl0 : l = [] := List.length_eq_zero_iff.1 HL.out
    have HR : Hid (bad true (preL l) = 0) := Lib.hid (by rw [hl0, preL, bad])
    clear hl0
    go_wp2_with fail
    go_ret
    exact ⟨by rw [HR.out]; rfl, HW.out⟩
end Go.Proofs.Ytfkenbdfakjeoaa.Ex
