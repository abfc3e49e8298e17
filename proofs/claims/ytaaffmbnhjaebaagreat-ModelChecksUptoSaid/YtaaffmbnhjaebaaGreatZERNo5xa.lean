/-
  Parts of this proof: The reference's check of a node, by forms.
-/
import Derived.Test.YtaaffmbnhjaebaaGreatZQRsdxa
namespace Go.Proofs.YtaaffmbnhjaebaaGreat.Ex
open Go.RowKit
open Go.Proofs.YtaaffmbnhjaebaaGreat.Na (bs)
set_option maxHeartbeats 4000000
set_option linter.unusedVariables false
set_option linter.unusedSimpArgs false
theorem zERNo5a_0 {p : Prop} (h : p := by
 go_enter Tryz.func201, Tryz.ntmps201
 go_wp2_with (first | (go_at_call 202; refine (HA.out _).mono ?_; rintro e w1 ⟨rfl, rfl⟩) | (go_at_call 203; refine (HB.out _).mono ?_; rintro e w1 ⟨rfl, rfl⟩))
 go_ret
 exact ⟨rfl, bl⟩
 ) : p := h
theorem zERNo5a_1 {p : Prop} (h : p := by
 rw [hfair.trans (show _ = (2 : Int) by rw [hR]; rfl), if_neg (by decide)]
 clear hkn hnm hct hnb hA hB hfair hs0 hR hM
 go_enter Tryz.func201, Tryz.ntmps201
 go_wp2_with (first | (go_at_call 202; refine (HA.out _).mono ?_; rintro e w1 ⟨rfl, rfl⟩) | (go_at_call 203; refine (HB.out _).mono ?_; rintro e w1 ⟨rfl, rfl⟩))
 go_quiet ((go_at_call 204; exact Calls.quiet_of_same (HMO.out _)))
 go_wp2_with fail
 go_ret
 exact ⟨rfl, bl⟩
 ) : p := h
set_option maxRecDepth 100000 in
theorem rn_ObjT (l : List Ex) (ih : IHn true l) (o : Int) (h22 : 22 ≤ o) (h24 : o ≤ 24) (s : ByteArray) (n : Int) (p : Option Addr) (m c : Nat) (w : World) (h : In w (.mk o s n l) p m) (hs : Sz (.mk o s n l)) : Calls Tryz.prog 201 #[.agg #[.int .i64 (o), .string s, .int .i64 n, .slice p m c], .bool true] w (Gives (.int .i64 (bad true (pre (.mk o s n l)))) w) := by
 have HH := Lib.hid h
 have HI := Lib.hid ih
 obtain ⟨hl, hm⟩ := h.len
 have HL := Lib.hid hl
 have HS := Lib.hid hs
 have hsz := hs.self
 rw [bad_mk, hl]
 clear ih h hl hs
 obtain ⟨A, hA⟩ : ∃ A, ari o = A := ⟨_, rfl⟩
 have hA1 : 0 ≤ A := by unfold ari at hA; split at hA <;> (try split at hA) <;> (try split at hA) <;> omega
 have hB : obj o = true := by unfold obj; simp; omega
 have HA := Lib.hid (fun W => arity_gives hA W)
 have HB := Lib.hid (fun W => object_gives hB W)
 have t1 : (o == 1) = false := beq_eq_false_iff_ne.2 (by omega)
 have t2 : (o == 2) = false := beq_eq_false_iff_ne.2 (by omega)
 have t3 : (o == 3) = false := beq_eq_false_iff_ne.2 (by omega)
 have t25 : (o == 25) = false := beq_eq_false_iff_ne.2 (by omega)
 have t26 : (o == 26) = false := beq_eq_false_iff_ne.2 (by omega)
 have u3 : (o != 3) = true := bne_iff_ne.2 (by omega)
 have v3 : ¬ o = 3 := by omega
 have hkn : known true o = true := by unfold known; rw [hA]; rw [decide_eq_true hA1]; simp; omega
 have hnm : named true o = false := by unfold named; rw [hB]; simp
 have hct : counted true o = true := by unfold counted; rw [hB]; simp
 have hnb : numbered true o = true := by unfold numbered; rw [hct]; simp
 by_cases hs0 : bs s = []
 rotate_left
 · have e0 := emp_no' hs0
   have HV := Lib.hid (show nd true o (bs s) n m = 1 from nb_s hnm hs0)
   rw [HV.out, if_neg (by decide)]
   clear hkn hnm hct hnb hA hB hs0
   exact zERNo5a_0
 have e0 := emp_yes' hs0
 by_cases hmA : (m : Int) = A
 rotate_left
 · have g0 : ((m : Int) == A) = false := beq_eq_false_iff_ne.2 hmA
   have g1 : ((m : Int) != A) = true := bne_iff_ne.2 hmA
   have HV := Lib.hid (show nd true o (bs s) n m = 1 from nb_m hA hmA)
   rw [HV.out, if_neg (by decide)]
   clear hkn hnm hct hnb hA hB hs0
   exact zERNo5a_0
 subst hmA
 have hfair := nb_fair (s := bs s) (n := n) (m := m) hkn hnm hnb hA (.inr hs0) (.inl rfl) rfl
 obtain ⟨M, hM⟩ : ∃ M, most o = M := ⟨_, rfl⟩
 have HMO := Lib.hid (fun W => most_gives hM W)
 by_cases hn0 : n < 0
 · have f0 : decide (n < 0) = true := decide_eq_true hn0
   have hR : badR true o n = true := by unfold badR; rw [hct, hM, decide_eq_true hn0]; simp
   exact zERNo5a_1
 have f0 : decide (n < 0) = false := decide_eq_false hn0
 by_cases hn1 : M < n
 · have f1 : decide (M < n) = true := decide_eq_true hn1
   have hR : badR true o n = true := by unfold badR; rw [hct, hM, f0, f1]; simp
   exact zERNo5a_1
 have f1 : decide (M < n) = false := decide_eq_false hn1
 have hR : badR true o n = false := by unfold badR; rw [hct, hM, f0, f1]; simp; omega
 rw [hfair.trans (show _ = (0 : Int) by rw [hR]; rfl), if_pos rfl]
 clear hkn hnm hct hnb hA hB hfair hs0 hR hM
 go_enter Tryz.func201, Tryz.ntmps201
 go_wp2_with (first | (go_at_call 202; refine (HA.out _).mono ?_; rintro e w1 ⟨rfl, rfl⟩) | (go_at_call 203; refine (HB.out _).mono ?_; rintro e w1 ⟨rfl, rfl⟩))
 go_quiet ((go_at_call 204; exact Calls.quiet_of_same (HMO.out _)))
 go_wp2_with fail
 go_loopw [10] (fun i wr => ∃ k : Nat, k ≤ m ∧ Hid (bad true (preL (l.take k)) = 0) ∧ i = .int .i64 (k : Nat) ∧ Hid (Below w.heap.size w wr) ∧ Hid (box4 wr w.heap.size o s n p m c)) (fun i _ => m - (intOf i).toNat)
 case atStart => exact ⟨0, Nat.zero_le _, Lib.hid (by rw [List.take_zero, preL, bad]), rfl, Lib.hid bl, Lib.hid box_new⟩
 case round =>
  obtain ⟨k, hk, HT0, rfl, HW, HB4⟩ := hrel
  obtain ⟨b0, b1, b2, b3⟩ := HB4.out
  have k0 : (0 : Int) ≤ (k : Int) := by omega
  rcases Nat.lt_or_ge k m with h | h
  · have k1 : (k : Int) < (m : Int) := by omega
    obtain ⟨b, o', rfl, -, hG, hcell⟩ := HH.out.kids (by omega)
    have hkl : k < l.length := by rw [HL.out]; omega
    obtain ⟨q, j, c', hc4, hkin⟩ := hcell.out k hkl
    have hmem : l[k] ∈ l := List.getElem_mem hkl
    have hgx : l[k]? = some l[k] := List.getElem?_eq_getElem hkl
    obtain ⟨x, hx⟩ : ∃ x, l[k] = x := ⟨_, rfl⟩
    rw [hx] at hc4 hkin hmem hgx
    obtain ⟨e0, e1, e2, e3⟩ := hc4.on HW.out hG
    have HKIN := Lib.hid hkin
    have HX := Lib.hid hgx
    have HM := Lib.hid hmem
    clear hcell hc4 hkin hx hmem hgx hkl
    have HSP := Lib.hid (badL_stop (c := true) HX.out HT0.out)
    have HE := Lib.hid (badL_step (c := true) HX.out HT0.out)
    have HI1 := HI.out x HM.out q j c' wr (HKIN.out.on HW.out) (HS.out.kid HM.out)
    obtain ⟨E, hE⟩ : ∃ E, bad true (pre x) = E := ⟨_, rfl⟩
    rw [hE] at HI1 HSP HE
    clear hE
    go_wp2_with fail
    refine HI1.mono ?_
    rintro e w2 ⟨rfl, hb2⟩
    have HW2 : Hid (Below w.heap.size w w2) := Lib.hid (by have HBB := HW.out; exact bl)
    have HB5 := Lib.hid (HB4.out.on hb2)
    clear hb2 HI1
    by_cases hE0 : E = 0
    · subst hE0
      have HR := HE.out
      have HR2 := Lib.hid HR
      clear HR
      go_wp2_with fail
      go_roundw
      case rel => exact ⟨k + 1, by omega, HR2, by go_num, HW2, HB5⟩
      case measure => simp [intOf]; omega
    · have e1 : (E == 0) = false := beq_eq_false_iff_ne.2 hE0
      have HR := Lib.hid (HSP.out hE0)
      go_wp2_with fail
      go_ret
      exact ⟨by rw [HR.out]; rfl, HW2.out⟩
  · obtain rfl : m = k := by omega
    have HT : Hid (l.take m = l) := Lib.hid (List.take_of_length_le (by rw [HL.out]; exact Nat.le_refl _))
    rw [HT.out] at HT0
    go_wp2_with fail
    go_ret
    exact ⟨by rw [HT0.out]; rfl, HW.out⟩
set_option maxRecDepth 100000 in
theorem rn_HighT (l : List Ex) (ih : IHn true l) (o : Int) (h26 : 26 < o) (s : ByteArray) (n : Int) (p : Option Addr) (m c : Nat) (w : World) (h : In w (.mk o s n l) p m) (hs : Sz (.mk o s n l)) : Calls Tryz.prog 201 #[.agg #[.int .i64 (o), .string s, .int .i64 n, .slice p m c], .bool true] w (Gives (.int .i64 (bad true (pre (.mk o s n l)))) w) := by
 have HH := Lib.hid h
 have HI := Lib.hid ih
 obtain ⟨hl, hm⟩ := h.len
 have HL := Lib.hid hl
 have HS := Lib.hid hs
 have hsz := hs.self
 rw [bad_mk, hl]
 clear ih h hl hs
 obtain ⟨A, hA⟩ : ∃ A, ari o = A := ⟨_, rfl⟩
 have hA1 : A < 0 := by unfold ari at hA; rw [if_pos (by omega)] at hA; omega
 have hB : obj o = false := by unfold obj; simp; omega
 have HA := Lib.hid (fun W => arity_gives hA W)
 have HB := Lib.hid (fun W => object_gives hB W)
 have t1 : (o == 1) = false := beq_eq_false_iff_ne.2 (by omega)
 have t2 : (o == 2) = false := beq_eq_false_iff_ne.2 (by omega)
 have t3 : (o == 3) = false := beq_eq_false_iff_ne.2 (by omega)
 have t25 : (o == 25) = false := beq_eq_false_iff_ne.2 (by omega)
 have t26 : (o == 26) = false := beq_eq_false_iff_ne.2 (by omega)
 have u3 : (o != 3) = true := bne_iff_ne.2 (by omega)
 have v3 : ¬ o = 3 := by omega
 have hkn : known true o = false := by unfold known; rw [hA]; rw [decide_eq_false (by omega)]; rfl
 have HV := Lib.hid (show nd true o (bs s) n m = 1 from nb_kn hkn)
 rw [HV.out, if_neg (by decide)]
 clear hkn hA hB
 exact zERNo5a_0
end Go.Proofs.YtaaffmbnhjaebaaGreat.Ex
namespace Go.Proofs.YtaaffmbnhjaebaaGreat.Ex
open Go.RowKit
open Go.Proofs.YtaaffmbnhjaebaaGreat.Na (bs)
set_option maxHeartbeats 4000000
set_option linter.unusedVariables false
set_option linter.unusedSimpArgs false
theorem zERNo6a_0 {p : Prop} (h : p := by
 rw [hfair.trans (show _ = (2 : Int) by rw [hR]; rfl), if_neg (by decide)]
 clear hkn hnm hct hnb hA hB hfair hs0 hR hM
 go_enter Tryz.func201, Tryz.ntmps201
 go_wp2_with (first | (go_at_call 202; refine (HA.out _).mono ?_; rintro e w1 ⟨rfl, rfl⟩) | (go_at_call 203; refine (HB.out _).mono ?_; rintro e w1 ⟨rfl, rfl⟩))
 go_quiet ((go_at_call 204; exact Calls.quiet_of_same (HMO.out _)))
 go_wp2_with fail
 go_ret
 exact ⟨rfl, bl⟩
 ) : p := h
theorem zERNo6a_1 {p : Prop} (h : p := by
 rw [HV.out, if_neg (by decide)]
 clear hkn hnm hct hnb hA hB hs0
 go_enter Tryz.func201, Tryz.ntmps201
 go_wp2_with (first | (go_at_call 202; refine (HA.out _).mono ?_; rintro e w1 ⟨rfl, rfl⟩) | (go_at_call 203; refine (HB.out _).mono ?_; rintro e w1 ⟨rfl, rfl⟩))
 go_ret
 exact ⟨rfl, bl⟩
 ) : p := h
theorem zERNo6a_2 {p : Prop} (h : p := by
 obtain ⟨k, hk, HT0, rfl, HW, HB4⟩ := hrel
 obtain ⟨b0, b1, b2, b3⟩ := HB4.out
 obtain rfl : k = 0 := by omega
 have hl0 : l = [] := List.length_eq_zero_iff.1 HL.out
 have HR : Hid (bad true (preL l) = 0) := Lib.hid (by rw [hl0, preL, bad])
 clear hl0
 go_wp2_with fail
 go_ret
 exact ⟨by rw [HR.out]; rfl, HW.out⟩
 ) : p := h
set_option maxRecDepth 100000 in
theorem rn_SlotT (l : List Ex) (ih : IHn true l) (s : ByteArray) (n : Int) (p : Option Addr) (m c : Nat) (w : World) (h : In w (.mk (25) s n l) p m) (hs : Sz (.mk (25) s n l)) : Calls Tryz.prog 201 #[.agg #[.int .i64 (25), .string s, .int .i64 n, .slice p m c], .bool true] w (Gives (.int .i64 (bad true (pre (.mk (25) s n l)))) w) := by
 have HH := Lib.hid h
 have HI := Lib.hid ih
 obtain ⟨hl, hm⟩ := h.len
 have HL := Lib.hid hl
 have HS := Lib.hid hs
 have hsz := hs.self
 rw [bad_mk, hl]
 clear ih h hl hs
 have hA : ari (25) = 0 := rfl
 have hB : obj (25) = false := rfl
 have HA := Lib.hid (fun W => arity_gives hA W)
 have HB := Lib.hid (fun W => object_gives hB W)
 have hkn : known true (25) = true := rfl
 have hnm : named true (25) = false := rfl
 have hct : counted true (25) = true := rfl
 have hnb : numbered true (25) = true := rfl
 by_cases hs0 : bs s = []
 rotate_left
 · have e0 := emp_no' hs0
   have HV := Lib.hid (show nd true (25) (bs s) n m = 1 from nb_s hnm hs0)
   exact zERNo6a_1
 have e0 := emp_yes' hs0
 by_cases hmA : (m : Int) = 0
 rotate_left
 · have g0 : ((m : Int) == 0) = false := beq_eq_false_iff_ne.2 hmA
   have g1 : ((m : Int) != 0) = true := bne_iff_ne.2 hmA
   have HV := Lib.hid (show nd true (25) (bs s) n m = 1 from nb_m hA hmA)
   exact zERNo6a_1
 obtain rfl : m = 0 := by omega
 have hfair := nb_fair (s := bs s) (n := n) (m := 0) hkn hnm hnb hA (.inr hs0) (.inl rfl) rfl
 obtain ⟨M, hM⟩ : ∃ M, most (25) = M := ⟨_, rfl⟩
 have HMO := Lib.hid (fun W => most_gives hM W)
 by_cases hn0 : n < 0
 · have f0 : decide (n < 0) = true := decide_eq_true hn0
   have hR : badR true (25) n = true := by unfold badR; rw [hct, hM, decide_eq_true hn0]; simp
   exact zERNo6a_0
 have f0 : decide (n < 0) = false := decide_eq_false hn0
 by_cases hn1 : M < n
 · have f1 : decide (M < n) = true := decide_eq_true hn1
   have hR : badR true (25) n = true := by unfold badR; rw [hct, hM, f0, f1]; simp
   exact zERNo6a_0
 have f1 : decide (M < n) = false := decide_eq_false hn1
 have hR : badR true (25) n = false := by unfold badR; rw [hct, hM, f0, f1]; simp
 rw [hfair.trans (show _ = (0 : Int) by rw [hR]; rfl), if_pos rfl]
 clear hkn hnm hct hnb hA hB hfair hs0 hR hM
 go_enter Tryz.func201, Tryz.ntmps201
 go_wp2_with (first | (go_at_call 202; refine (HA.out _).mono ?_; rintro e w1 ⟨rfl, rfl⟩) | (go_at_call 203; refine (HB.out _).mono ?_; rintro e w1 ⟨rfl, rfl⟩))
 go_quiet ((go_at_call 204; exact Calls.quiet_of_same (HMO.out _)))
 go_wp2_with fail
 go_loopw [10] (fun i wr => ∃ k : Nat, k ≤ 0 ∧ Hid (bad true (preL (l.take k)) = 0) ∧ i = .int .i64 (k : Nat) ∧ Hid (Below w.heap.size w wr) ∧ Hid (box4 wr w.heap.size (25) s n p 0 c)) (fun i _ => 0 - (intOf i).toNat)
 case atStart => exact ⟨0, Nat.zero_le _, Lib.hid (by rw [List.take_zero, preL, bad]), rfl, Lib.hid bl, Lib.hid box_new⟩
 case round =>
  exact zERNo6a_2
set_option maxRecDepth 100000 in
theorem rn_VarT (l : List Ex) (ih : IHn true l) (s : ByteArray) (n : Int) (p : Option Addr) (m c : Nat) (w : World) (h : In w (.mk (26) s n l) p m) (hs : Sz (.mk (26) s n l)) : Calls Tryz.prog 201 #[.agg #[.int .i64 (26), .string s, .int .i64 n, .slice p m c], .bool true] w (Gives (.int .i64 (bad true (pre (.mk (26) s n l)))) w) := by
 have HH := Lib.hid h
 have HI := Lib.hid ih
 obtain ⟨hl, hm⟩ := h.len
 have HL := Lib.hid hl
 have HS := Lib.hid hs
 have hsz := hs.self
 rw [bad_mk, hl]
 clear ih h hl hs
 have hA : ari (26) = 0 := rfl
 have hB : obj (26) = false := rfl
 have HA := Lib.hid (fun W => arity_gives hA W)
 have HB := Lib.hid (fun W => object_gives hB W)
 have hkn : known true (26) = true := rfl
 have hnm : named true (26) = false := rfl
 have hct : counted true (26) = true := rfl
 have hnb : numbered true (26) = true := rfl
 by_cases hs0 : bs s = []
 rotate_left
 · have e0 := emp_no' hs0
   have HV := Lib.hid (show nd true (26) (bs s) n m = 1 from nb_s hnm hs0)
   exact zERNo6a_1
 have e0 := emp_yes' hs0
 by_cases hmA : (m : Int) = 0
 rotate_left
 · have g0 : ((m : Int) == 0) = false := beq_eq_false_iff_ne.2 hmA
   have g1 : ((m : Int) != 0) = true := bne_iff_ne.2 hmA
   have HV := Lib.hid (show nd true (26) (bs s) n m = 1 from nb_m hA hmA)
   exact zERNo6a_1
 obtain rfl : m = 0 := by omega
 have hfair := nb_fair (s := bs s) (n := n) (m := 0) hkn hnm hnb hA (.inr hs0) (.inl rfl) rfl
 obtain ⟨M, hM⟩ : ∃ M, most (26) = M := ⟨_, rfl⟩
 have HMO := Lib.hid (fun W => most_gives hM W)
 by_cases hn0 : n < 0
 · have f0 : decide (n < 0) = true := decide_eq_true hn0
   have hR : badR true (26) n = true := by unfold badR; rw [hct, hM, decide_eq_true hn0]; simp
   exact zERNo6a_0
 have f0 : decide (n < 0) = false := decide_eq_false hn0
 by_cases hn1 : M < n
 · have f1 : decide (M < n) = true := decide_eq_true hn1
   have hR : badR true (26) n = true := by unfold badR; rw [hct, hM, f0, f1]; simp
   exact zERNo6a_0
 have f1 : decide (M < n) = false := decide_eq_false hn1
 have hR : badR true (26) n = false := by unfold badR; rw [hct, hM, f0, f1]; simp
 rw [hfair.trans (show _ = (0 : Int) by rw [hR]; rfl), if_pos rfl]
 clear hkn hnm hct hnb hA hB hfair hs0 hR hM
 go_enter Tryz.func201, Tryz.ntmps201
 go_wp2_with (first | (go_at_call 202; refine (HA.out _).mono ?_; rintro e w1 ⟨rfl, rfl⟩) | (go_at_call 203; refine (HB.out _).mono ?_; rintro e w1 ⟨rfl, rfl⟩))
 go_quiet ((go_at_call 204; exact Calls.quiet_of_same (HMO.out _)))
 go_wp2_with fail
 go_loopw [10] (fun i wr => ∃ k : Nat, k ≤ 0 ∧ Hid (bad true (preL (l.take k)) = 0) ∧ i = .int .i64 (k : Nat) ∧ Hid (Below w.heap.size w wr) ∧ Hid (box4 wr w.heap.size (26) s n p 0 c)) (fun i _ => 0 - (intOf i).toNat)
 case atStart => exact ⟨0, Nat.zero_le _, Lib.hid (by rw [List.take_zero, preL, bad]), rfl, Lib.hid bl, Lib.hid box_new⟩
 case round =>
  exact zERNo6a_2
end Go.Proofs.YtaaffmbnhjaebaaGreat.Ex
