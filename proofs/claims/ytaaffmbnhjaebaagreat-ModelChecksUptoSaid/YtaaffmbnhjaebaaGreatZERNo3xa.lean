/-
  Parts of this proof: The reference's check of a node, by forms.
-/
import Derived.Test.YtaaffmbnhjaebaaGreatZQRsdxa
namespace Go.Proofs.YtaaffmbnhjaebaaGreat.Ex
open Go.RowKit
open Go.Proofs.YtaaffmbnhjaebaaGreat.Na (bs)
set_option maxHeartbeats 4000000
set_option linter.unusedVariables false
set_option linter.unusedSimpArgs false
theorem zERNo3a_0 {p : Prop} (h : p := by
 go_enter Tryz.func201, Tryz.ntmps201
 go_wp2_with (first | (go_at_call 202; refine (HA.out _).mono ?_; rintro e w1 ⟨rfl, rfl⟩) | (go_at_call 203; refine (HB.out _).mono ?_; rintro e w1 ⟨rfl, rfl⟩))
 go_ret
 exact ⟨rfl, bl⟩
 ) : p := h
theorem zERNo3a_1 {p : Prop} (h : p := by
 rw [hE] at HI1 HSP HE
 clear hE
 go_wp2_with fail
 refine HI1.mono ?_
 rintro e w2 ⟨rfl, hb2⟩
 have HW2 : Hid (Below w.heap.size w w2) := Lib.hid (by have HBB := HW.out; exact bl)
 have HB5 := Lib.hid (HB4.out.on hb2)
 clear hb2 HI1
 by_cases hE0 : E = 0
 · subst hE0
   have HR := HE.out
   have HR2 := Lib.hid HR
   clear HR
   go_wp2_with fail
   go_roundw
   case rel => exact ⟨k + 1, by omega, HR2, by go_num, HW2, HB5⟩
   case measure => simp [intOf]; omega
 · have e1 : (E == 0) = false := beq_eq_false_iff_ne.2 hE0
   have HR := Lib.hid (HSP.out hE0)
   go_wp2_with fail
   go_ret
   exact ⟨by rw [HR.out]; rfl, HW2.out⟩
 ) : p := h
theorem zERNo3a_2 {p : Prop} (h : p := by
 obtain rfl : m = k := by omega
 have HT : Hid (l.take m = l) := Lib.hid (List.take_of_length_le (by rw [HL.out]; exact Nat.le_refl _))
 rw [HT.out] at HT0
 go_wp2_with fail
 go_ret
 exact ⟨by rw [HT0.out]; rfl, HW.out⟩
 ) : p := h
theorem zERNo3a_3 {p : Prop} (h : p := by
 rw [HV.out, if_neg (by decide)]
 clear hkn hnm hct hnb hA hB hs0
 exact zERNo3a_0
 ) : p := h
set_option maxRecDepth 100000 in
theorem rn_MidF (l : List Ex) (ih : IHn false l) (o : Int) (h4 : 4 ≤ o) (h21 : o ≤ 21) (s : ByteArray) (n : Int) (p : Option Addr) (m c : Nat) (w : World) (h : In w (.mk o s n l) p m) (hs : Sz (.mk o s n l)) : Calls Tryz.prog 201 #[.agg #[.int .i64 (o), .string s, .int .i64 n, .slice p m c], .bool false] w (Gives (.int .i64 (bad false (pre (.mk o s n l)))) w) := by
 have HH := Lib.hid h
 have HI := Lib.hid ih
 obtain ⟨hl, hm⟩ := h.len
 have HL := Lib.hid hl
 have HS := Lib.hid hs
 have hsz := hs.self
 rw [bad_mk, hl]
 clear ih h hl hs
 obtain ⟨A, hA⟩ : ∃ A, ari o = A := ⟨_, rfl⟩
 have hA1 : 0 ≤ A := by unfold ari at hA; split at hA <;> (try split at hA) <;> (try split at hA) <;> omega
 have hB : obj o = false := by unfold obj; simp; omega
 have HA := Lib.hid (fun W => arity_gives hA W)
 have HB := Lib.hid (fun W => object_gives hB W)
 have t1 : (o == 1) = false := beq_eq_false_iff_ne.2 (by omega)
 have t2 : (o == 2) = false := beq_eq_false_iff_ne.2 (by omega)
 have t3 : (o == 3) = false := beq_eq_false_iff_ne.2 (by omega)
 have t25 : (o == 25) = false := beq_eq_false_iff_ne.2 (by omega)
 have t26 : (o == 26) = false := beq_eq_false_iff_ne.2 (by omega)
 have u3 : (o != 3) = true := bne_iff_ne.2 (by omega)
 have v3 : ¬ o = 3 := by omega
 have hkn : known false o = true := by unfold known; rw [hA]; rw [decide_eq_true hA1]; simp; omega
 have hnm : named false o = false := by unfold named; rw [hB]; simp; omega
 have hct : counted false o = false := by unfold counted; rw [hB]; simp
 have hnb : numbered false o = false := by unfold numbered; rw [hct]; simp; omega
 by_cases hs0 : bs s = []
 rotate_left
 · have e0 := emp_no' hs0
   have HV := Lib.hid (show nd false o (bs s) n m = 1 from nb_s hnm hs0)
   exact zERNo3a_3
 have e0 := emp_yes' hs0
 by_cases hn0 : n = 0
 rotate_left
 · have f0 : (n == 0) = false := beq_eq_false_iff_ne.2 hn0
   have HV := Lib.hid (show nd false o (bs s) n m = 1 from nb_n hnb hn0)
   rw [HV.out, if_neg (by decide)]
   clear hkn hnm hct hnb hA hB hn0 hs0
   exact zERNo3a_0
 subst hn0
 by_cases hmA : (m : Int) = A
 rotate_left
 · have g0 : ((m : Int) == A) = false := beq_eq_false_iff_ne.2 hmA
   have g1 : ((m : Int) != A) = true := bne_iff_ne.2 hmA
   have HV := Lib.hid (show nd false o (bs s) 0 m = 1 from nb_m hA hmA)
   exact zERNo3a_3
 subst hmA
 have hfair := nb_fair (s := bs s) (n := 0) (m := m) hkn hnm hnb hA (.inr hs0) (.inr rfl) rfl
 have hR : badR false o 0 = false := by unfold badR; rw [hct]; simp; omega
 rw [hfair.trans (show _ = (0 : Int) by rw [hR]; rfl), if_pos rfl]
 clear hkn hnm hct hnb hA hB hfair hs0 hR
 go_enter Tryz.func201, Tryz.ntmps201
 go_wp2_with (first | (go_at_call 202; refine (HA.out _).mono ?_; rintro e w1 ⟨rfl, rfl⟩) | (go_at_call 203; refine (HB.out _).mono ?_; rintro e w1 ⟨rfl, rfl⟩))
 go_quiet (fail)
 go_wp2_with fail
 go_loopw [10] (fun i wr => ∃ k : Nat, k ≤ m ∧ Hid (bad false (preL (l.take k)) = 0) ∧ i = .int .i64 (k : Nat) ∧ Hid (Below w.heap.size w wr) ∧ Hid (box4 wr w.heap.size o s 0 p m c)) (fun i _ => m - (intOf i).toNat)
 case atStart => exact ⟨0, Nat.zero_le _, Lib.hid (by rw [List.take_zero, preL, bad]), rfl, Lib.hid bl, Lib.hid box_new⟩
 case round =>
  obtain ⟨k, hk, HT0, rfl, HW, HB4⟩ := hrel
  obtain ⟨b0, b1, b2, b3⟩ := HB4.out
  have k0 : (0 : Int) ≤ (k : Int) := by omega
  rcases Nat.lt_or_ge k m with h | h
  · have k1 : (k : Int) < (m : Int) := by omega
    obtain ⟨b, o', rfl, -, hG, hcell⟩ := HH.out.kids (by omega)
    have hkl : k < l.length := by rw [HL.out]; omega
    obtain ⟨q, j, c', hc4, hkin⟩ := hcell.out k hkl
    have hmem : l[k] ∈ l := List.getElem_mem hkl
    have hgx : l[k]? = some l[k] := List.getElem?_eq_getElem hkl
    obtain ⟨x, hx⟩ : ∃ x, l[k] = x := ⟨_, rfl⟩
    rw [hx] at hc4 hkin hmem hgx
    obtain ⟨e0, e1, e2, e3⟩ := hc4.on HW.out hG
    have HKIN := Lib.hid hkin
    have HX := Lib.hid hgx
    have HM := Lib.hid hmem
    clear hcell hc4 hkin hx hmem hgx hkl
    have HSP := Lib.hid (badL_stop (c := false) HX.out HT0.out)
    have HE := Lib.hid (badL_step (c := false) HX.out HT0.out)
    have HI1 := HI.out x HM.out q j c' wr (HKIN.out.on HW.out) (HS.out.kid HM.out)
    obtain ⟨E, hE⟩ : ∃ E, bad false (pre x) = E := ⟨_, rfl⟩
    exact zERNo3a_1
  · exact zERNo3a_2
set_option maxRecDepth 100000 in
theorem rn_MidT (l : List Ex) (ih : IHn true l) (o : Int) (h4 : 4 ≤ o) (h21 : o ≤ 21) (s : ByteArray) (n : Int) (p : Option Addr) (m c : Nat) (w : World) (h : In w (.mk o s n l) p m) (hs : Sz (.mk o s n l)) : Calls Tryz.prog 201 #[.agg #[.int .i64 (o), .string s, .int .i64 n, .slice p m c], .bool true] w (Gives (.int .i64 (bad true (pre (.mk o s n l)))) w) := by
 have HH := Lib.hid h
 have HI := Lib.hid ih
 obtain ⟨hl, hm⟩ := h.len
 have HL := Lib.hid hl
 have HS := Lib.hid hs
 have hsz := hs.self
 rw [bad_mk, hl]
 clear ih h hl hs
 obtain ⟨A, hA⟩ : ∃ A, ari o = A := ⟨_, rfl⟩
 have hA1 : 0 ≤ A := by unfold ari at hA; split at hA <;> (try split at hA) <;> (try split at hA) <;> omega
 have hB : obj o = false := by unfold obj; simp; omega
 have HA := Lib.hid (fun W => arity_gives hA W)
 have HB := Lib.hid (fun W => object_gives hB W)
 have t1 : (o == 1) = false := beq_eq_false_iff_ne.2 (by omega)
 have t2 : (o == 2) = false := beq_eq_false_iff_ne.2 (by omega)
 have t3 : (o == 3) = false := beq_eq_false_iff_ne.2 (by omega)
 have t25 : (o == 25) = false := beq_eq_false_iff_ne.2 (by omega)
 have t26 : (o == 26) = false := beq_eq_false_iff_ne.2 (by omega)
 have u3 : (o != 3) = true := bne_iff_ne.2 (by omega)
 have v3 : ¬ o = 3 := by omega
 have hkn : known true o = true := by unfold known; rw [hA]; rw [decide_eq_true hA1]; simp; omega
 have hnm : named true o = false := by unfold named; rw [hB]; simp
 have hct : counted true o = false := by unfold counted; rw [hB]; simp; omega
 have hnb : numbered true o = false := by unfold numbered; rw [hct]; simp; omega
 by_cases hs0 : bs s = []
 rotate_left
 · have e0 := emp_no' hs0
   have HV := Lib.hid (show nd true o (bs s) n m = 1 from nb_s hnm hs0)
   exact zERNo3a_3
 have e0 := emp_yes' hs0
 by_cases hn0 : n = 0
 rotate_left
 · have f0 : (n == 0) = false := beq_eq_false_iff_ne.2 hn0
   have HV := Lib.hid (show nd true o (bs s) n m = 1 from nb_n hnb hn0)
   rw [HV.out, if_neg (by decide)]
   clear hkn hnm hct hnb hA hB hn0 hs0
   exact zERNo3a_0
 subst hn0
 by_cases hmA : (m : Int) = A
 rotate_left
 · have g0 : ((m : Int) == A) = false := beq_eq_false_iff_ne.2 hmA
   have g1 : ((m : Int) != A) = true := bne_iff_ne.2 hmA
   have HV := Lib.hid (show nd true o (bs s) 0 m = 1 from nb_m hA hmA)
   exact zERNo3a_3
 subst hmA
 have hfair := nb_fair (s := bs s) (n := 0) (m := m) hkn hnm hnb hA (.inr hs0) (.inr rfl) rfl
 have hR : badR true o 0 = false := by unfold badR; rw [hct]; simp; omega
 rw [hfair.trans (show _ = (0 : Int) by rw [hR]; rfl), if_pos rfl]
 clear hkn hnm hct hnb hA hB hfair hs0 hR
 go_enter Tryz.func201, Tryz.ntmps201
 go_wp2_with (first | (go_at_call 202; refine (HA.out _).mono ?_; rintro e w1 ⟨rfl, rfl⟩) | (go_at_call 203; refine (HB.out _).mono ?_; rintro e w1 ⟨rfl, rfl⟩))
 go_quiet (fail)
 go_wp2_with fail
 go_loopw [10] (fun i wr => ∃ k : Nat, k ≤ m ∧ Hid (bad true (preL (l.take k)) = 0) ∧ i = .int .i64 (k : Nat) ∧ Hid (Below w.heap.size w wr) ∧ Hid (box4 wr w.heap.size o s 0 p m c)) (fun i _ => m - (intOf i).toNat)
 case atStart => exact ⟨0, Nat.zero_le _, Lib.hid (by rw [List.take_zero, preL, bad]), rfl, Lib.hid bl, Lib.hid box_new⟩
 case round =>
  obtain ⟨k, hk, HT0, rfl, HW, HB4⟩ := hrel
  obtain ⟨b0, b1, b2, b3⟩ := HB4.out
  have k0 : (0 : Int) ≤ (k : Int) := by omega
  rcases Nat.lt_or_ge k m with h | h
  · have k1 : (k : Int) < (m : Int) := by omega
    obtain ⟨b, o', rfl, -, hG, hcell⟩ := HH.out.kids (by omega)
    have hkl : k < l.length := by rw [HL.out]; omega
    obtain ⟨q, j, c', hc4, hkin⟩ := hcell.out k hkl
    have hmem : l[k] ∈ l := List.getElem_mem hkl
    have hgx : l[k]? = some l[k] := List.getElem?_eq_getElem hkl
    obtain ⟨x, hx⟩ : ∃ x, l[k] = x := ⟨_, rfl⟩
    rw [hx] at hc4 hkin hmem hgx
    obtain ⟨e0, e1, e2, e3⟩ := hc4.on HW.out hG
    have HKIN := Lib.hid hkin
    have HX := Lib.hid hgx
    have HM := Lib.hid hmem
    clear hcell hc4 hkin hx hmem hgx hkl
    have HSP := Lib.hid (badL_stop (c := true) HX.out HT0.out)
    have HE := Lib.hid (badL_step (c := true) HX.out HT0.out)
    have HI1 := HI.out x HM.out q j c' wr (HKIN.out.on HW.out) (HS.out.kid HM.out)
    obtain ⟨E, hE⟩ : ∃ E, bad true (pre x) = E := ⟨_, rfl⟩
    exact zERNo3a_1
  · exact zERNo3a_2
end Go.Proofs.YtaaffmbnhjaebaaGreat.Ex
