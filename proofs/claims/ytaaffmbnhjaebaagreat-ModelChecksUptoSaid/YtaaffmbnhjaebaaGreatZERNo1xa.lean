/-
  Parts of this proof: The reference's check of a node, by forms.
-/
import Derived.Test.YtaaffmbnhjaebaaGreatZQRsdxa
namespace Go.Proofs.YtaaffmbnhjaebaaGreat.Ex
open Go.RowKit
open Go.Proofs.YtaaffmbnhjaebaaGreat.Na (bs)
set_option maxHeartbeats 4000000
set_option linter.unusedVariables false
set_option linter.unusedSimpArgs false
theorem zERNo1a_1 {p : Prop} (h : p := by
 go_enter Tryz.func201, Tryz.ntmps201
 go_wp2_with (first | (go_at_call 202; refine (HA.out _).mono ?_; rintro e w1 ⟨rfl, rfl⟩) | (go_at_call 203; refine (HB.out _).mono ?_; rintro e w1 ⟨rfl, rfl⟩))
 go_ret
 exact ⟨rfl, bl⟩
 ) : p := h
theorem zERNo1a_2 {p : Prop} (h : p := by
 rw [hfair.trans (show _ = (2 : Int) by rw [hR]; rfl), if_neg (by decide)]
 clear hkn hnm hct hnb hA hB hfair hs0 hR hv
 go_enter Tryz.func201, Tryz.ntmps201
 go_wp2_with (first | (go_at_call 202; refine (HA.out _).mono ?_; rintro e w1 ⟨rfl, rfl⟩) | (go_at_call 203; refine (HB.out _).mono ?_; rintro e w1 ⟨rfl, rfl⟩))
 go_quiet ((go_at_call 117; exact Calls.quiet_of_same (HIN.out _)))
 go_wp2_with fail
 go_ret
 exact ⟨rfl, bl⟩
 ) : p := h
theorem zERNo1a_3 {p : Prop} (h : p := by
 rw [HV.out, if_neg (by decide)]
 clear hkn hnm hct hnb hA hB hs0
 exact zERNo1a_1
 ) : p := h
set_option maxRecDepth 100000 in
theorem rn_OneF (l : List Ex) (ih : IHn false l) (s : ByteArray) (n : Int) (p : Option Addr) (m c : Nat) (w : World) (h : In w (.mk (1) s n l) p m) (hs : Sz (.mk (1) s n l)) : Calls Tryz.prog 201 #[.agg #[.int .i64 (1), .string s, .int .i64 n, .slice p m c], .bool false] w (Gives (.int .i64 (bad false (pre (.mk (1) s n l)))) w) := by
 have HH := Lib.hid h
 have HI := Lib.hid ih
 obtain ⟨hl, hm⟩ := h.len
 have HL := Lib.hid hl
 have HS := Lib.hid hs
 have hsz := hs.self
 rw [bad_mk, hl]
 clear ih h hl hs
 have hA : ari (1) = 0 := rfl
 have hB : obj (1) = false := rfl
 have HA := Lib.hid (fun W => arity_gives hA W)
 have HB := Lib.hid (fun W => object_gives hB W)
 have hkn : known false (1) = true := rfl
 have hnm : named false (1) = false := rfl
 have hct : counted false (1) = false := rfl
 have hnb : numbered false (1) = true := rfl
 by_cases hs0 : bs s = []
 rotate_left
 · have e0 := emp_no' hs0
   have HV := Lib.hid (show nd false (1) (bs s) n m = 1 from nb_s hnm hs0)
   exact zERNo1a_3
 have e0 := emp_yes' hs0
 by_cases hmA : (m : Int) = 0
 rotate_left
 · have g0 : ((m : Int) == 0) = false := beq_eq_false_iff_ne.2 hmA
   have g1 : ((m : Int) != 0) = true := bne_iff_ne.2 hmA
   have HV := Lib.hid (show nd false (1) (bs s) n m = 1 from nb_m hA hmA)
   exact zERNo1a_3
 obtain rfl : m = 0 := by omega
 have hfair := nb_fair (s := bs s) (n := n) (m := 0) hkn hnm hnb hA (.inr hs0) (.inl rfl) rfl
 cases hv : inI n with
 | true =>
  have HIN := Lib.hid (fun W => rin_gives hv W)
  have hR : badR false (1) n = false := by unfold badR; rw [hct, hv]; rfl
  rw [hfair.trans (show _ = (0 : Int) by rw [hR]; rfl), if_pos rfl]
  clear hkn hnm hct hnb hA hB hfair hs0 hR hv
  go_enter Tryz.func201, Tryz.ntmps201
  go_wp2_with (first | (go_at_call 202; refine (HA.out _).mono ?_; rintro e w1 ⟨rfl, rfl⟩) | (go_at_call 203; refine (HB.out _).mono ?_; rintro e w1 ⟨rfl, rfl⟩))
  go_quiet ((go_at_call 117; exact Calls.quiet_of_same (HIN.out _)))
  go_wp2_with fail
  go_loopw [10] (fun i wr => ∃ k : Nat, k ≤ 0 ∧ Hid (bad false (preL (l.take k)) = 0) ∧ i = .int .i64 (k : Nat) ∧ Hid (Below w.heap.size w wr) ∧ Hid (box4 wr w.heap.size (1) s n p 0 c)) (fun i _ => 0 - (intOf i).toNat)
  case atStart => exact ⟨0, Nat.zero_le _, Lib.hid (by rw [List.take_zero, preL, bad]), rfl, Lib.hid bl, Lib.hid box_new⟩
  case round =>
   obtain ⟨k, hk, HT0, rfl, HW, HB4⟩ := hrel
   obtain ⟨b0, b1, b2, b3⟩ := HB4.out
   obtain rfl : k = 0 := by omega
   have hl0 : l = [] := List.length_eq_zero_iff.1 HL.out
   have HR : Hid (bad false (preL l) = 0) := Lib.hid (by rw [hl0, preL, bad])
   clear hl0
   go_wp2_with fail
   go_ret
   exact ⟨by rw [HR.out]; rfl, HW.out⟩
 | false =>
  have HIN := Lib.hid (fun W => rin_gives hv W)
  have hR : badR false (1) n = true := by unfold badR; rw [hct, hv]; rfl
  exact zERNo1a_2
set_option maxRecDepth 100000 in
theorem rn_OneT (l : List Ex) (ih : IHn true l) (s : ByteArray) (n : Int) (p : Option Addr) (m c : Nat) (w : World) (h : In w (.mk (1) s n l) p m) (hs : Sz (.mk (1) s n l)) : Calls Tryz.prog 201 #[.agg #[.int .i64 (1), .string s, .int .i64 n, .slice p m c], .bool true] w (Gives (.int .i64 (bad true (pre (.mk (1) s n l)))) w) := by
 have HH := Lib.hid h
 have HI := Lib.hid ih
 obtain ⟨hl, hm⟩ := h.len
 have HL := Lib.hid hl
 have HS := Lib.hid hs
 have hsz := hs.self
 rw [bad_mk, hl]
 clear ih h hl hs
 have hA : ari (1) = 0 := rfl
 have hB : obj (1) = false := rfl
 have HA := Lib.hid (fun W => arity_gives hA W)
 have HB := Lib.hid (fun W => object_gives hB W)
 have hkn : known true (1) = true := rfl
 have hnm : named true (1) = false := rfl
 have hct : counted true (1) = false := rfl
 have hnb : numbered true (1) = true := rfl
 by_cases hs0 : bs s = []
 rotate_left
 · have e0 := emp_no' hs0
   have HV := Lib.hid (show nd true (1) (bs s) n m = 1 from nb_s hnm hs0)
   exact zERNo1a_3
 have e0 := emp_yes' hs0
 by_cases hmA : (m : Int) = 0
 rotate_left
 · have g0 : ((m : Int) == 0) = false := beq_eq_false_iff_ne.2 hmA
   have g1 : ((m : Int) != 0) = true := bne_iff_ne.2 hmA
   have HV := Lib.hid (show nd true (1) (bs s) n m = 1 from nb_m hA hmA)
   exact zERNo1a_3
 obtain rfl : m = 0 := by omega
 have hfair := nb_fair (s := bs s) (n := n) (m := 0) hkn hnm hnb hA (.inr hs0) (.inl rfl) rfl
 cases hv : inI n with
 | true =>
  have HIN := Lib.hid (fun W => rin_gives hv W)
  have hR : badR true (1) n = false := by unfold badR; rw [hct, hv]; rfl
  rw [hfair.trans (show _ = (0 : Int) by rw [hR]; rfl), if_pos rfl]
  clear hkn hnm hct hnb hA hB hfair hs0 hR hv
  go_enter Tryz.func201, Tryz.ntmps201
  go_wp2_with (first | (go_at_call 202; refine (HA.out _).mono ?_; rintro e w1 ⟨rfl, rfl⟩) | (go_at_call 203; refine (HB.out _).mono ?_; rintro e w1 ⟨rfl, rfl⟩))
  go_quiet ((go_at_call 117; exact Calls.quiet_of_same (HIN.out _)))
  go_wp2_with fail
  go_loopw [10] (fun i wr => ∃ k : Nat, k ≤ 0 ∧ Hid (bad true (preL (l.take k)) = 0) ∧ i = .int .i64 (k : Nat) ∧ Hid (Below w.heap.size w wr) ∧ Hid (box4 wr w.heap.size (1) s n p 0 c)) (fun i _ => 0 - (intOf i).toNat)
  case atStart => exact ⟨0, Nat.zero_le _, Lib.hid (by rw [List.take_zero, preL, bad]), rfl, Lib.hid bl, Lib.hid box_new⟩
  case round =>
   obtain ⟨k, hk, HT0, rfl, HW, HB4⟩ := hrel
   obtain ⟨b0, b1, b2, b3⟩ := HB4.out
   obtain rfl : k = 0 := by omega
   have hl0 : l = [] := List.length_eq_zero_iff.1 HL.out
   have HR : Hid (bad true (preL l) = 0) := Lib.hid (by rw [hl0, preL, bad])
   clear hl0
   go_wp2_with fail
   go_ret
   exact ⟨by rw [HR.out]; rfl, HW.out⟩
 | false =>
  have HIN := Lib.hid (fun W => rin_gives hv W)
  have hR : badR true (1) n = true := by unfold badR; rw [hct, hv]; rfl
  exact zERNo1a_2
theorem zERNo1a_0 {p : Prop} (h : p := by
 have HH := Lib.hid h
 have HI := Lib.hid ih
 obtain ⟨hl, hm⟩ := h.len
 have HL := Lib.hid hl
 have HS := Lib.hid hs
 have hsz := hs.self
 rw [bad_mk, hl]
 clear ih h hl hs
 obtain ⟨A, hA⟩ : ∃ A, ari o = A := ⟨_, rfl⟩
 have hA1 : A < 0 := by unfold ari at hA; rw [if_pos (by omega)] at hA; omega
 have hB : obj o = false := by unfold obj; simp; omega
 have HA := Lib.hid (fun W => arity_gives hA W)
 have HB := Lib.hid (fun W => object_gives hB W)
 have t1 : (o == 1) = false := beq_eq_false_iff_ne.2 (by omega)
 have t2 : (o == 2) = false := beq_eq_false_iff_ne.2 (by omega)
 have t3 : (o == 3) = false := beq_eq_false_iff_ne.2 (by omega)
 have t25 : (o == 25) = false := beq_eq_false_iff_ne.2 (by omega)
 have t26 : (o == 26) = false := beq_eq_false_iff_ne.2 (by omega)
 have u3 : (o != 3) = true := bne_iff_ne.2 (by omega)
 have v3 : ¬ o = 3 := by omega
 have hkn : known false o = false := by unfold known; rw [hA]; rw [decide_eq_false (by omega)]; rfl
 have HV := Lib.hid (show nd false o (bs s) n m = 1 from nb_kn hkn)
 rw [HV.out, if_neg (by decide)]
 clear hkn hA hB
 exact zERNo1a_1
 ) : p := h
set_option maxRecDepth 100000 in
theorem rn_LowF (l : List Ex) (ih : IHn false l) (o : Int) (h1 : o < 1) (s : ByteArray) (n : Int) (p : Option Addr) (m c : Nat) (w : World) (h : In w (.mk o s n l) p m) (hs : Sz (.mk o s n l)) : Calls Tryz.prog 201 #[.agg #[.int .i64 (o), .string s, .int .i64 n, .slice p m c], .bool false] w (Gives (.int .i64 (bad false (pre (.mk o s n l)))) w) := by
 exact zERNo1a_0
set_option maxRecDepth 100000 in
theorem rn_HighF (l : List Ex) (ih : IHn false l) (o : Int) (h26 : 26 < o) (s : ByteArray) (n : Int) (p : Option Addr) (m c : Nat) (w : World) (h : In w (.mk o s n l) p m) (hs : Sz (.mk o s n l)) : Calls Tryz.prog 201 #[.agg #[.int .i64 (o), .string s, .int .i64 n, .slice p m c], .bool false] w (Gives (.int .i64 (bad false (pre (.mk o s n l)))) w) := by
 exact zERNo1a_0
end Go.Proofs.YtaaffmbnhjaebaaGreat.Ex
namespace Go.Proofs.YtaaffmbnhjaebaaGreat.Ex
open Go.RowKit
open Go.Proofs.YtaaffmbnhjaebaaGreat.Na (bs)
set_option maxHeartbeats 4000000
set_option linter.unusedVariables false
set_option linter.unusedSimpArgs false
theorem zERNo2a_0 {p : Prop} (h : p := by
 go_enter Tryz.func201, Tryz.ntmps201
 go_wp2_with (first | (go_at_call 202; refine (HA.out _).mono ?_; rintro e w1 ⟨rfl, rfl⟩) | (go_at_call 203; refine (HB.out _).mono ?_; rintro e w1 ⟨rfl, rfl⟩))
 go_quiet (fail)
 go_wp2_with fail
 go_loopw [10] (fun i wr => ∃ k : Nat, k ≤ 0 ∧ Hid (bad false (preL (l.take k)) = 0) ∧ i = .int .i64 (k : Nat) ∧ Hid (Below w.heap.size w wr) ∧ Hid (box4 wr w.heap.size o s n p 0 c)) (fun i _ => 0 - (intOf i).toNat)
 case atStart => exact ⟨0, Nat.zero_le _, Lib.hid (by rw [List.take_zero, preL, bad]), rfl, Lib.hid bl, Lib.hid box_new⟩
 case round =>
  obtain ⟨k, hk, HT0, rfl, HW, HB4⟩ := hrel
  obtain ⟨b0, b1, b2, b3⟩ := HB4.out
  obtain rfl : k = 0 := by omega
  have hl0 : l = [] := List.length_eq_zero_iff.1 HL.out
  have HR : Hid (bad false (preL l) = 0) := Lib.hid (by rw [hl0, preL, bad])
  clear hl0
  go_wp2_with fail
  go_ret
  exact ⟨by rw [HR.out]; rfl, HW.out⟩
 ) : p := h
theorem zERNo2a_1 {p : Prop} (h : p := by
 rw [HV.out, if_neg (by decide)]
 clear hkn hnm hct hnb hA hB hs0 h2
 go_enter Tryz.func201, Tryz.ntmps201
 go_wp2_with (first | (go_at_call 202; refine (HA.out _).mono ?_; rintro e w1 ⟨rfl, rfl⟩) | (go_at_call 203; refine (HB.out _).mono ?_; rintro e w1 ⟨rfl, rfl⟩))
 go_ret
 exact ⟨rfl, bl⟩
 ) : p := h
set_option maxRecDepth 100000 in
theorem rn_TwoF (l : List Ex) (ih : IHn false l) (o : Int) (h2 : o = 2) (s : ByteArray) (n : Int) (p : Option Addr) (m c : Nat) (w : World) (h : In w (.mk o s n l) p m) (hs : Sz (.mk o s n l)) : Calls Tryz.prog 201 #[.agg #[.int .i64 o, .string s, .int .i64 n, .slice p m c], .bool false] w (Gives (.int .i64 (bad false (pre (.mk o s n l)))) w) := by
 have HH := Lib.hid h
 have HI := Lib.hid ih
 obtain ⟨hl, hm⟩ := h.len
 have HL := Lib.hid hl
 have HS := Lib.hid hs
 have hsz := hs.self
 rw [bad_mk, hl]
 clear ih h hl hs
 have hA : ari o = 0 := by rw [h2]; rfl
 have hB : obj o = false := by rw [h2]; rfl
 have t1 : (o == 1) = false := by rw [h2]; rfl
 have t2 : (o == 2) = true := by rw [h2]; rfl
 have t3 : (o == 3) = false := by rw [h2]; rfl
 have t25 : (o == 25) = false := by rw [h2]; rfl
 have t26 : (o == 26) = false := by rw [h2]; rfl
 have u3 : (o != 3) = true := by rw [h2]; rfl
 have v3 : ¬ o = 3 := by omega
 have w24 : o ≤ 24 := by omega
 have HA := Lib.hid (fun W => arity_gives hA W)
 have HB := Lib.hid (fun W => object_gives hB W)
 have hkn : known false o = true := by rw [h2]; rfl
 have hnm : named false o = false := by rw [h2]; rfl
 have hct : counted false o = false := by rw [h2]; rfl
 have hnb : numbered false o = true := by rw [h2]; rfl
 by_cases hs0 : bs s = []
 rotate_left
 · have e0 := emp_no' hs0
   have HV := Lib.hid (show nd false o (bs s) n m = 1 from nb_s hnm hs0)
   exact zERNo2a_1
 have e0 := emp_yes' hs0
 by_cases hmA : (m : Int) = 0
 rotate_left
 · have g0 : ((m : Int) == 0) = false := beq_eq_false_iff_ne.2 hmA
   have g1 : ((m : Int) != 0) = true := bne_iff_ne.2 hmA
   have HV := Lib.hid (show nd false o (bs s) n m = 1 from nb_m hA hmA)
   exact zERNo2a_1
 obtain rfl : m = 0 := by omega
 have hfair := nb_fair (s := bs s) (n := n) (m := 0) hkn hnm hnb hA (.inr hs0) (.inl rfl) rfl
 by_cases hn0 : n = 0
 · have f0 : (n == 0) = true := beq_iff_eq.2 hn0
   have f2 : (n != 0) = false := by simp [bne, f0]
   have hR : badR false o n = false := by rw [h2, hn0]; rfl
   rw [hfair.trans (show _ = (0 : Int) by rw [hR]; rfl), if_pos rfl]
   clear hkn hnm hct hnb hA hB hfair hs0 hR h2 hn0
   exact zERNo2a_0
 by_cases hn1 : n = 1
 · have f0 : (n == 0) = false := beq_eq_false_iff_ne.2 hn0
   have f1 : (n == 1) = true := beq_iff_eq.2 hn1
   have f2 : (n != 0) = true := by simp [bne, f0]
   have f3 : (n != 1) = false := by simp [bne, f1]
   have hR : badR false o n = false := by rw [h2, hn1]; rfl
   rw [hfair.trans (show _ = (0 : Int) by rw [hR]; rfl), if_pos rfl]
   clear hkn hnm hct hnb hA hB hfair hs0 hR hn0 hn1 h2
   exact zERNo2a_0
 have f0 : (n == 0) = false := beq_eq_false_iff_ne.2 hn0
 have f1 : (n == 1) = false := beq_eq_false_iff_ne.2 hn1
 have f2 : (n != 0) = true := by simp [bne, f0]
 have f3 : (n != 1) = true := by simp [bne, f1]
 have hR : badR false o n = true := by rw [h2]; unfold badR; simp [hn0, hn1]
 rw [hfair.trans (show _ = (2 : Int) by rw [hR]; rfl), if_neg (by decide)]
 clear hkn hnm hct hnb hA hB hfair hs0 hR h2 hn0 hn1
 go_enter Tryz.func201, Tryz.ntmps201
 go_wp2_with (first | (go_at_call 202; refine (HA.out _).mono ?_; rintro e w1 ⟨rfl, rfl⟩) | (go_at_call 203; refine (HB.out _).mono ?_; rintro e w1 ⟨rfl, rfl⟩))
 go_quiet (fail)
 go_wp2_with fail
 go_ret
 exact ⟨rfl, bl⟩
end Go.Proofs.YtaaffmbnhjaebaaGreat.Ex
