/-
  Parts of this proof: The reference's check of a node, by forms.
-/
import Derived.Test.YtaaffmbnhjaebaaGreatZQRsdxa
namespace Go.Proofs.YtaaffmbnhjaebaaGreat.Ex
open Go.RowKit
open Go.Proofs.YtaaffmbnhjaebaaGreat.Na (bs)
set_option maxHeartbeats 4000000
set_option linter.unusedVariables false
set_option linter.unusedSimpArgs false
theorem zERNo7a_0 {p : Prop} (h : p := by
 go_enter Tryz.func201, Tryz.ntmps201
 go_wp2_with (first | (go_at_call 202; refine (HA.out _).mono ?_; rintro e w1 ⟨rfl, rfl⟩) | (go_at_call 203; refine (HB.out _).mono ?_; rintro e w1 ⟨rfl, rfl⟩))
 go_quiet (fail)
 go_wp2_with fail
 go_loopw [10] (fun i wr => ∃ k : Nat, k ≤ 0 ∧ Hid (bad true (preL (l.take k)) = 0) ∧ i = .int .i64 (k : Nat) ∧ Hid (Below w.heap.size w wr) ∧ Hid (box4 wr w.heap.size o s n p 0 c)) (fun i _ => 0 - (intOf i).toNat)
 case atStart => exact ⟨0, Nat.zero_le _, Lib.hid (by rw [List.take_zero, preL, bad]), rfl, Lib.hid bl, Lib.hid box_new⟩
 case round =>
  obtain ⟨k, hk, HT0, rfl, HW, HB4⟩ := hrel
  obtain ⟨b0, b1, b2, b3⟩ := HB4.out
  obtain rfl : k = 0 := by omega
  have hl0 : l = [] := List.length_eq_zero_iff.1 HL.out
  have HR : Hid (bad true (preL l) = 0) := Lib.hid (by rw [hl0, preL, bad])
  clear hl0
  go_wp2_with fail
  go_ret
  exact ⟨by rw [HR.out]; rfl, HW.out⟩
 ) : p := h
theorem zERNo7a_1 {p : Prop} (h : p := by
 rw [HV.out, if_neg (by decide)]
 clear hkn hnm hct hnb hA hB hs0 h2
 go_enter Tryz.func201, Tryz.ntmps201
 go_wp2_with (first | (go_at_call 202; refine (HA.out _).mono ?_; rintro e w1 ⟨rfl, rfl⟩) | (go_at_call 203; refine (HB.out _).mono ?_; rintro e w1 ⟨rfl, rfl⟩))
 go_ret
 exact ⟨rfl, bl⟩
 ) : p := h
set_option maxRecDepth 100000 in
theorem rn_TwoT (l : List Ex) (ih : IHn true l) (o : Int) (h2 : o = 2) (s : ByteArray) (n : Int) (p : Option Addr) (m c : Nat) (w : World) (h : In w (.mk o s n l) p m) (hs : Sz (.mk o s n l)) : Calls Tryz.prog 201 #[.agg #[.int .i64 o, .string s, .int .i64 n, .slice p m c], .bool true] w (Gives (.int .i64 (bad true (pre (.mk o s n l)))) w) := by
 have HH := Lib.hid h
 have HI := Lib.hid ih
 obtain ⟨hl, hm⟩ := h.len
 have HL := Lib.hid hl
 have HS := Lib.hid hs
 have hsz := hs.self
 rw [bad_mk, hl]
 clear ih h hl hs
 have hA : ari o = 0 := by rw [h2]; rfl
 have hB : obj o = false := by rw [h2]; rfl
 have t1 : (o == 1) = false := by rw [h2]; rfl
 have t2 : (o == 2) = true := by rw [h2]; rfl
 have t3 : (o == 3) = false := by rw [h2]; rfl
 have t25 : (o == 25) = false := by rw [h2]; rfl
 have t26 : (o == 26) = false := by rw [h2]; rfl
 have u3 : (o != 3) = true := by rw [h2]; rfl
 have v3 : ¬ o = 3 := by omega
 have w24 : o ≤ 24 := by omega
 have HA := Lib.hid (fun W => arity_gives hA W)
 have HB := Lib.hid (fun W => object_gives hB W)
 have hkn : known true o = true := by rw [h2]; rfl
 have hnm : named true o = false := by rw [h2]; rfl
 have hct : counted true o = false := by rw [h2]; rfl
 have hnb : numbered true o = true := by rw [h2]; rfl
 by_cases hs0 : bs s = []
 rotate_left
 · have e0 := emp_no' hs0
   have HV := Lib.hid (show nd true o (bs s) n m = 1 from nb_s hnm hs0)
   exact zERNo7a_1
 have e0 := emp_yes' hs0
 by_cases hmA : (m : Int) = 0
 rotate_left
 · have g0 : ((m : Int) == 0) = false := beq_eq_false_iff_ne.2 hmA
   have g1 : ((m : Int) != 0) = true := bne_iff_ne.2 hmA
   have HV := Lib.hid (show nd true o (bs s) n m = 1 from nb_m hA hmA)
   exact zERNo7a_1
 obtain rfl : m = 0 := by omega
 have hfair := nb_fair (s := bs s) (n := n) (m := 0) hkn hnm hnb hA (.inr hs0) (.inl rfl) rfl
 by_cases hn0 : n = 0
 · have f0 : (n == 0) = true := beq_iff_eq.2 hn0
   have f2 : (n != 0) = false := by simp [bne, f0]
   have hR : badR true o n = false := by rw [h2, hn0]; rfl
   rw [hfair.trans (show _ = (0 : Int) by rw [hR]; rfl), if_pos rfl]
   clear hkn hnm hct hnb hA hB hfair hs0 hR h2 hn0
   exact zERNo7a_0
 by_cases hn1 : n = 1
 · have f0 : (n == 0) = false := beq_eq_false_iff_ne.2 hn0
   have f1 : (n == 1) = true := beq_iff_eq.2 hn1
   have f2 : (n != 0) = true := by simp [bne, f0]
   have f3 : (n != 1) = false := by simp [bne, f1]
   have hR : badR true o n = false := by rw [h2, hn1]; rfl
   rw [hfair.trans (show _ = (0 : Int) by rw [hR]; rfl), if_pos rfl]
   clear hkn hnm hct hnb hA hB hfair hs0 hR hn0 hn1 h2
   exact zERNo7a_0
 have f0 : (n == 0) = false := beq_eq_false_iff_ne.2 hn0
 have f1 : (n == 1) = false := beq_eq_false_iff_ne.2 hn1
 have f2 : (n != 0) = true := by simp [bne, f0]
 have f3 : (n != 1) = true := by simp [bne, f1]
 have hR : badR true o n = true := by rw [h2]; unfold badR; simp [hn0, hn1]
 rw [hfair.trans (show _ = (2 : Int) by rw [hR]; rfl), if_neg (by decide)]
 clear hkn hnm hct hnb hA hB hfair hs0 hR h2 hn0 hn1
 go_enter Tryz.func201, Tryz.ntmps201
 go_wp2_with (first | (go_at_call 202; refine (HA.out _).mono ?_; rintro e w1 ⟨rfl, rfl⟩) | (go_at_call 203; refine (HB.out _).mono ?_; rintro e w1 ⟨rfl, rfl⟩))
 go_quiet (fail)
 go_wp2_with fail
 go_ret
 exact ⟨rfl, bl⟩
end Go.Proofs.YtaaffmbnhjaebaaGreat.Ex
