/-
  Parts of this proof: The contracts of the reference's Nodes and Depth.
-/
import Derived.Test.YtaaffmbnhjaebaaGreatZNmMath
namespace Go.Proofs.YtaaffmbnhjaebaaGreat.Ex
open Go.RowKit
set_option maxHeartbeats 1000000
set_option linter.unusedVariables false
theorem zERNodea_0 {p : Prop} (h : p := by
 go_wp2_with fail
 go_roundw
 case rel => exact ⟨k + 1, by omega, by rw [HK.out]; go_num, by go_num, HW2, HB5⟩
 case measure => simp [intOf]; omega
 ) : p := h
set_option maxRecDepth 100000 in
theorem rnodes_any (e : Ex) : ∀ (p : Option Addr) (m c : Nat) (w : World), In w e p m → cnt e ≤ 1000000 → Calls Tryz.prog 199 #[.agg #[.int .i64 e.o, .string e.s, .int .i64 e.n, .slice p m c]] w (Gives (.int .i64 (cnt e : Nat)) w) := by
 induction e using Ex.ind with
 | h o s n l ih =>
  intro p m c w h hc
  rw [cnt_one] at hc
  have HH := Lib.hid h
  have HI := Lib.hid ih
  obtain ⟨hl, hm⟩ := h.len
  have HL := Lib.hid hl
  have HC := Lib.hid hc
  simp only [Ex.o, Ex.s, Ex.n]
  clear ih h hl hc
  rw [cnt_one]
  go_enter Tryz.func199, Tryz.ntmps199
  go_wp2_with fail
  go_loopw [3, 4] (fun d i wr => ∃ k : Nat, k ≤ m ∧ d = .int .i64 ((cntL (l.take k) + 1 : Nat)) ∧ i = .int .i64 (k : Nat) ∧ Hid (Below w.heap.size w wr) ∧ Hid (box4 wr w.heap.size o s n p m c)) (fun d i _ => m - (intOf i).toNat)
  case atStart => exact ⟨0, Nat.zero_le _, rfl, rfl, Lib.hid bl, Lib.hid box_new⟩
  case round =>
   obtain ⟨k, hk, rfl, rfl, HW, HB4⟩ := hrel
   obtain ⟨b0, b1, b2, b3⟩ := HB4.out
   have k0 : (0 : Int) ≤ (k : Int) := by omega
   rcases Nat.lt_or_ge k m with h | h
   · have k1 : (k : Int) < (m : Int) := by omega
     obtain ⟨b, o', rfl, -, hG, hcell⟩ := HH.out.kids (by omega)
     have hkl : k < l.length := by rw [HL.out]; omega
     obtain ⟨q, j, c', hc4, hkin⟩ := hcell.out k hkl
     have hmem : l[k] ∈ l := List.getElem_mem hkl
     have hgx : l[k]? = some l[k] := List.getElem?_eq_getElem hkl
     obtain ⟨x, hx⟩ : ∃ x, l[k] = x := ⟨_, rfl⟩
     rw [hx] at hc4 hkin hmem hgx
     obtain ⟨e0, e1, e2, e3⟩ := hc4.on HW.out hG
     have HKIN := Lib.hid hkin
     have HX := Lib.hid hgx
     have HM := Lib.hid hmem
     clear hcell hc4 hkin hx hmem hgx hkl
     obtain ⟨d1, d2⟩ := cnt_cap k HX.out HC.out
     have HK := Lib.hid (cntL_take HX.out)
     obtain ⟨D, hD⟩ : ∃ D, cntL (l.take k) = D := ⟨_, rfl⟩
     obtain ⟨E, hE⟩ : ∃ E, cnt x = E := ⟨_, rfl⟩
     have HI1 := HI.out x HM.out q j c' wr (HKIN.out.on HW.out) d2
     rw [hD] at d1 HK ⊢
     rw [hE] at d1 HK HI1
     clear d2 hD hE
     go_wp2_with fail
     refine HI1.mono ?_
     rintro e w2 ⟨rfl, hb2⟩
     have HW2 : Hid (Below w.heap.size w w2) := Lib.hid (by have HBB := HW.out; exact bl)
     have HB5 := Lib.hid (HB4.out.on hb2)
     clear hb2 HI1
     exact zERNodea_0
   · obtain rfl : m = k := by omega
     have HT : Hid (l.take m = l) := Lib.hid (List.take_of_length_le (by rw [HL.out]; exact Nat.le_refl _))
     rw [HT.out]
     go_wp2_with fail
     go_ret
     exact ⟨by go_num, HW.out⟩
set_option maxRecDepth 100000 in
theorem rdepth_any (e : Ex) : ∀ (p : Option Addr) (m c : Nat) (w : World), In w e p m → cnt e ≤ 1000000 → Calls Tryz.prog 200 #[.agg #[.int .i64 e.o, .string e.s, .int .i64 e.n, .slice p m c]] w (Gives (.int .i64 (dep e : Nat)) w) := by
 induction e using Ex.ind with
 | h o s n l ih =>
  intro p m c w h hc
  rw [cnt_one] at hc
  have HH := Lib.hid h
  have HI := Lib.hid ih
  obtain ⟨hl, hm⟩ := h.len
  have HL := Lib.hid hl
  have HC := Lib.hid hc
  simp only [Ex.o, Ex.s, Ex.n]
  clear ih h hl hc
  rw [depth_one]
  go_enter Tryz.func200, Tryz.ntmps200
  go_wp2_with fail
  go_loopw [3, 4] (fun d i wr => ∃ k : Nat, k ≤ m ∧ d = .int .i64 (depL (l.take k) : Nat) ∧ i = .int .i64 (k : Nat) ∧ Hid (Below w.heap.size w wr) ∧ Hid (box4 wr w.heap.size o s n p m c)) (fun d i _ => m - (intOf i).toNat)
  case atStart => exact ⟨0, Nat.zero_le _, rfl, rfl, Lib.hid bl, Lib.hid box_new⟩
  case round =>
   obtain ⟨k, hk, rfl, rfl, HW, HB4⟩ := hrel
   obtain ⟨b0, b1, b2, b3⟩ := HB4.out
   have k0 : (0 : Int) ≤ (k : Int) := by omega
   rcases Nat.lt_or_ge k m with h | h
   · have k1 : (k : Int) < (m : Int) := by omega
     obtain ⟨b, o', rfl, -, hG, hcell⟩ := HH.out.kids (by omega)
     have hkl : k < l.length := by rw [HL.out]; omega
     obtain ⟨q, j, c', hc4, hkin⟩ := hcell.out k hkl
     have hmem : l[k] ∈ l := List.getElem_mem hkl
     have hgx : l[k]? = some l[k] := List.getElem?_eq_getElem hkl
     obtain ⟨x, hx⟩ : ∃ x, l[k] = x := ⟨_, rfl⟩
     rw [hx] at hc4 hkin hmem hgx
     obtain ⟨e0, e1, e2, e3⟩ := hc4.on HW.out hG
     have HKIN := Lib.hid hkin
     have HX := Lib.hid hgx
     have HM := Lib.hid hmem
     clear hcell hc4 hkin hx hmem hgx hkl
     obtain ⟨d1, d2⟩ := dep_cap k HM.out HC.out
     have HK := Lib.hid (depL_take HX.out)
     obtain ⟨D, hD⟩ : ∃ D, depL (l.take k) = D := ⟨_, rfl⟩
     obtain ⟨E, hE⟩ : ∃ E, dep x = E := ⟨_, rfl⟩
     have HI1 := HI.out x HM.out q j c' wr (HKIN.out.on HW.out) (cnt_cap k HX.out HC.out).2
     rw [hD] at d1 HK ⊢
     rw [hE] at d2 HK HI1
     clear hD hE
     go_wp2_with fail
     refine HI1.mono ?_
     rintro e w2 ⟨rfl, hb2⟩
     have HW2 : Hid (Below w.heap.size w w2) := Lib.hid (by have HBB := HW.out; exact bl)
     have HB5 := Lib.hid (HB4.out.on hb2)
     clear hb2 HI1
     by_cases hDE : D < E
     · have m1 : (D : Int) < (E : Int) := by omega
       exact zERNodea_0
     · have m1 : (E : Int) ≤ (D : Int) := by omega
       exact zERNodea_0
   · obtain rfl : m = k := by omega
     have HT : Hid (l.take m = l) := Lib.hid (List.take_of_length_le (by rw [HL.out]; exact Nat.le_refl _))
     have d1 := dep_cap0 HC.out
     rw [HT.out]
     obtain ⟨D, hD⟩ : ∃ D, depL l = D := ⟨_, rfl⟩
     rw [hD] at d1 ⊢
     have HD := Lib.hid hD
     clear hD
     go_wp2_with fail
     go_ret
     exact ⟨by rw [HD.out]; go_num, HW.out⟩
end Go.Proofs.YtaaffmbnhjaebaaGreat.Ex
