/-
  The contracts of Depth.
-/
import Derived.Test.YtonlmnlpofgccaaGreatEBase
namespace Go.Proofs.YtonlmnlpofgccaaGreat.Ex
open Go.RowKit
set_option maxHeartbeats 1000000
set_option linter.unusedVariables false
set_option maxRecDepth 100000 in
theorem depth_any (e : Ex) : ∀ (p : Option Addr) (m c : Nat) (w : World), In w e p m → cnt e ≤ 1000000 → Calls Tryz.prog 70 #[.agg #[.int .i64 e.o, .string e.s, .int .i64 e.n, .slice p m c]] w (Gives (.int .i64 (dep e : Nat)) w) := by
  induction e using Ex.ind with
  | h o s n l ih =>
    intro p m c w h hc
    rw [cnt_one] at hc
    have HH := Lib.hid h
    have HI := Lib.hid ih
    obtain ⟨hl, hm⟩ := h.len
    have HL := Lib.hid hl
    have HC := Lib.hid hc
    simp only [Ex.o, Ex.s, Ex.n]
    clear ih h hl hc
    rw [depth_one]
    go_enter Tryz.func70, Tryz.ntmps70
    go_wp2_with fail
    go_loopw [3, 9] (fun d i wr => ∃ k : Nat, k ≤ m ∧ d = .int .i64 (depL (l.take k) : Nat) ∧ i = .int .i64 (k : Nat) ∧ Hid (Below w.heap.size w wr)) (fun d i _ => m - (intOf i).toNat)
    case atStart => exact ⟨0, Nat.zero_le _, rfl, rfl, Lib.hid (by (repeat (first | (with_reducible exact Below.refl _ _) | (with_reducible assumption) | (with_reducible apply bl_alloc) | (with_reducible apply bl_drewN) | (with_reducible apply bl_drew) | (with_reducible refine bl_set ?_ (by first | (simp; done) | (simp; omega)) _) | (with_reducible refine bl_call ?_ (by assumption)))))⟩
    case round =>
      obtain ⟨k, hk, rfl, rfl, HW⟩ := hrel
      have k0 : (0 : Int) ≤ (k : Int) := by omega
      rcases Nat.lt_or_ge k m with h | h
      · have k1 : (k : Int) < (m : Int) := by omega
        obtain ⟨b, o', rfl, -, hG, hcell⟩ := HH.out.kids (by omega)
        have hkl : k < l.length := by rw [HL.out]; omega
        obtain ⟨q, j, c', hc4, hkin⟩ := hcell.out k hkl
        have hmem : l[k] ∈ l := List.getElem_mem hkl
        have hgx : l[k]? = some l[k] := List.getElem?_eq_getElem hkl
        obtain ⟨x, hx⟩ : ∃ x, l[k] = x := ⟨_, rfl⟩
        rw [hx] at hc4 hkin hmem hgx
        obtain ⟨e0, e1, e2, e3⟩ := hc4.on HW.out hG
        have HKIN := Lib.hid hkin
        have HX := Lib.hid hgx
        have HM := Lib.hid hmem
        clear hcell hc4 hkin hx hmem hgx hkl
        obtain ⟨d1, d2⟩ := dep_cap k HM.out HC.out
        have HK := Lib.hid (depL_take HX.out)
        have HB := Lib.hid (cnt_cap k HX.out HC.out)
        obtain ⟨D, hD⟩ : ∃ D, depL (l.take k) = D := ⟨_, rfl⟩
        obtain ⟨E, hE⟩ : ∃ E, dep x = E := ⟨_, rfl⟩
        rw [hD] at d1 HK ⊢
        have HI1 := HI.out x HM.out q j c'
        rw [hE] at d2 HK HI1
        have HI2 := Lib.hid HI1
        clear HI1 hD hE
        go_wp2_with fail
        refine (HI2.out _ (HKIN.out.on (by have HBB := HW.out; (repeat (first | (with_reducible exact Below.refl _ _) | (with_reducible assumption) | (with_reducible apply bl_alloc) | (with_reducible apply bl_drewN) | (with_reducible apply bl_drew) | (with_reducible refine bl_set ?_ (by first | (simp; done) | (simp; omega)) _) | (with_reducible refine bl_call ?_ (by assumption)))))) HB.out.2).mono ?_
        rintro e w2 ⟨rfl, hb2⟩
        have HW2 : Hid (Below w.heap.size w w2) := Lib.hid (by have HBB := HW.out; (repeat (first | (with_reducible exact Below.refl _ _) | (with_reducible assumption) | (with_reducible apply bl_alloc) | (with_reducible apply bl_drewN) | (with_reducible apply bl_drew) | (with_reducible refine bl_set ?_ (by first | (simp; done) | (simp; omega)) _) | (with_reducible refine bl_call ?_ (by assumption)))))
        clear hb2
        by_cases hDE : D < E
        · have m1 : (D : Int) < (E : Int) := by omega
          go_wp2_with fail
          go_roundw
          case rel => exact ⟨k + 1, by omega, by rw [HK.out]; go_num, by go_num, HW2⟩
          case measure => simp [intOf]; omega
        · have m1 : (E : Int) ≤ (D : Int) := by omega
          go_wp2_with fail
          go_roundw
          case rel => exact ⟨k + 1, by omega, by rw [HK.out]; go_num, by go_num, HW2⟩
          case measure => simp [intOf]; omega
      · obtain rfl : m = k := by omega
        have HT : Hid (l.take m = l) := Lib.hid (List.take_of_length_le (by rw [HL.out]; exact Nat.le_refl _))
        have d1 := dep_cap0 HC.out
        rw [HT.out]
        obtain ⟨D, hD⟩ : ∃ D, depL l = D := ⟨_, rfl⟩
        rw [hD] at d1 ⊢
        have HD := Lib.hid hD
        clear hD
        go_wp2_with fail
        go_ret
        exact ⟨by rw [HD.out]; go_num, HW.out⟩
end Go.Proofs.YtonlmnlpofgccaaGreat.Ex
