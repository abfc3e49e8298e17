/-
  The reference's tabled, walked.
-/
import Derived.Test.YteapicfobammjaaDoorDRefTab
namespace Go.Proofs.YteapicfobammjaaDoor.Di
open Go.RowKit
open St (hiN hiN_lt)
set_option maxHeartbeats 8000000
theorem rtab_walk (x0 a b n : Int) (b1 o1 c b2 o2 f m u SN KN : Nat) (V W : Nat → Int) (w : World) (Z : Array Value) (hb : b1 < w.heap.size) (hb2 : b2 < w.heap.size) (n1 : 1 ≤ m) (n20 : m ≤ 20) (k1 : KN ≤ 20000)
    (hv : Hid (∀ i, i < m → w.cell? ⟨b1, o1 + i, none⟩ = some (.int .i64 (V i)))) (hw : Hid (∀ i, i < m → w.cell? ⟨b2, o2 + i, none⟩ = some (.int .i64 (W i))))
    (hW : Hid (∀ i, i < m → 1 ≤ W i ∧ W i ≤ 1000)) (hK : Hid ((KN : Int) < sumT W m)) (wS : IntKind.u64.wrap (SN : Int) = (SN : Int)) (wK : IntKind.i64.wrap (KN : Int) = (KN : Int))
    (hmk : ∀ w : World, (Instr.makeSlice 109 (.int .i64 m) (.int .i64 m)).run Tryd.prog w = .ok (.slice (some ⟨w.heap.size, 0, none⟩) m m) (w.alloc (.cells Z 4)))
    (FS : Hid (Marks w m (.slice (some ⟨b1, o1, none⟩) m c) (.slice (some ⟨b2, o2, none⟩) m f) (fun _ => false) ((w.alloc (.cells #[.int .i64 x0, .int .i64 a, .int .i64 b, .int .i64 n, .slice (some ⟨b1, o1, none⟩) m c, .slice (some ⟨b2, o2, none⟩) m f] 36)).alloc (.cells Z 4))))
    (SUM : Hid (∀ wr, Below w.heap.size w wr → Calls Tryd.prog 60 #[.slice (some ⟨b2, o2, none⟩) m f] wr fun e w' => e = .returned (.int .i64 (SN : Int)) ∧ wr = w'))
    (UPP : Hid (∀ wr, Calls Tryd.prog 100 #[.int .u64 u, .int .u64 SN] wr fun e w' => e = .returned (.int .u64 (KN : Int)) ∧ wr = w')) :
    Calls Tryd.prog 74 #[.agg #[.int .i64 x0, .int .i64 a, .int .i64 b, .int .i64 n, .slice (some ⟨b1, o1, none⟩) m c, .slice (some ⟨b2, o2, none⟩) m f], .int .u64 u] w (Gives (.int .i64 (tabV V W m (KN : Int))) w) := by
  go_enter Tryd.func74, Tryd.ntmps74
  go_wp2_with fail
  refine (SUM.out _ (by (repeat (first | (with_reducible exact Below.refl _ _) | (with_reducible assumption) | (with_reducible apply bl_alloc) | (with_reducible apply bl_drewN) | (with_reducible apply bl_drew) | (with_reducible refine bl_set ?_ (by first | (simp; done) | (simp; omega)) _) | (with_reducible refine bl_call ?_ (by assumption)))))).mono ?_
  rintro e w1 ⟨rfl, rfl⟩
  go_wp2_with fail
  refine (UPP.out _).mono ?_
  rintro e w1 ⟨rfl, rfl⟩
  go_wp2_with fail
  clear hmk
  go_loopw [5, 7, 8] (fun x y z wr => ∃ (r : Nat) (U : Nat → Bool) (kk bb : Int), r ≤ m ∧ x = .int .i64 kk ∧ y = .int .i64 bb ∧ z = .int .i64 r ∧ 0 ≤ kk ∧ kk ≤ 20000 ∧ Hid (kk = (KN : Int) - sumIf U W m) ∧ Hid (sumIf U one m = (r : Int)) ∧ Hid (Lower U V m) ∧ Hid (Marks w m (.slice (some ⟨b1, o1, none⟩) m c) (.slice (some ⟨b2, o2, none⟩) m f) U wr)) (fun _ _ z _ => m - (intOf z).toNat)
  case atStart => exact ⟨0, _, _, 0, Nat.zero_le _, rfl, rfl, rfl, by omega, by omega, Lib.hid (by rw [sumIf_none (fun _ _ => rfl)]; omega), Lib.hid (by rw [sumIf_none (fun _ _ => rfl)]; rfl), Lib.hid (fun _ _ _ _ h => by cases h), FS⟩
  case round =>
    obtain ⟨r, U, kk, bb, hr, rfl, rfl, rfl, q0, q1, HK, HC, HL, HM⟩ := hrel
    rcases Nat.lt_or_ge r m with h | h
    · have m4 := HM.out.2.1
      have m5 := HM.out.2.2.1
      have c1 : (0 : Int) ≤ (r : Int) := by omega
      have c2 : (r : Int) < (m : Int) := by omega
      go_wp2_with fail
      obtain ⟨wo, ewo⟩ : ∃ wo : World, wo = wr := ⟨_, rfl⟩
      subst ewo
      go_loopw [7, 9] (fun y z w2 => ∃ (i t : Nat) (bb : Int), i ≤ m ∧ y = .int .i64 bb ∧ z = .int .i64 i ∧ w2 = wo.drewN t ∧ Hid (Best U V i bb)) (fun _ z _ => m - (intOf z).toNat)
      case atStart => exact ⟨0, 0, -1, Nat.zero_le _, rfl, rfl, rfl, Lib.hid (.inl ⟨rfl, fun _ h => by omega⟩)⟩
      case round =>
        obtain ⟨i, t, bb, hi, rfl, rfl, rfl, HB⟩ := hrel
        rcases Nat.lt_or_ge i m with g | g
        · obtain ⟨mu, -⟩ := HM.out.1 i g
          have e1 := (HM.out.2.2.2.1.cell (p := ⟨b1, o1 + i, none⟩) hb).trans (hv.out i g)
          have d1 : (0 : Int) ≤ (i : Int) := by omega
          have d2 : (i : Int) < (m : Int) := by omega
          cases hu : U i
          · rw [hu] at mu
            have HU := Lib.hid hu
            rcases HB.out with ⟨e, hall⟩ | ⟨y, e, hy, hy2, hy3⟩
            · subst e
              have NB := Lib.hid (best_first (V := V) hall hu)
              clear hu hall
              go_wp2_with fail
              go_quiet (fail)
              go_wp2_with fail
              go_roundw
              case rel => exact ⟨i + 1, _, _, by omega, rfl, by go_num, (by first | rfl | exact World.drewN_drewN _ _ _), NB⟩
              case measure => simp [intOf]; omega
            · subst e
              have e2 := (HM.out.2.2.2.1.cell (p := ⟨b1, o1 + y, none⟩) hb).trans (hv.out y (by omega))
              have d3 : decide ((y : Int) < 0) = false := decide_eq_false (by omega)
              have d4 : (0 : Int) ≤ (y : Int) := by omega
              have d5 : (y : Int) < (m : Int) := by omega
              by_cases hl : V i < V y
              · have NB := Lib.hid (best_turn hy3 hu hl)
                have d6 : decide (V i < V y) = true := decide_eq_true hl
                clear hu hy2 hy3 hl
                go_wp2_with fail
                go_quiet (fail)
                go_wp2_with fail
                go_roundw
                case rel => exact ⟨i + 1, _, _, by omega, rfl, by go_num, (by first | rfl | exact World.drewN_drewN _ _ _), NB⟩
                case measure => simp [intOf]; omega
              · have NB := Lib.hid (best_stay hy hy2 hy3 hl)
                have d6 : decide (V i < V y) = false := decide_eq_false hl
                clear hu hy2 hy3 hl
                go_wp2_with fail
                go_quiet (fail)
                go_wp2_with fail
                go_roundw
                case rel => exact ⟨i + 1, _, _, by omega, rfl, by go_num, (by first | rfl | exact World.drewN_drewN _ _ _), NB⟩
                case measure => simp [intOf]; omega
          · rw [hu] at mu
            have NB := Lib.hid (best_skip HB.out hu)
            clear hu
            go_wp2_with fail
            go_quiet (fail)
            go_wp2_with fail
            go_roundw
            case rel => exact ⟨i + 1, _, _, by omega, rfl, by go_num, (by first | rfl | exact World.drewN_drewN _ _ _), NB⟩
            case measure => simp [intOf]; omega
        · obtain rfl : m = i := by omega
          rcases HB.out with ⟨e, hall⟩ | ⟨y, e, hy, hy2, hy3⟩
          · exfalso
            have h1 := sumIf_all (W := W) hall
            have h2 := HK.out
            have h3 := hK.out
            rw [h1] at h2
            omega
          · subst e
            obtain ⟨mu, mf⟩ := HM.out.1 y hy
            have e1 := (HM.out.2.2.2.1.cell (p := ⟨b1, o1 + y, none⟩) hb).trans (hv.out y hy)
            have e2 := (HM.out.2.2.2.1.cell (p := ⟨b2, o2 + y, none⟩) hb2).trans (hw.out y hy)
            have hlow := Lib.hid (lower_step HL.out hy hy2 hy3)
            have hadd := sumIf_add (U := U) (U' := put U y) (W := W) hy hy2 (fun _ _ => rfl)
            have hone := sumIf_add (U := U) (U' := put U y) (W := one) hy hy2 (fun _ _ => rfl)
            have hval := fun h1 h2 => take_value (W := W) (K := (KN : Int)) (fun i hi => by have := hW.out i hi; omega) hy hy2 hy3 HL.out h1 h2
            obtain ⟨g0, g1⟩ := hW.out y hy
            have hk := HK.out
            have hc := HC.out
            have d3 : (0 : Int) ≤ (y : Int) := by omega
            have d4 : (y : Int) < (m : Int) := by omega
            have mst := Lib.hid (marks_step (marks_draw HM.out t) hy)
            have hB : Below w.heap.size w (wo.drewN t) := bl_drewN HM.out.2.2.2.1
            have ne1 : b1 ≠ w.heap.size + 1 := by omega
            have ne2 : b2 ≠ w.heap.size + 1 := by omega
            obtain ⟨z, ez⟩ : ∃ z, W y = z := ⟨_, rfl⟩
            rw [ez] at e2 hadd hval g0 g1
            have mu' : (wo.drewN t).cell? ⟨w.heap.size + 1, y, none⟩ = some (.bool (U y)) := mu
            rw [hy2] at mu mu'
            have n4 := mst.out.2.1
            have n5 := mst.out.2.2.1
            have f1 : ((wo.drewN t).setCell ⟨w.heap.size + 1, y, none⟩ (.bool true)).cell? ⟨b1, o1 + y, none⟩ = some (.int .i64 (V y)) := by
              rw [World.cell?_setCell_other _ _ _ _ (fun e2 => by injection e2 with e3 _; omega)]; exact e1
            have f2 : ((wo.drewN t).setCell ⟨w.heap.size + 1, y, none⟩ (.bool true)).cell? ⟨b2, o2 + y, none⟩ = some (.int .i64 z) := by
              rw [World.cell?_setCell_other _ _ _ _ (fun e2 => by injection e2 with e3 _; omega)]; exact e2
            rcases Int.lt_or_le kk z with hlt | hle
            · have HV : Hid (tabV V W m (KN : Int) = V y) := Lib.hid (hval (by omega) (by omega))
              clear hadd hone hval hk hc ez hy2 hy3
              have d6 : decide (kk - z < 0) = true := decide_eq_true (by omega)
              go_wp2_with fail
              go_ret
              exact ⟨ret_int HV.out.symm, by (repeat (first | (with_reducible exact Below.refl _ _) | (with_reducible assumption) | (with_reducible apply bl_alloc) | (with_reducible apply bl_drewN) | (with_reducible apply bl_drew) | (with_reducible refine bl_set ?_ (by first | (simp; done) | (simp; omega)) _) | (with_reducible refine bl_call ?_ (by assumption))))⟩
            · have HK2 : Hid (kk - z = (KN : Int) - sumIf (put U y) W m) := Lib.hid (by rw [hadd]; omega)
              have HC2 : Hid (sumIf (put U y) one m = ((r + 1 : Nat) : Int)) := Lib.hid (by rw [hone, hc]; show (r : Int) + 1 = _; omega)
              clear hadd hone hval hk hc ez hy2 hy3
              have d6 : decide (kk - z < 0) = false := decide_eq_false (by omega)
              go_wp2_with fail
              go_roundw
              case rel => exact ⟨r + 1, put U y, kk - z, _, by omega, rfl, rfl, by go_num, by omega, by omega, HK2, HC2, hlow, mst⟩
              case measure => simp [intOf]; omega
    · exfalso
      obtain rfl : m = r := by omega
      have h1 := sumIf_all (W := W) (fun i hi => all_used HC.out hi)
      have h2 := HK.out
      have h3 := hK.out
      rw [h1] at h2
      omega
end Go.Proofs.YteapicfobammjaaDoor.Di
