/-
  Parts of this proof: The contracts of the reference's Count and Depth.
-/
import Derived.Test.YtaaffmbnhjaebaaGreatZMathxa
namespace Go.Proofs.YtaaffmbnhjaebaaGreat.Sm
open Go.RowKit
open Go.Proofs.YtaaffmbnhjaebaaGreat.Ex (Gives bl_call)
set_option maxHeartbeats 2000000
set_option linter.unusedVariables false
theorem zPRCnta_0 {p : Prop} (h : p := by have HBB := HW.out; exact bl) : p := h
set_option maxRecDepth 100000 in
theorem rcount_any (sl : List St) : ∀ (p : Option Addr) (m c : Nat) (w : World), LIn w sl p m → cnL sl ≤ 4000000 → Calls Tryz.prog 161 #[.slice p m c] w (Gives (.int .i64 (cnL sl : Nat)) w) := by
 induction sl using lst_ind with
 | h sl ih =>
  intro p m c w h hc
  have HH := Lib.hid h
  have HI := Lib.hid ih
  obtain ⟨hl, hm⟩ := h.len
  have HL := Lib.hid hl
  have HC := Lib.hid hc
  clear ih h hl hc
  go_enter Tryz.func161, Tryz.ntmps161
  go_wp2_with fail
  go_loopw [3, 4] (fun d i wr => ∃ k : Nat, k ≤ m ∧ d = .int .i64 (cnL (sl.take k) : Nat) ∧ i = .int .i64 (k : Nat) ∧ Hid (Below w.heap.size w wr)) (fun d i _ => m - (intOf i).toNat)
  case atStart => exact ⟨0, Nat.zero_le _, rfl, rfl, Lib.hid bl⟩
  case round =>
   obtain ⟨k, hk, rfl, rfl, HW⟩ := hrel
   have k0 : (0 : Int) ≤ (k : Int) := by omega
   rcases Nat.lt_or_ge k m with h | h
   · have k1 : (k : Int) < (m : Int) := by omega
     obtain ⟨b, o', rfl, -, hG, hcell⟩ := HH.out.rows (by omega)
     have hkl : k < sl.length := by rw [HL.out]; omega
     obtain ⟨P, hc21, hsin⟩ := hcell.out k hkl
     have hmem : sl[k] ∈ sl := List.getElem_mem hkl
     have hgx : sl[k]? = some sl[k] := List.getElem?_eq_getElem hkl
     obtain ⟨x, hx⟩ : ∃ x, sl[k] = x := ⟨_, rfl⟩
     rw [hx] at hc21 hsin hmem hgx
     have HSIN := Lib.hid hsin
     have HX := Lib.hid hgx
     have HM := Lib.hid hmem
     have hbr : b < wr.heap.size := Nat.lt_of_lt_of_le hG HW.out.size
     have FC := Lib.hid (fun W (hb : Below wr.heap.size wr W) => And.intro ((hc21.on (bl_call HW.out hb) hG) 19 _ rfl) ((hc21.on (bl_call HW.out hb) hG) 20 _ rfl))
     have c19 := (FC.out wr (Below.refl _ _)).1
     have c20 := (FC.out wr (Below.refl _ _)).2
     obtain ⟨i1, i2⟩ := HI.out x HM.out
     have hcc := HC.out
     have hq := cnL_take HX.out
     have hq2 := cnL_le sl (k + 1)
     have hq3 := cn_one x
     have F1 := Lib.hid (fun W hi => i1 P.bp P.bm P.bc W hi (by omega))
     have F2 := Lib.hid (fun W hi => i2 P.lp P.lm P.lc W hi (by omega))
     obtain ⟨D, hD⟩ : ∃ D, cnL (sl.take k) = D := ⟨_, rfl⟩
     obtain ⟨A, hA⟩ : ∃ D, cnL x.bo = D := ⟨_, rfl⟩
     obtain ⟨B, hB⟩ : ∃ D, cnL x.el = D := ⟨_, rfl⟩
     rw [hA] at F1
     rw [hB] at F2
     have HR : Hid (cnL (sl.take (k + 1)) = D + 1 + A + B) := Lib.hid (by omega)
     have hdd : D + 1 + A + B ≤ 4000000 := by omega
     rw [hD]
     have e1 : IntKind.i64.wrap ((D : Int) + 1) = (D : Int) + 1 := by rw [IntKind.wrap_i64]; omega
     have e2 : IntKind.i64.wrap ((D : Int) + 1 + (A : Int)) = (D : Int) + 1 + (A : Int) := by rw [IntKind.wrap_i64]; omega
     have e3 : IntKind.i64.wrap ((D : Int) + 1 + (A : Int) + (B : Int)) = (D : Int) + 1 + (A : Int) + (B : Int) := by rw [IntKind.wrap_i64]; omega
     clear hcell hc21 hsin hx hmem hgx hkl i1 i2 hcc hq hq2 hq3 hA hB hD HI
     go_wp2_with fail
     go_region_held3 (fun (w' : World) => w'.cell? ⟨b, o' + k * 21 + 19, none⟩ = some (.slice P.bp P.bm P.bc) ∧ w'.cell? ⟨b, o' + k * 21 + 20, none⟩ = some (.slice P.lp P.lm P.lc)) (first | (refine FC.out _ ?_; exact bl; done) | (go_keep; done)) (first
      | (have t := hb1; go_at_call 161; refine (F2.out _ (HSIN.out.el.on zPRCnta_0)).mono ?_; rintro e w2 ⟨rfl, hb2⟩)
      | (go_at_call 161; refine (F1.out _ (HSIN.out.bo.on zPRCnta_0)).mono ?_; rintro e w1 ⟨rfl, hb1⟩))
     all_goals
      have HW2 : Hid (Below w.heap.size w w2) := Lib.hid zPRCnta_0
      go_wp2_with fail
      go_roundw
      case rel => exact ⟨k + 1, by omega, by rw [HR.out]; first | rfl | (congr 1; omega) | go_num, by go_num, HW2⟩
      case measure => simp [intOf]; omega
   · obtain rfl : m = k := by omega
     have HT : Hid (sl.take m = sl) := Lib.hid (List.take_of_length_le (by rw [HL.out]; exact Nat.le_refl _))
     rw [HT.out]
     have hcc := HC.out
     obtain ⟨D, hD⟩ : ∃ D, cnL sl = D := ⟨_, rfl⟩
     rw [hD] at hcc ⊢
     have HD := Lib.hid hD
     clear hD
     go_wp2_with fail
     go_ret
     exact ⟨by rw [HD.out]; rfl, HW.out⟩
set_option maxRecDepth 100000 in
theorem rdepth_any (sl : List St) : ∀ (p : Option Addr) (m c : Nat) (w : World), LIn w sl p m → cnL sl ≤ 4000000 → Calls Tryz.prog 162 #[.slice p m c] w (Gives (.int .i64 (dpL sl : Nat)) w) := by
 induction sl using lst_ind with
 | h sl ih =>
  intro p m c w h hc
  have HH := Lib.hid h
  have HI := Lib.hid ih
  obtain ⟨hl, hm⟩ := h.len
  have HL := Lib.hid hl
  have HC := Lib.hid hc
  clear ih h hl hc
  go_enter Tryz.func162, Tryz.ntmps162
  go_wp2_with fail
  go_loopw [3, 4] (fun d i wr => ∃ k : Nat, k ≤ m ∧ d = .int .i64 (dpL (sl.take k) : Nat) ∧ i = .int .i64 (k : Nat) ∧ Hid (Below w.heap.size w wr)) (fun d i _ => m - (intOf i).toNat)
  case atStart => exact ⟨0, Nat.zero_le _, rfl, rfl, Lib.hid bl⟩
  case round =>
   obtain ⟨k, hk, rfl, rfl, HW⟩ := hrel
   have k0 : (0 : Int) ≤ (k : Int) := by omega
   rcases Nat.lt_or_ge k m with h | h
   · have k1 : (k : Int) < (m : Int) := by omega
     obtain ⟨b, o', rfl, -, hG, hcell⟩ := HH.out.rows (by omega)
     have hkl : k < sl.length := by rw [HL.out]; omega
     obtain ⟨P, hc21, hsin⟩ := hcell.out k hkl
     have hmem : sl[k] ∈ sl := List.getElem_mem hkl
     have hgx : sl[k]? = some sl[k] := List.getElem?_eq_getElem hkl
     obtain ⟨x, hx⟩ : ∃ x, sl[k] = x := ⟨_, rfl⟩
     rw [hx] at hc21 hsin hmem hgx
     have HSIN := Lib.hid hsin
     have HX := Lib.hid hgx
     have HM := Lib.hid hmem
     have hbr : b < wr.heap.size := Nat.lt_of_lt_of_le hG HW.out.size
     have FC := Lib.hid (fun W (hb : Below wr.heap.size wr W) => And.intro ((hc21.on (bl_call HW.out hb) hG) 19 _ rfl) ((hc21.on (bl_call HW.out hb) hG) 20 _ rfl))
     have c19 := (FC.out wr (Below.refl _ _)).1
     have c20 := (FC.out wr (Below.refl _ _)).2
     obtain ⟨i1, i2⟩ := HI.out x HM.out
     have hcc := HC.out
     have hq := dpL_take HX.out
     have hq3 := dp_one x
     have hz1 := cnL_take HX.out
     have hz2 := cnL_le sl (k + 1)
     have hz3 := cn_one x
     have hz4 := dpL_le_cnL x.bo
     have hz5 := dpL_le_cnL x.el
     have hz6 := dpL_le_cnL (sl.take k)
     have F1 := Lib.hid (fun W hi => i1 P.bp P.bm P.bc W hi (by omega))
     have F2 := Lib.hid (fun W hi => i2 P.lp P.lm P.lc W hi (by omega))
     obtain ⟨D, hD⟩ : ∃ D, dpL (sl.take k) = D := ⟨_, rfl⟩
     obtain ⟨A, hA⟩ : ∃ D, dpL x.bo = D := ⟨_, rfl⟩
     obtain ⟨B, hB⟩ : ∃ D, dpL x.el = D := ⟨_, rfl⟩
     rw [hA] at F1
     rw [hB] at F2
     have HR0 : dpL (sl.take (k + 1)) = max D (max (1 + A) (1 + B)) := by rw [hq, hq3, hD, hA, hB]; omega
     have hdd : D ≤ 4000000 ∧ A ≤ 4000000 ∧ B ≤ 4000000 := by omega
     obtain ⟨M, hM⟩ : ∃ M, max D (max (1 + A) (1 + B)) = M := ⟨_, rfl⟩
     rw [hM] at HR0
     have HR := Lib.hid HR0
     rw [hD]
     have e1 : IntKind.i64.wrap (1 + (A : Int)) = 1 + (A : Int) := by rw [IntKind.wrap_i64]; omega
     have e2 : IntKind.i64.wrap (1 + (B : Int)) = 1 + (B : Int) := by rw [IntKind.wrap_i64]; omega
     have hmx : ∀ (ts : Array TypeId) (t : TypeId) (W : World), (Builtin.max_ ts t #[.int .i64 (D : Int), .int .i64 (1 + (A : Int)), .int .i64 (1 + (B : Int))]).run Tryz.prog W = .ok (.int .i64 (M : Int)) W := fun ts t W => by
      rw [run_max_int3]
      congr 2
      rw [← hM]
      split <;> split at * <;> omega
     clear hcell hc21 hsin hx hmem hgx hkl i1 i2 hcc hq hq3 hz1 hz2 hz3 hz4 hz5 hz6 hA hB hD HI HR0 hM
     go_wp2_with fail
     go_region_held3 (fun (w' : World) => w'.cell? ⟨b, o' + k * 21 + 19, none⟩ = some (.slice P.bp P.bm P.bc) ∧ w'.cell? ⟨b, o' + k * 21 + 20, none⟩ = some (.slice P.lp P.lm P.lc)) (first | (refine FC.out _ ?_; exact bl; done) | (go_keep; done)) (first
      | (have t := hb2; rw [if_pos (by rfl)]; fail)
      | (have t := hb1; go_at_call 162; refine (F2.out _ (HSIN.out.el.on zPRCnta_0)).mono ?_; rintro e w2 ⟨rfl, hb2⟩)
      | (go_at_call 162; refine (F1.out _ (HSIN.out.bo.on zPRCnta_0)).mono ?_; rintro e w1 ⟨rfl, hb1⟩))
     all_goals
      have HW2 : Hid (Below w.heap.size w w2) := Lib.hid zPRCnta_0
      go_wp2_with fail
      go_roundw
      case rel => exact ⟨k + 1, by omega, by rw [HR.out], by go_num, HW2⟩
      case measure => simp [intOf]; omega
   · obtain rfl : m = k := by omega
     have HT : Hid (sl.take m = sl) := Lib.hid (List.take_of_length_le (by rw [HL.out]; exact Nat.le_refl _))
     rw [HT.out]
     obtain ⟨D, hD⟩ : ∃ D, dpL sl = D := ⟨_, rfl⟩
     rw [hD]
     have HD := Lib.hid hD
     clear hD
     go_wp2_with fail
     go_ret
     exact ⟨by rw [HD.out]; rfl, HW.out⟩
end Go.Proofs.YtaaffmbnhjaebaaGreat.Sm
