/-
  The contract of package frac's Sum over a slice whose elements lie below the world's top.
-/
import Derived.Test.YtnfddeoddjmpkabDoorSub
namespace Go.Proofs.YtnfddeoddjmpkabDoor
open Go.RowKit
set_option maxHeartbeats 2000000
def sumR (N D : Nat → Int) : Nat → Nat → Int → Int → Option (Int × Int)
  | 0, _, n, d => some (n, d)
  | m + 1, k, n, d => match addO n d (N k) (D k) with
    | none => none
    | some s => sumR N D m (k + 1) s.1 s.2
theorem cut_range {n : Int} {d : Nat} {s : Int × Int} (h : cut n d = some s) : -4611686018427387904 ≤ s.1 ∧ s.1 ≤ 4611686018427387904 ∧ 0 ≤ s.2 ∧ s.2 ≤ 1000000000000000 := by
  unfold cut at h
  split at h
  · injection h with h; subst h; simp; omega
  · cases h
theorem addO_range {a b c d : Int} {s : Int × Int} (h : addO a b c d = some s) : -4611686018427387904 ≤ s.1 ∧ s.1 ≤ 4611686018427387904 ∧ 0 ≤ s.2 ∧ s.2 ≤ 1000000000000000 :=
  cut_range (both_some h).2.2
/-- Element k of the slice: two cells. -/
def elems (w : World) (b o len : Nat) (N D : Nat → Int) : Prop :=
  b < w.heap.size ∧ ∀ i, i < len → w.cell? ⟨b, o + i * 2, none⟩ = some (.int .i64 (N i)) ∧ w.cell? ⟨b, o + i * 2 + 1, none⟩ = some (.int .i64 (D i)) ∧
    -9223372036854775808 ≤ N i ∧ N i ≤ 9223372036854775807 ∧ -9223372036854775808 ≤ D i ∧ D i ≤ 9223372036854775807
theorem elems.on {w w2 : World} {b o len : Nat} {N D : Nat → Int} (hb : Below w.heap.size w w2) (h : elems w b o len N D) : elems w2 b o len N D :=
  ⟨Nat.lt_of_lt_of_le h.1 hb.size, fun i hi => by
    obtain ⟨h1, h2, h3⟩ := h.2 i hi
    exact ⟨(hb.cell (p := ⟨b, o + i * 2, none⟩) h.1).trans h1, (hb.cell (p := ⟨b, o + i * 2 + 1, none⟩) h.1).trans h2, h3⟩⟩
def R9 (N D : Nat → Int) (len k : Nat) (n d : Int) : Prop := sumR N D (len - k) k n d = match addO n d (N k) (D k) with
  | none => none
  | some s => sumR N D (len - (k + 1)) (k + 1) s.1 s.2
theorem new2 {w : World} {x y : Value} {t : TypeId} {o : Obj} : two ((w.alloc o).alloc (.cells #[x, y] t)) (w.heap.size + 1) x y := by
  have h := two.new (w := w.alloc o) (x := x) (y := y) (t := t)
  rwa [show (w.alloc o).heap.size = w.heap.size + 1 from by simp] at h
theorem sum_some (b o len cap : Nat) (N D : Nat → Int) (hl : len ≤ 9223372036854775807) (w : World) (hE : elems w b o len N D) :
    Calls Tryd.prog 6 #[.slice (some ⟨b, o, none⟩) len cap] w (Gives (.tuple #[.agg #[.int .i64 (oN (sumR N D len 0 0 1)), .int .i64 (oD (sumR N D len 0 0 1))], .bool (oB (sumR N D len 0 0 1))]) w) := by
  go_enter Tryd.func6, Tryd.ntmps6
  go_wp2_with fail
  go_loopw [5, 11] (fun v i wr => ∃ (k : Nat) (n d : Int), k ≤ len ∧ v = .bool true ∧ i = .int .i64 k ∧ two wr (w.heap.size + 1) (.int .i64 n) (.int .i64 d) ∧ two wr w.heap.size (.int .i64 0) (.int .i64 0) ∧
      Below w.heap.size w wr ∧ -9223372036854775808 ≤ n ∧ n ≤ 9223372036854775807 ∧ -9223372036854775808 ≤ d ∧ d ≤ 9223372036854775807 ∧ sumR N D len 0 0 1 = sumR N D (len - k) k n d) (fun _ i _ => len - (intOf i).toNat)
  case atStart => exact ⟨0, 0, 1, Nat.zero_le _, rfl, rfl, new2, two.alloc two.new, by repeat (first | exact Below.refl _ _ | assumption | apply bl_alloc | apply bl_drewN | apply bl_drew | (refine bl_set ?_ (by first | (simp; done) | (simp; omega)) _) | (refine bl_call ?_ (by assumption))), by decide, by decide, by decide, by decide, rfl⟩
  case round =>
    obtain ⟨k, n, d, hk, rfl, rfl, T, R, hb0, n0, n1, d0, d1, hs⟩ := hrel
    have HS := Lib.hid hs
    have HE := Lib.hid (hE.on hb0)
    clear hs
    rcases Nat.lt_or_ge k len with h | h
    · obtain ⟨e1, e2, g0, g1, g2, g3⟩ := HE.out.2 k h
      have hbl := HE.out.1
      have c1 : (0 : Int) ≤ (k : Int) := by omega
      have c2 : (k : Int) < (len : Int) := by omega
      have c3 : (k : Int) ≤ (len : Int) := by omega
      obtain ⟨t0, t1, t2, t3, t4⟩ := T
      obtain ⟨r0, r1, r2, r3, r4⟩ := R
      have T : two _ _ _ _ := ⟨t0, t1, t2, t3, t4⟩
      have R : two _ _ _ _ := ⟨r0, r1, r2, r3, r4⟩
      have wk : IntKind.i64.wrap ((k : Int) + 1) = ((k + 1 : Nat) : Int) := by rw [IntKind.wrap_i64]; omega
      have r9 : R9 N D len k n d := by
        obtain ⟨m, rfl⟩ : ∃ m, len = k + 1 + m := ⟨len - (k + 1), by omega⟩
        unfold R9; rw [show k + 1 + m - k = m + 1 by omega, show k + 1 + m - (k + 1) = m by omega]; rfl
      have R9' := Lib.hid r9
      clear r9
      go_wp2_with fail
      refine (add_any n d (N k) (D k) n0 n1 d0 d1 g0 g1 g2 g3 _).mono ?_
      rintro e w2 ⟨rfl, hb2⟩
      have T2 := two.on hb2 (two.alloc T)
      have R2 := two.on hb2 (two.alloc R)
      obtain ⟨t0, t1, t2, t3, t4⟩ := T2
      obtain ⟨r0, r1, r2, r3, r4⟩ := R2
      have T2 : two _ _ _ _ := ⟨t0, t1, t2, t3, t4⟩
      have R2 : two _ _ _ _ := ⟨r0, r1, r2, r3, r4⟩
      have hne : w.heap.size ≠ w.heap.size + 1 := by omega
      rcases h4 : addO n d (N k) (D k) with - | ⟨x, y⟩
      · have hz : Hid (sumR N D len 0 0 1 = none) := Lib.hid (by rw [HS.out, R9'.out, h4])
        clear h4
        simp only [oN, oD, oB, Option.isSome]
        go_wp2_with fail
        exact bodyPost_ret (v := .tuple #[.agg #[.int .i64 0, .int .i64 0], .bool false]) (by simp [results, Tryd.results6, go_sem, *]) rfl ⟨by rw [hz.out]; rfl, by repeat (first | exact Below.refl _ _ | assumption | apply bl_alloc | apply bl_drewN | apply bl_drew | (refine bl_set ?_ (by first | (simp; done) | (simp; omega)) _) | (refine bl_call ?_ (by assumption)))⟩
      · have hz : Hid (sumR N D len 0 0 1 = sumR N D (len - (k + 1)) (k + 1) x y) := Lib.hid (by rw [HS.out, R9'.out, h4])
        obtain ⟨x0, x1, y0, y1⟩ := addO_range h4
        clear h4
        simp only [oN, oD, oB, Option.isSome]
        go_wp2_with fail
        go_roundw
        case rel =>
          exact ⟨k + 1, x, y, by omega, rfl, rfl, two.set2 T2, two.far R2 hne, by repeat (first | exact Below.refl _ _ | assumption | apply bl_alloc | apply bl_drewN | apply bl_drew | (refine bl_set ?_ (by first | (simp; done) | (simp; omega)) _) | (refine bl_call ?_ (by assumption))), by omega, by omega, by omega, by omega, hz.out⟩
        case measure => simp [intOf]; omega
    · obtain rfl : len = k := by omega
      have hz : Hid (sumR N D len 0 0 1 = some (n, d)) := Lib.hid (by rw [HS.out, Nat.sub_self]; rfl)
      obtain ⟨t0, t1, t2, t3, t4⟩ := T
      obtain ⟨r0, r1, r2, r3, r4⟩ := R
      go_wp2_with fail
      exact bodyPost_ret (v := .tuple #[.agg #[.int .i64 n, .int .i64 d], .bool true]) (by simp [results, Tryd.results6, go_sem, *]) rfl ⟨by rw [hz.out]; rfl, by repeat (first | exact Below.refl _ _ | assumption | apply bl_alloc | apply bl_drewN | apply bl_drew | (refine bl_set ?_ (by first | (simp; done) | (simp; omega)) _) | (refine bl_call ?_ (by assumption)))⟩
theorem sum_none (w : World) : Calls Tryd.prog 6 #[.slice none 0 0] w (Gives (.tuple #[.agg #[.int .i64 0, .int .i64 1], .bool true]) w) := by
  go_enter Tryd.func6, Tryd.ntmps6
  go_wp2_with fail
  go_loopw [5, 11] (fun v i wr => v = .bool true ∧ i = .int .i64 0 ∧ wr = (w.alloc (Obj.cells #[Value.int IntKind.i64 0, Value.int IntKind.i64 0] 24)).alloc (Obj.cells #[Value.int IntKind.i64 0, Value.int IntKind.i64 1] 24)) (fun _ i _ => 0)
  case atStart => exact ⟨rfl, rfl, rfl⟩
  case round =>
    obtain ⟨rfl, rfl, rfl⟩ := hrel
    go_wp2_with fail
    exact bodyPost_ret (v := .tuple #[.agg #[.int .i64 0, .int .i64 1], .bool true]) (by simp [results, Tryd.results6, go_sem, *]) rfl ⟨rfl, by repeat (first | exact Below.refl _ _ | assumption | apply bl_alloc | apply bl_drewN | apply bl_drew | (refine bl_set ?_ (by first | (simp; done) | (simp; omega)) _) | (refine bl_call ?_ (by assumption)))⟩
end Go.Proofs.YtnfddeoddjmpkabDoor
