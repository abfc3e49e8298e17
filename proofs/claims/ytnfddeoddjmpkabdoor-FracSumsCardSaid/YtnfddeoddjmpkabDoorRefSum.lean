/-
  The contract of the reference's Sum over a slice whose elements lie below the world's top.
-/
import Derived.Test.YtnfddeoddjmpkabDoorRefOps
import Derived.StillTailTactics
namespace Go.Proofs.YtnfddeoddjmpkabDoor
open Go.RowKit
set_option maxHeartbeats 4000000
theorem region_still_tail {P : Program} {id : Nat} {Q : Exit → Act → World → Prop} {a : Act} {w : World} {l : List Oper} (n : Nat) (hm : P.follows .mixedOrders = true) (hB : Region.lexTailB .any l.toArray n = true)
    (h : wpStill P l.toArray w.drew (fun a' => wpList P l.toArray Q (l.drop n) a' w.drew) (l.take n) a) : (Code.region id l.toArray true).wp P Q a w := wp_region_still_tail n hm hB h
set_option maxRecDepth 100000 in
theorem rsum_some (b o len cap : Nat) (N D : Nat → Int) (hl : len ≤ 9223372036854775807) (w : World) (hE : elems w b o len N D) :
    Calls Tryd.prog 7 #[.slice (some ⟨b, o, none⟩) len cap] w (Gives (.tuple #[.agg #[.int .i64 (oN (sumR N D len 0 0 1)), .int .i64 (oD (sumR N D len 0 0 1))], .bool (oB (sumR N D len 0 0 1))]) w) := by
  go_enter Tryd.func7, Tryd.ntmps7
  go_wp2_with fail
  go_loopw [5, 6] (fun v i wr => ∃ (k : Nat) (n d : Int), k ≤ len ∧ v = .bool true ∧ i = .int .i64 k ∧ two wr (w.heap.size + 1) (.int .i64 n) (.int .i64 d) ∧ two wr w.heap.size (.int .i64 0) (.int .i64 0) ∧
      Below w.heap.size w wr ∧ -9223372036854775808 ≤ n ∧ n ≤ 9223372036854775807 ∧ -9223372036854775808 ≤ d ∧ d ≤ 9223372036854775807 ∧ sumR N D len 0 0 1 = sumR N D (len - k) k n d) (fun _ i _ => len - (intOf i).toNat)
  case atStart => exact ⟨0, 0, 1, Nat.zero_le _, rfl, rfl, new2, two.alloc two.new, by repeat (first | exact Below.refl _ _ | assumption | apply bl_alloc | apply bl_drewN | apply bl_drew | (refine bl_set ?_ (by first | (simp; done) | (simp; omega)) _) | (refine bl_call ?_ (by assumption))), by decide, by decide, by decide, by decide, rfl⟩
  case round =>
    obtain ⟨k, n, d, hk, rfl, rfl, T, R, hb0, n0, n1, d0, d1, hs⟩ := hrel
    have HS := Lib.hid hs
    have HE := Lib.hid (hE.on hb0)
    clear hs
    rcases Nat.lt_or_ge k len with h | h
    · obtain ⟨e1, e2, g0, g1, g2, g3⟩ := HE.out.2 k h
      have hbl := HE.out.1
      have c1 : (0 : Int) ≤ (k : Int) := by omega
      have c2 : (k : Int) < (len : Int) := by omega
      obtain ⟨t0, t1, t2, t3, t4⟩ := T
      obtain ⟨r0, r1, r2, r3, r4⟩ := R
      have T : two _ _ _ _ := ⟨t0, t1, t2, t3, t4⟩
      have R : two _ _ _ _ := ⟨r0, r1, r2, r3, r4⟩
      have wk : IntKind.i64.wrap ((k : Int) + 1) = ((k + 1 : Nat) : Int) := by rw [IntKind.wrap_i64]; omega
      have r9 : R9 N D len k n d := by
        obtain ⟨m, rfl⟩ : ∃ m, len = k + 1 + m := ⟨len - (k + 1), by omega⟩
        unfold R9; rw [show k + 1 + m - k = m + 1 by omega, show k + 1 + m - (k + 1) = m by omega]; rfl
      have R9' := Lib.hid r9
      have HB := Lib.hid (And.intro n0 (And.intro n1 (And.intro d0 (And.intro d1 (And.intro g0 (And.intro g1 (And.intro g2 g3)))))))
      clear r9 n0 n1 d0 d1 g0 g1 g2 g3 hbl hl
      go_wp2_with fail
      have hbne : b ≠ w.heap.size + 1 := by have := hE.1; omega
      have HEd : wr.drew.cell? ⟨b, o + k * 2, none⟩ = some (.int .i64 (N k)) ∧ wr.drew.cell? ⟨b, o + k * 2 + 1, none⟩ = some (.int .i64 (D k)) := ⟨e1, e2⟩
      have Td : two wr.drew (w.heap.size + 1) (.int .i64 n) (.int .i64 d) := T
      have Rd : two wr.drew w.heap.size (.int .i64 0) (.int .i64 0) := R
      go_region_with ((go_at_call 20; refine (radd_any n d (N k) (D k) HB.out.1 HB.out.2.1 HB.out.2.2.1 HB.out.2.2.2.1 HB.out.2.2.2.2.1 HB.out.2.2.2.2.2.1 HB.out.2.2.2.2.2.2.1 HB.out.2.2.2.2.2.2.2 _).mono ?_; rintro e w2 ⟨rfl, hb2⟩; have T2 := two.on hb2 Td; have R2 := two.on hb2 Rd; obtain ⟨t0', t1', t2', t3', t4'⟩ := T2; have T2 : two _ _ _ _ := ⟨t0', t1', t2', t3', t4'⟩))
      all_goals
        obtain ⟨r0', r1', r2', r3', r4'⟩ := R2
        have R2 : two _ _ _ _ := ⟨r0', r1', r2', r3', r4'⟩
        have hne : w.heap.size ≠ w.heap.size + 1 := by omega
        rcases h4 : addO n d (N k) (D k) with - | ⟨x, y⟩
        · have hz : Hid (sumR N D len 0 0 1 = none) := Lib.hid (by rw [HS.out, R9'.out, h4])
          clear h4
          simp only [oN, oD, oB, Option.isSome]
          go_wp2_with fail
          exact bodyPost_ret (v := .tuple #[.agg #[.int .i64 0, .int .i64 0], .bool false]) (by simp [results, Tryd.results7, go_sem, *]) rfl ⟨by rw [hz.out]; rfl, by repeat (first | exact Below.refl _ _ | assumption | apply bl_alloc | apply bl_drewN | apply bl_drew | (refine bl_set ?_ (by first | (simp; done) | (simp; omega)) _) | (refine bl_call ?_ (by assumption)))⟩
        · have hz : Hid (sumR N D len 0 0 1 = sumR N D (len - (k + 1)) (k + 1) x y) := Lib.hid (by rw [HS.out, R9'.out, h4])
          obtain ⟨x0, x1, y0, y1⟩ := addO_range h4
          clear h4
          simp only [oN, oD, oB, Option.isSome]
          go_wp2_with fail
          go_roundw
          case rel =>
            exact ⟨k + 1, x, y, by omega, rfl, rfl, two.set2 T2, two.far R2 hne, by repeat (first | exact Below.refl _ _ | assumption | apply bl_alloc | apply bl_drewN | apply bl_drew | (refine bl_set ?_ (by first | (simp; done) | (simp; omega)) _) | (refine bl_call ?_ (by assumption))), by omega, by omega, by omega, by omega, hz.out⟩
          case measure => simp [intOf]; omega
    · obtain rfl : len = k := by omega
      have hz : Hid (sumR N D len 0 0 1 = some (n, d)) := Lib.hid (by rw [HS.out, Nat.sub_self]; rfl)
      obtain ⟨t0, t1, t2, t3, t4⟩ := T
      obtain ⟨r0, r1, r2, r3, r4⟩ := R
      go_wp2_with fail
      exact bodyPost_ret (v := .tuple #[.agg #[.int .i64 n, .int .i64 d], .bool true]) (by simp [results, Tryd.results7, go_sem, *]) rfl ⟨by rw [hz.out]; rfl, by repeat (first | exact Below.refl _ _ | assumption | apply bl_alloc | apply bl_drewN | apply bl_drew | (refine bl_set ?_ (by first | (simp; done) | (simp; omega)) _) | (refine bl_call ?_ (by assumption)))⟩
end Go.Proofs.YtnfddeoddjmpkabDoor
