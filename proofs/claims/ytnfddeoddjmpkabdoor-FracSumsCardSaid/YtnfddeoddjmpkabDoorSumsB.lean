/-
  What the law of sums rests on besides the two contracts: a sum with one more element, rows of fractions that an append makes, and the contracts over no elements.
-/
import Derived.Test.YtnfddeoddjmpkabDoorSum
import Derived.Test.YtnfddeoddjmpkabDoorRefSum
import Derived.Maps.AppendAt
import Derived.Laws.OwnMore
import Derived.OwnWalk
import Derived.Lib.AppendZeros
namespace Go.Proofs.YtnfddeoddjmpkabDoor
open Go.RowKit
set_option maxHeartbeats 2000000
theorem sumR_snoc (N D : Nat → Int) : ∀ (m k : Nat) (n d : Int), sumR N D (m + 1) k n d = match sumR N D m k n d with
    | none => none
    | some s => addO s.1 s.2 (N (k + m)) (D (k + m))
  | 0, k, n, d => by
    simp only [sumR, Nat.add_zero]
    cases addO n d (N k) (D k) <;> rfl
  | m + 1, k, n, d => by
    rw [sumR]
    conv => rhs; rw [sumR]
    cases h : addO n d (N k) (D k) with
    | none => rfl
    | some s =>
      simp only []
      rw [sumR_snoc N D m (k + 1) s.1 s.2, show k + 1 + m = k + (m + 1) by omega]
theorem sumR_congr {N D N2 D2 : Nat → Int} : ∀ (m k : Nat) (n d : Int), (∀ i, k ≤ i → i < k + m → N i = N2 i ∧ D i = D2 i) → sumR N D m k n d = sumR N2 D2 m k n d
  | 0, _, _, _, _ => rfl
  | m + 1, k, n, d, h => by
    rw [sumR, sumR, (h k (by omega) (by omega)).1, (h k (by omega) (by omega)).2]
    cases addO n d (N2 k) (D2 k) with
    | none => rfl
    | some s => exact sumR_congr m (k + 1) s.1 s.2 fun i h1 h2 => h i (by omega) (by omega)
def glueI (N : Nat → Int) (n : Nat) (M : Nat → Int) : Nat → Int := fun i => if i < n then N i else M (i - n)
theorem addO_bad (c d : Int) : addO 0 0 c d = none := by
  unfold addO both
  rw [show okF 0 0 = false by rfl]
  rfl
/-- A sum with one more element: what Add makes of the sum and the element; a sum that fails leaves {0, 0}, which Add refuses. -/
theorem sumR_more (N D : Nat → Int) (n : Nat) (a c : Int) : sumR (glueI N n fun _ => a) (glueI D n fun _ => c) (n + 1) 0 0 1 = addO (oN (sumR N D n 0 0 1)) (oD (sumR N D n 0 0 1)) a c := by
  rw [sumR_snoc, sumR_congr (N2 := N) (D2 := D) n 0 0 1 (fun i _ h => by unfold glueI; rw [if_pos (by omega), if_pos (by omega)]; exact ⟨rfl, rfl⟩)]
  have e1 : glueI N n (fun _ => a) (0 + n) = a := by unfold glueI; rw [if_neg (by omega)]
  have e2 : glueI D n (fun _ => c) (0 + n) = c := by unfold glueI; rw [if_neg (by omega)]
  rw [e1, e2]
  cases sumR N D n 0 0 1 with
  | none => exact (addO_bad a c).symm
  | some s => rfl
def fl (N D : Nat → Int) (n : Nat) : List Value := (List.range (n * 2)).map fun j => .int .i64 (if j % 2 = 0 then N (j / 2) else D (j / 2))
theorem fl_len {N D : Nat → Int} {n : Nat} : (fl N D n).length = n * 2 := by simp [fl]
theorem fl_get {N D : Nat → Int} {n j : Nat} (h : j < n * 2) : (fl N D n)[j]? = some (.int .i64 (if j % 2 = 0 then N (j / 2) else D (j / 2))) := by simp [fl, h]
theorem fl_one {N D : Nat → Int} {n : Nat} : ∀ u ∈ fl N D n, u.oneCell' = true := by
  intro u hu; simp only [fl, List.mem_map] at hu; obtain ⟨i, -, rfl⟩ := hu; rfl
theorem fl_glue {N D M E : Nat → Int} {n m : Nat} : fl N D n ++ fl M E m = fl (glueI N n M) (glueI D n E) (n + m) := by
  apply List.ext_getElem?
  intro j
  rcases Nat.lt_or_ge j (n * 2) with h | h
  · rw [List.getElem?_append_left (by rw [fl_len]; exact h), fl_get h, fl_get (by omega)]
    have h1 : j / 2 < n := by omega
    simp only [glueI, h1, if_true]
  · rw [List.getElem?_append_right (by rw [fl_len]; exact h), fl_len]
    rcases Nat.lt_or_ge j ((n + m) * 2) with h2 | h2
    · have h1 : ¬ j / 2 < n := by omega
      rw [fl_get (by omega), fl_get h2, show (j - n * 2) / 2 = j / 2 - n by omega, show (j - n * 2) % 2 = j % 2 by omega]
      simp only [glueI, h1, if_false]
    · rw [List.getElem?_eq_none (by rw [fl_len]; omega), List.getElem?_eq_none (by rw [fl_len]; exact h2)]
theorem fr_parts {o : Option TypeInfo} {z : Value} {s b : Nat} (h : o.map (fun i => (i.zero, i.size, i.bytes)) = some (some z, s, b)) : ∃ i, o = some i ∧ i.zero = some z ∧ i.size = s ∧ i.bytes = b := by
  cases o with
  | none => cases h
  | some i => simp only [Option.map_some, Option.some.injEq, Prod.mk.injEq] at h; exact ⟨i, rfl, h.1, h.2.1, h.2.2⟩
theorem fr_info : (Tryd.prog.info? 24).map (fun i => (i.zero, i.size, i.bytes)) = some (some (.agg #[.int .i64 0, .int .i64 0]), 2, 16) := by kernel_rfl
/-- Where the elements of an argument of append lie. -/
def Src (w : World) (p : Option Addr) (m : Nat) (N D : Nat → Int) : Prop := (p = none ∧ m = 0) ∨ ∃ b o, p = some ⟨b, o, none⟩ ∧ elems w b o m N D
theorem Src.on {w w2 : World} {p : Option Addr} {m : Nat} {N D : Nat → Int} (hb : Below w.heap.size w w2) (h : Src w p m N D) : Src w2 p m N D := by
  rcases h with h | ⟨b, o, h, he⟩
  · exact .inl h
  · exact .inr ⟨b, o, h, he.on hb⟩
theorem append_fr {lo : Nat} {w : World} {v : Value} {n : Nat} {N D : Nat → Int} (hown : w.ownsRow lo 24 2 v n (fl N D n)) {p : Option Addr} {m c : Nat} {M E : Nat → Int} (hF : Src w p m M E) (hb : n + m ≤ 20000) (hlo : lo ≤ w.heap.size) :
    ∃ v' w', (Builtin.append_ #[22, 22] 22 #[v, .slice p m c]).run Tryd.prog w = .ok v' w' ∧ w'.ownsRow lo 24 2 v' (n + m) (fl (glueI N n M) (glueI D n E) (n + m)) ∧ w.grownBy w' v.ownBlock ∧ (v'.ownBlock = v.ownBlock ∨ v'.ownBlock = some w.heap.size) := by
  obtain ⟨i0, hi0, hz0, hz1, hz2⟩ := fr_parts fr_info
  rcases hF with ⟨rfl, rfl⟩ | ⟨b, o, rfl, he⟩
  · have hrun : (Builtin.append_ #[22, 22] 22 #[v, .slice none 0 c]).run Tryd.prog w = .ok v w := by
      rcases hown.2 with ⟨rfl, rfl⟩ | ⟨g, cap, cur, rfl, -, -, hnc, -⟩
      · simp [Builtin.append_, run_underlying Tryd.underlying22, sizeOf, typeInfo, hi0, Builtin.lenOf, Builtin.firstCells]
      · simp [Builtin.append_, run_underlying Tryd.underlying22, sizeOf, typeInfo, hi0, Builtin.lenOf, Builtin.firstCells, hnc, storeCells]
    refine ⟨v, w, hrun, ?_, ⟨rfl, rfl, rfl, Nat.le_refl _, fun _ _ _ => rfl⟩, .inl rfl⟩
    have e := fl_glue (N := N) (D := D) (M := M) (E := E) (n := n) (m := 0)
    rw [show fl M E 0 = [] by rfl, List.append_nil] at e
    rw [← e]
    exact hown
  · have hnews : ∀ j u, (fl M E m)[j]? = some u → w.cell? ((⟨b, o, none⟩ : Addr).add j) = some u := by
      intro j u hu
      have hj : j < m * 2 := by
        have := (List.getElem?_eq_some_iff.1 hu).1
        rwa [fl_len] at this
      rw [fl_get hj] at hu
      cases hu
      obtain ⟨h1, h2, -⟩ := he.2 (j / 2) (by omega)
      rw [show ((⟨b, o, none⟩ : Addr).add j) = ⟨b, o + j, none⟩ by simp [Addr.add]]
      by_cases e : j % 2 = 0
      · have q : o + j = o + j / 2 * 2 := by omega
        rw [if_pos e, ← h1, ← q]
      · have q : o + j = o + j / 2 * 2 + 1 := by omega
        rw [if_neg e, ← h2, ← q]
    obtain ⟨v', w', hrun, h2, h3, -, h5⟩ := run_append_own_at (P := Tryd.prog) w lo 22 22 24 i0 _ 2 16 Tryd.underlying22 hi0 hz0 hz1 hz2 rfl (by omega) v n _ hown ⟨b, o, none⟩ m c (fl M E m) fl_len hnews fl_one
      (by unfold maxLen; omega) (by omega) hlo
    rw [fl_glue] at h2
    exact ⟨v', w', hrun, h2, h3, h5⟩
/-- The row that appends have made, as an argument of Sum. -/
theorem own_elems {lo : Nat} {w : World} {v : Value} {n : Nat} {N D : Nat → Int} (h : w.ownsRow lo 24 2 v (n + 1) (fl N D (n + 1))) (hB : ∀ i, i < n + 1 → -9223372036854775808 ≤ N i ∧ N i ≤ 9223372036854775807 ∧ -9223372036854775808 ≤ D i ∧ D i ≤ 9223372036854775807) :
    ∃ g c, v = .slice (some ⟨g, 0, none⟩) (n + 1) c ∧ elems w g 0 (n + 1) N D := by
  rcases h.2 with ⟨-, h0⟩ | ⟨g, c, cur, rfl, -⟩
  · omega
  · refine ⟨g, c, rfl, (h.lt g rfl).2, fun i hi => ?_⟩
    refine ⟨?_, ?_, hB i hi⟩
    · rw [h.cellAt (0 + i * 2) (by omega), fl_get (by omega), if_pos (by omega), show (0 + i * 2) / 2 = i by omega]
    · rw [h.cellAt (0 + i * 2 + 1) (by omega), fl_get (by omega), if_neg (by omega), show (0 + i * 2 + 1) / 2 = i by omega]
/-- A block of two cells that an append leaves as it was. -/
theorem two.grown {w w2 : World} {b : Nat} {x y : Value} {o : Option Nat} (h : two w b x y) (hg : w.grownBy w2 o) (hne : o ≠ some b) : two w2 b x y := by
  obtain ⟨h1, h2, h3, h4, h5⟩ := h
  have e := hg.block b h5 (fun e => hne (by first | exact e.symm | exact e))
  have hc : ∀ p, w2.cell? ⟨b, p, none⟩ = w.cell? ⟨b, p, none⟩ := fun p => by unfold World.cell?; rw [e]
  have hf : ∀ p, w2.frozen? ⟨b, p, none⟩ = w.frozen? ⟨b, p, none⟩ := fun p => by unfold World.frozen?; rw [e]
  exact ⟨(hc 0).trans h1, (hc 1).trans h2, (hf 0).trans h3, (hf 1).trans h4, Nat.lt_of_lt_of_le h5 hg.size⟩
theorem rsum_none (w : World) : Calls Tryd.prog 7 #[.slice none 0 0] w (Gives (.tuple #[.agg #[.int .i64 0, .int .i64 1], .bool true]) w) := by
  go_enter Tryd.func7, Tryd.ntmps7
  go_wp2_with fail
  go_loopw [5, 6] (fun v i wr => v = .bool true ∧ i = .int .i64 0 ∧ wr = (w.alloc (Obj.cells #[Value.int IntKind.i64 0, Value.int IntKind.i64 0] 24)).alloc (Obj.cells #[Value.int IntKind.i64 0, Value.int IntKind.i64 1] 24)) (fun _ i _ => 0)
  case atStart => exact ⟨rfl, rfl, rfl⟩
  case round =>
    obtain ⟨rfl, rfl, rfl⟩ := hrel
    go_wp2_with fail
    exact bodyPost_ret (v := .tuple #[.agg #[.int .i64 0, .int .i64 1], .bool true]) (by simp [results, Tryd.results7, go_sem, *]) rfl ⟨rfl, by repeat (first | exact Below.refl _ _ | assumption | apply bl_alloc | apply bl_drewN | apply bl_drew | (refine bl_set ?_ (by first | (simp; done) | (simp; omega)) _) | (refine bl_call ?_ (by assumption)))⟩
end Go.Proofs.YtnfddeoddjmpkabDoor
