/-
  Lists of events in memory, and what Check says of one.
-/
import Derived.Test.YtmijjpecgcgkgaaGEvent
import Derived.Test.YtmijjpecgcgkgaaGSame
namespace Go.Proofs.Ytmijjpecgcgkgaa.Ag
open Go.RowKit
set_option maxHeartbeats 1000000
/-- The nine cells of an event from a place on. -/
def cell9 (w : World) (g o : Nat) (x : Ev) : Prop := w.cell? ⟨g, o, none⟩ = some (.int .i64 x.t) ∧ w.cell? ⟨g, o + 1, none⟩ = some (.int .i64 x.p) ∧ w.cell? ⟨g, o + 2, none⟩ = some (.int .i64 x.f) ∧ w.cell? ⟨g, o + 3, none⟩ = some (.int .i64 x.s) ∧ w.cell? ⟨g, o + 4, none⟩ = some (.int .i64 x.st) ∧ w.cell? ⟨g, o + 5, none⟩ = some (.int .i64 x.k) ∧ w.cell? ⟨g, o + 6, none⟩ = some (.int .i64 x.a) ∧ w.cell? ⟨g, o + 7, none⟩ = some (.int .i64 x.b) ∧ w.cell? ⟨g, o + 8, none⟩ = some (.slice x.ap x.al x.ac)
theorem cell9.on {w w2 : World} {g o : Nat} {x : Ev} (hb : Below w.heap.size w w2) (hg : g < w.heap.size) (h : cell9 w g o x) : cell9 w2 g o x := by
  obtain ⟨h0, h1, h2, h3, h4, h5, h6, h7, h8⟩ := h
  exact ⟨(hb.cell (p := ⟨g, o, none⟩) hg).trans h0, (hb.cell (p := ⟨g, o + 1, none⟩) hg).trans h1, (hb.cell (p := ⟨g, o + 2, none⟩) hg).trans h2, (hb.cell (p := ⟨g, o + 3, none⟩) hg).trans h3, (hb.cell (p := ⟨g, o + 4, none⟩) hg).trans h4,
    (hb.cell (p := ⟨g, o + 5, none⟩) hg).trans h5, (hb.cell (p := ⟨g, o + 6, none⟩) hg).trans h6, (hb.cell (p := ⟨g, o + 7, none⟩) hg).trans h7, (hb.cell (p := ⟨g, o + 8, none⟩) hg).trans h8⟩
def ok (w : World) (x : Ev) : Prop := Row w x.ap x.al x.V
/-- A slice of events that lies below the world's top. -/
def Evs (w : World) (p : Option Addr) (n : Nat) (E : Nat → Ev) : Prop :=
  n ≤ 9223372036854775807 ∧ (n = 0 ∨ ∃ b o, p = some ⟨b, o, none⟩ ∧ b < w.heap.size ∧ Hid (∀ i, i < n → cell9 w b (o + i * 9) (E i) ∧ ok w (E i)))
theorem Evs.on {w w2 : World} {p : Option Addr} {n : Nat} {E : Nat → Ev} (hb : Below w.heap.size w w2) (h : Evs w p n E) : Evs w2 p n E := by
  obtain ⟨hl, h | ⟨b, o, rfl, h1, h2⟩⟩ := h
  · exact ⟨hl, .inl h⟩
  · exact ⟨hl, .inr ⟨b, o, rfl, Nat.lt_of_lt_of_le h1 hb.size, Lib.hid fun i hi => ⟨cell9.on hb h1 (h2.out i hi).1, Row.on hb (h2.out i hi).2⟩⟩⟩
theorem Evs.alloc {w : World} {o : Obj} {p : Option Addr} {n : Nat} {E : Nat → Ev} (h : Evs w p n E) : Evs (w.alloc o) p n E := h.on ((Below.refl _ _).alloc (Nat.le_refl _) o)
theorem Evs.drew {w : World} {p : Option Addr} {n : Nat} {E : Nat → Ev} (h : Evs w p n E) : Evs w.drew p n E := h
/-- What Check finds at place k. -/
def stepE (E : Nat → Ev) (k : Nat) : Int := if evE (E k) = 0 then (if k = 0 then 0 else if ltB (E (k - 1)) (E k) = true then 0 else 12) else evE (E k)
def chkE (E : Nat → Ev) (n : Nat) : Int := if 5000 < n then 6 else orF (stepE E) n
theorem orF_iff {V : Nat → Int} {n : Nat} : orF V n = 0 ↔ ∀ i, i < n → V i = 0 := by
  induction n with
  | zero => exact ⟨fun _ i hi => absurd hi (Nat.not_lt_zero _), fun _ => rfl⟩
  | succ m ih =>
    show (if orF V m = 0 then V m else orF V m) = 0 ↔ _
    constructor
    · intro h
      split at h
      · rename_i h0
        intro i hi
        by_cases e : i = m
        · subst e; exact h
        · exact ih.1 h0 i (by omega)
      · rename_i h0; exact absurd h h0
    · intro h
      rw [if_pos (ih.2 fun i hi => h i (by omega))]
      exact h m (by omega)
theorem stepE_zero {E : Nat → Ev} {k : Nat} : stepE E k = 0 ↔ evE (E k) = 0 ∧ (k = 0 ∨ Lt (E (k - 1)) (E k)) := by
  unfold stepE
  rw [← ltB_iff]
  constructor
  · intro h
    split at h
    · rename_i h0
      refine ⟨h0, ?_⟩
      split at h
      · left; assumption
      · split at h
        · right; assumption
        · cases h
    · rename_i h0; exact absurd h h0
  · rintro ⟨h0, h1⟩
    rw [if_pos h0]
    rcases h1 with h1 | h1
    · rw [if_pos h1]
    · by_cases hk : k = 0
      · rw [if_pos hk]
      · rw [if_neg hk, if_pos h1]
/-- The lists that Check accepts. -/
def Good (E : Nat → Ev) (n : Nat) : Prop := n ≤ 5000 ∧ (∀ i, i < n → evE (E i) = 0) ∧ ∀ i, i + 1 < n → Lt (E i) (E (i + 1))
theorem chkE_zero {E : Nat → Ev} {n : Nat} : chkE E n = 0 ↔ Good E n := by
  unfold chkE Good
  constructor
  · intro h
    split at h
    · cases h
    · rename_i hn
      rw [orF_iff] at h
      refine ⟨by omega, fun i hi => (stepE_zero.1 (h i hi)).1, fun i hi => ?_⟩
      rcases (stepE_zero.1 (h (i + 1) hi)).2 with g | g
      · omega
      · exact g
  · rintro ⟨h0, h1, h2⟩
    rw [if_neg (by omega), orF_iff]
    intro i hi
    rw [stepE_zero]
    refine ⟨h1 i hi, ?_⟩
    rcases Nat.eq_zero_or_pos i with e | e
    · exact .inl e
    · obtain ⟨j, rfl⟩ : ∃ j, i = j + 1 := ⟨i - 1, by omega⟩
      exact .inr (h2 j hi)
theorem Good.lt {E : Nat → Ev} {n : Nat} (h : Good E n) {i j : Nat} (hij : i < j) (hj : j < n) : Lt (E i) (E j) := by
  induction j with
  | zero => omega
  | succ m ih =>
    by_cases e : i = m
    · subst e; exact h.2.2 i hj
    · exact (ih (by omega) (by omega)).trans (h.2.2 m hj)
theorem step_ev {E : Nat → Ev} {k : Nat} (h : evE (E k) ≠ 0) : stepE E k = evE (E k) := by unfold stepE; rw [if_neg h]
theorem step_first {E : Nat → Ev} (h : evE (E 0) = 0) : stepE E 0 = 0 := by unfold stepE; rw [if_pos h, if_pos rfl]
theorem step_lt {E : Nat → Ev} {j : Nat} (h : evE (E (j + 1)) = 0) (h2 : ltB (E j) (E (j + 1)) = true) : stepE E (j + 1) = 0 := by unfold stepE; rw [if_pos h, if_neg (by omega), show j + 1 - 1 = j from rfl, if_pos h2]
theorem step_ge {E : Nat → Ev} {j : Nat} (h : evE (E (j + 1)) = 0) (h2 : ltB (E j) (E (j + 1)) = false) : stepE E (j + 1) = 12 := by unfold stepE; rw [if_pos h, if_neg (by omega), show j + 1 - 1 = j from rfl, if_neg (by rw [h2]; decide)]
theorem chkE_long {E : Nat → Ev} {n : Nat} (h : 5000 < n) : chkE E n = 6 := by unfold chkE; rw [if_pos h]
theorem chkE_or {E : Nat → Ev} {n : Nat} (h : ¬ 5000 < n) : chkE E n = orF (stepE E) n := by unfold chkE; rw [if_neg h]
theorem chkE_hit {E : Nat → Ev} {n k : Nat} {z : Int} (h : ¬ 5000 < n) (h0 : orF (stepE E) k = 0) (h1 : stepE E k = z) (hz : z ≠ 0) (hk : k < n) : z = chkE E n := by
  rw [chkE_or h, ← h1]; exact orF_hit h0 (by rw [h1]; exact hz) hk
theorem chkE_end {E : Nat → Ev} {n : Nat} (h : ¬ 5000 < n) (h0 : orF (stepE E) n = 0) : 0 = chkE E n := by rw [chkE_or h, h0]
theorem or_next {E : Nat → Ev} {k : Nat} (h0 : orF (stepE E) k = 0) (h1 : stepE E k = 0) : orF (stepE E) (k + 1) = 0 := (orF_next h0).trans h1
end Go.Proofs.Ytmijjpecgcgkgaa.Ag
