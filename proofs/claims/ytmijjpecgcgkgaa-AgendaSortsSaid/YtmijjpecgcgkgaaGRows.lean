/-
  Rows of events that a call made: how they read, and how a list is appended to one.
-/
import Derived.Test.YtmijjpecgcgkgaaGCopy
namespace Go.Proofs.Ytmijjpecgcgkgaa.Ag
open Go.RowKit
set_option maxHeartbeats 2000000
/-- The cell number r of an event. -/
def c9 (x : Ev) (r : Nat) : Value := match r with
  | 0 => .int .i64 x.t
  | 1 => .int .i64 x.p
  | 2 => .int .i64 x.f
  | 3 => .int .i64 x.s
  | 4 => .int .i64 x.st
  | 5 => .int .i64 x.k
  | 6 => .int .i64 x.a
  | 7 => .int .i64 x.b
  | _ => .slice x.ap x.al x.ac
def flat (E : Nat → Ev) (n : Nat) : List Value := (List.range (n * 9)).map fun q => c9 (E (q / 9)) (q % 9)
theorem flat_len {E : Nat → Ev} {n : Nat} : (flat E n).length = n * 9 := by simp [flat]
theorem flat_get {E : Nat → Ev} {n q : Nat} (h : q < n * 9) : (flat E n)[q]? = some (c9 (E (q / 9)) (q % 9)) := by simp [flat, h]
theorem flat_none {E : Nat → Ev} {n q : Nat} (h : n * 9 ≤ q) : (flat E n)[q]? = none := by simp [flat, h]
theorem flat_one {E : Nat → Ev} {n : Nat} : ∀ u ∈ flat E n, u.oneCell' = true := by
  intro u hu
  simp only [flat, List.mem_map] at hu
  obtain ⟨q, -, rfl⟩ := hu
  have h : q % 9 < 9 := Nat.mod_lt _ (by omega)
  generalize q % 9 = r at h
  match r, h with
  | 0, _ => rfl
  | 1, _ => rfl
  | 2, _ => rfl
  | 3, _ => rfl
  | 4, _ => rfl
  | 5, _ => rfl
  | 6, _ => rfl
  | 7, _ => rfl
  | 8, _ => rfl
theorem flat_congr {E F : Nat → Ev} {n : Nat} (h : ∀ i, i < n → E i = F i) : flat E n = flat F n := by
  apply List.ext_getElem?
  intro q
  rcases Nat.lt_or_ge q (n * 9) with hq | hq
  · rw [flat_get hq, flat_get hq, h _ (by omega)]
  · rw [flat_none hq, flat_none hq]
/-- One list behind the other. -/
def glue (E : Nat → Ev) (n : Nat) (F : Nat → Ev) (i : Nat) : Ev := if i < n then E i else F (i - n)
theorem glue_l {E F : Nat → Ev} {n i : Nat} (h : i < n) : glue E n F i = E i := by unfold glue; rw [if_pos h]
theorem glue_r {E F : Nat → Ev} {n i : Nat} (h : n ≤ i) : glue E n F i = F (i - n) := by unfold glue; rw [if_neg (by omega)]
theorem flat_glue {E F : Nat → Ev} {n m : Nat} : flat E n ++ flat F m = flat (glue E n F) (n + m) := by
  apply List.ext_getElem?
  intro q
  rw [List.getElem?_append, flat_len]
  rcases Nat.lt_or_ge q (n * 9) with hq | hq
  · rw [if_pos hq, flat_get hq, flat_get (by omega), glue_l (by omega)]
  · rw [if_neg (by omega)]
    rcases Nat.lt_or_ge q ((n + m) * 9) with h2 | h2
    · rw [flat_get (by omega), flat_get h2, glue_r (by omega), show (q - n * 9) / 9 = q / 9 - n by omega, show (q - n * 9) % 9 = q % 9 by omega]
    · rw [flat_none (by omega), flat_none h2]
theorem cell9_get {w : World} {g o r : Nat} {x : Ev} (h : cell9 w g o x) (hr : r < 9) : w.cell? ⟨g, o + r, none⟩ = some (c9 x r) := by
  obtain ⟨h0, h1, h2, h3, h4, h5, h6, h7, h8⟩ := h
  match r, hr with
  | 0, _ => exact h0
  | 1, _ => exact h1
  | 2, _ => exact h2
  | 3, _ => exact h3
  | 4, _ => exact h4
  | 5, _ => exact h5
  | 6, _ => exact h6
  | 7, _ => exact h7
  | 8, _ => exact h8
theorem cell9_of {w : World} {g o : Nat} {x : Ev} (h : ∀ r, r < 9 → w.cell? ⟨g, o + r, none⟩ = some (c9 x r)) : cell9 w g o x :=
  ⟨h 0 (by omega), h 1 (by omega), h 2 (by omega), h 3 (by omega), h 4 (by omega), h 5 (by omega), h 6 (by omega), h 7 (by omega), h 8 (by omega)⟩
theorem cells_own {lo : Nat} {w : World} {g n cap : Nat} {E : Nat → Ev} (h : w.ownsRow lo 25 9 (.slice (some ⟨g, 0, none⟩) n cap) n (flat E n)) {i : Nat} (hi : i < n) : cell9 w g (0 + i * 9) (E i) := by
  refine cell9_of fun r hr => ?_
  rw [h.cellAt (0 + i * 9 + r) (by omega), flat_get (by omega), show (0 + i * 9 + r) / 9 = i by omega, show (0 + i * 9 + r) % 9 = r by omega]
theorem ev_info : (Try.prog.info? 25).map (fun i => (i.zero, i.size, i.bytes)) = some (some (.agg #[.int .i64 0, .int .i64 0, .int .i64 0, .int .i64 0, .int .i64 0, .int .i64 0, .int .i64 0, .int .i64 0, .slice none 0 0]), 9, 88) := by kernel_rfl
theorem append_evs {lo : Nat} {w : World} {v : Value} {n : Nat} {E : Nat → Ev} (hown : w.ownsRow lo 25 9 v n (flat E n)) {p : Option Addr} {m c : Nat} {F : Nat → Ev} (hF : Evs w p m F) (hb : n + m ≤ 20000) (hlo : lo ≤ w.heap.size) :
    ∃ v' w', (Builtin.append_ #[29, 29] 29 #[v, .slice p m c]).run Try.prog w = .ok v' w' ∧ w'.ownsRow lo 25 9 v' (n + m) (flat (glue E n F) (n + m)) ∧ ∀ W0, W0.heap.size = lo → Below lo W0 w → Below lo W0 w' := by
  obtain ⟨i0, hi0, hz0, hz1, hz2⟩ := parts_of ev_info
  obtain ⟨hl, hF⟩ := hF
  rcases p with - | ⟨b, o, sp⟩
  · have hz : m = 0 := by
      rcases hF with h | ⟨b, o, h, -⟩
      · exact h
      · cases h
    subst hz
    refine ⟨v, w, append_none lo _ _ _ i0 9 Try.underlying29 hi0 v n _ hown c, ?_, fun _ _ h => h⟩
    have e : flat (glue E n F) (n + 0) = flat E n := flat_congr (n := n) fun i hi => glue_l hi
    rw [e]
    exact hown
  · have hnews : ∀ j u, (flat F m)[j]? = some u → w.cell? ((⟨b, o, sp⟩ : Addr).add j) = some u := by
      intro j u hu
      have hj : j < m * 9 := by
        have := (List.getElem?_eq_some_iff.1 hu).1
        rwa [flat_len] at this
      rcases hF with h | ⟨b', o', h, -, hc⟩
      · omega
      · cases h
        rw [flat_get hj] at hu
        cases hu
        have h9 := cell9_get (hc.out (j / 9) (by omega)).1 (Nat.mod_lt j (by omega : 9 > 0))
        rw [add_off, ← h9]
        congr 2
        omega
    obtain ⟨v', w', hrun, h2, h3, -, -⟩ := run_append_own_at (P := Try.prog) w lo 29 29 25 i0 _ 9 88 Try.underlying29 hi0 hz0 hz1 hz2 rfl (by omega) v n _ hown ⟨b, o, sp⟩ m c (flat F m) flat_len hnews flat_one
      (by unfold maxLen; omega) (by omega) hlo
    rw [flat_glue] at h2
    exact ⟨v', w', hrun, h2, fun W0 h0 hB => hB.grown h3 hlo fun k hk => (hown.lt k hk).1⟩
theorem grow_any (n : Nat) (w : World) (hn : n ≤ 20000) : Calls Try.prog 48 #[.slice none 0 0, .int .i64 n] w fun e w' => ∃ v, e = .returned v ∧ w'.ownsRow w.heap.size 25 9 v 0 [] ∧ Below w.heap.size w w' := by
  rcases Nat.eq_zero_or_pos n with h0 | h0
  · subst h0
    go_enter Try.func48, Try.ntmps48
    go_wp2_with fail
    go_ret
    exact ⟨_, rfl, World.ownsRow_nil _ _ _ _, Below.refl _ _⟩
  · obtain ⟨i0, hi0, hz0, hz1, hz2⟩ := parts_of ev_info
    have hrun := fun ty => Lib.run_append_nil_zeros (P := Try.prog) w 29 3 ty 25 i0 _ .i64 .i64 Try.underlying29 Try.underlying3 hi0 hz0 n h0 (by omega) (by omega) (by rw [hz2]; omega)
    have hG := grownCap_ge w n 0 25
    have hG2 := grownCap_le_maxLen w n 0 25 (by unfold maxLen; omega)
    generalize grownCap w n 0 25 = G at hrun hG hG2
    have hm := World.ownsRow_made (base := w.heap.size) (e := 25) (size := 9) w.drew (Builtin.zeroCells (Value.agg #[.int .i64 0, .int .i64 0, .int .i64 0, .int .i64 0, .int .i64 0, .int .i64 0, .int .i64 0, .int .i64 0, .slice none 0 0]).cells n ++ Builtin.zeroCells (Value.agg #[.int .i64 0, .int .i64 0, .int .i64 0, .int .i64 0, .int .i64 0, .int .i64 0, .int .i64 0, .int .i64 0, .slice none 0 0]).cells (G - n)) G (Nat.le_refl _) hG2 (by
      rw [Array.size_append, size_zeroCells, size_zeroCells]
      show n * 9 + (G - n) * 9 = G * 9
      omega)
    unfold maxLen at hG2
    have HM := Lib.hid hm
    clear hm
    generalize Builtin.zeroCells (Value.agg #[.int .i64 0, .int .i64 0, .int .i64 0, .int .i64 0, .int .i64 0, .int .i64 0, .int .i64 0, .int .i64 0, .slice none 0 0]).cells n ++ Builtin.zeroCells (Value.agg #[.int .i64 0, .int .i64 0, .int .i64 0, .int .i64 0, .int .i64 0, .int .i64 0, .int .i64 0, .int .i64 0, .slice none 0 0]).cells (G - n) = cs at hrun HM
    go_enter Try.func48, Try.ntmps48
    go_wp2_with (at_builtin; refine Lib.wpList_append_run _ rfl _ _ _ _ rfl _ _ rfl rfl _ _ (hrun _) ?_)
    all_goals
      go_ret
      exact ⟨_, rfl, HM.out, by (repeat (first | (with_reducible exact Below.refl _ _) | (with_reducible assumption) | (with_reducible apply bl_alloc) | (with_reducible apply bl_drewN) | (with_reducible apply bl_drew) | (with_reducible refine bl_set ?_ (by first | (simp; done) | (simp; omega)) _) | (with_reducible refine bl_call ?_ (by assumption))))⟩
end Go.Proofs.Ytmijjpecgcgkgaa.Ag
