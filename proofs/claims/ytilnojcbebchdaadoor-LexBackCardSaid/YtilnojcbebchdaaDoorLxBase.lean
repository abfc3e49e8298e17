/-
  Words for worlds and lists of tokens in memory; how a token is appended to a list that a call made.
-/
import Derived.Test.YtilnojcbebchdaaDoorRows
import Derived.Test.YtilnojcbebchdaaDoorLxMath
import Derived.WalkSpells
import Derived.WalkLawsBesides
import Derived.Lib.Hide
import Derived.LoopTactic
import Derived.RegionTactic
import Derived.Deep.QuietTactic
import Derived.BigQuiet
import Derived.Outline
import Derived.Deep.DeepCutAuto
import Derived.Deep.CutBlock
import Derived.Deep.RegionHeld3
import Derived.StillTailTactics
import Derived.Maps.AppendAt
import Derived.Laws.OwnMore
import Derived.OwnWalk
import Derived.ArgAppend
import Derived.Lib.SliceRun
import Derived.Lib.AppendZeros
import Derived.Lib.Bytealg
import Derived.Laws.Strings3
import Derived.Lib.OthersKept
import Derived.Maps.RangeWalk
namespace Go.Proofs.YtilnojcbebchdaaDoor.Lx
open Go.RowKit
set_option maxHeartbeats 1000000
set_option linter.unusedVariables false
theorem ret_int {k : IntKind} {a b : Int} (h : a = b) : Ending.returned (.int k a) = .returned (.int k b) := by rw [h]
theorem ret_bool {a b : Bool} (h : a = b) : Ending.returned (.bool a) = .returned (.bool b) := by rw [h]
def Gives (v : Value) (w : World) (e : Ending) (w' : World) : Prop := e = .returned v ∧ Below w.heap.size w w'
theorem gives_eq {v u : Value} {w w1 : World} (h : u = v) (hb : Below w.heap.size w w1) : Gives u w (.returned v) w1 := ⟨by rw [h], hb⟩
theorem below_drewN {B : Nat} {a w : World} (h : Below B a w) (n : Nat) : Below B a (w.drewN n) := ⟨h.os, h.tape, h.output, h.size, h.block⟩
section
variable {a w w2 : World}
theorem bl_alloc {o : Obj} (h : Below a.heap.size a w) : Below a.heap.size a (w.alloc o) := h.alloc h.size o
theorem bl_drewN {n : Nat} (h : Below a.heap.size a w) : Below a.heap.size a (w.drewN n) := below_drewN h n
theorem bl_drew (h : Below a.heap.size a w) : Below a.heap.size a w.drew := h.drew
theorem bl_set {p : Addr} (h : Below a.heap.size a w) (hp : a.heap.size ≤ p.block) (u : Value) : Below a.heap.size a (w.setCell p u) := h.setCell hp u
theorem bl_call (h : Below a.heap.size a w) (hb : Below w.heap.size w w2) : Below a.heap.size a w2 := h.trans (hb.mono h.size)
end
theorem clash {x : Bool} (h : x = true) (g : x = false) : False := by rw [h] at g; cases g
/-- How the walk spells that two texts are equal. -/
theorem eq_yes {a b : ByteArray} (h : bs a = bs b) : (a.toList == b.toList) = true := by rw [bs_inj h]; simp
theorem eq_no {a b : ByteArray} (h : ¬ bs a = bs b) : (a.toList == b.toList) = false := by
  rw [beq_eq_false_iff_ne, Lib.toList_data, Lib.toList_data]; exact h
theorem add_off (b o j : Nat) : (⟨b, o, none⟩ : Addr).add j = ⟨b, o + j, none⟩ := by unfold Addr.add; split <;> simp_all
/-- The cell number r of a token. -/
def c4 (x : Tk) (r : Nat) : Value := match r with
  | 0 => .int .i64 x.k
  | 1 => .string x.t
  | 2 => .int .i64 x.n
  | _ => .int .i64 x.l
def cell4 (w : World) (g o : Nat) (x : Tk) : Prop := w.cell? ⟨g, o, none⟩ = some (.int .i64 x.k) ∧ w.cell? ⟨g, o + 1, none⟩ = some (.string x.t) ∧ w.cell? ⟨g, o + 2, none⟩ = some (.int .i64 x.n) ∧ w.cell? ⟨g, o + 3, none⟩ = some (.int .i64 x.l)
theorem cell4.on {w w2 : World} {g o : Nat} {x : Tk} (hb : Below w.heap.size w w2) (hg : g < w.heap.size) (h : cell4 w g o x) : cell4 w2 g o x := by
  obtain ⟨h0, h1, h2, h3⟩ := h
  exact ⟨(hb.cell (p := ⟨g, o, none⟩) hg).trans h0, (hb.cell (p := ⟨g, o + 1, none⟩) hg).trans h1, (hb.cell (p := ⟨g, o + 2, none⟩) hg).trans h2, (hb.cell (p := ⟨g, o + 3, none⟩) hg).trans h3⟩
theorem cell4_get {w : World} {g o r : Nat} {x : Tk} (h : cell4 w g o x) (hr : r < 4) : w.cell? ⟨g, o + r, none⟩ = some (c4 x r) := by
  obtain ⟨h0, h1, h2, h3⟩ := h
  match r, hr with
  | 0, _ => exact h0
  | 1, _ => exact h1
  | 2, _ => exact h2
  | 3, _ => exact h3
theorem cell4_of {w : World} {g o : Nat} {x : Tk} (h : ∀ r, r < 4 → w.cell? ⟨g, o + r, none⟩ = some (c4 x r)) : cell4 w g o x :=
  ⟨h 0 (by omega), h 1 (by omega), h 2 (by omega), h 3 (by omega)⟩
def flat : List Tk → List Value
  | [] => []
  | x :: t => .int .i64 x.k :: .string x.t :: .int .i64 x.n :: .int .i64 x.l :: flat t
theorem flat_len : ∀ l : List Tk, (flat l).length = l.length * 4
  | [] => rfl
  | x :: t => by simp only [flat, List.length_cons, flat_len t]; omega
theorem flat_app : ∀ a b : List Tk, flat (a ++ b) = flat a ++ flat b
  | [], b => rfl
  | x :: t, b => by simp only [List.cons_append, flat, flat_app t b]
theorem flat_get : ∀ {l : List Tk} {i r : Nat} (h : i < l.length), r < 4 → (flat l)[i * 4 + r]? = some (c4 l[i] r)
  | [], i, r, h, _ => absurd h (Nat.not_lt_zero _)
  | x :: t, 0, r, _, hr => by
    match r, hr with
    | 0, _ => rfl
    | 1, _ => rfl
    | 2, _ => rfl
    | 3, _ => rfl
  | x :: t, i + 1, r, h, hr => by
    have e : (i + 1) * 4 + r = (i * 4 + r) + 1 + 1 + 1 + 1 := by omega
    rw [e]
    simp only [flat, List.getElem?_cons_succ, List.getElem_cons_succ]
    exact flat_get (l := t) (by simpa using h) hr
theorem flat_one : ∀ l : List Tk, ∀ u ∈ flat l, u.oneCell' = true
  | [], u, hu => by cases hu
  | x :: t, u, hu => by
    simp only [flat, List.mem_cons] at hu
    rcases hu with rfl | rfl | rfl | rfl | hu
    · rfl
    · rfl
    · rfl
    · rfl
    · exact flat_one t u hu
/-- A slice of tokens that reads as l, its cells below the world's top. -/
def Toks (w : World) (p : Option Addr) (n : Nat) (l : List Tk) : Prop :=
  l.length = n ∧ n ≤ 9223372036854775807 ∧ (n = 0 ∨ ∃ b o, p = some ⟨b, o, none⟩ ∧ b < w.heap.size ∧ Hid (∀ i, (h : i < l.length) → cell4 w b (o + i * 4) l[i]))
theorem Toks.on {w w2 : World} {p : Option Addr} {n : Nat} {l : List Tk} (hb : Below w.heap.size w w2) (h : Toks w p n l) : Toks w2 p n l := by
  obtain ⟨h0, hl, h | ⟨b, o, rfl, h1, h2⟩⟩ := h
  · exact ⟨h0, hl, .inl h⟩
  · exact ⟨h0, hl, .inr ⟨b, o, rfl, Nat.lt_of_lt_of_le h1 hb.size, Lib.hid fun i hi => cell4.on hb h1 (h2.out i hi)⟩⟩
theorem Toks.alloc {w : World} {o : Obj} {p : Option Addr} {n : Nat} {l : List Tk} (h : Toks w p n l) : Toks (w.alloc o) p n l := h.on ((Below.refl _ _).alloc (Nat.le_refl _) o)
theorem Toks.drew {w : World} {p : Option Addr} {n : Nat} {l : List Tk} (h : Toks w p n l) : Toks w.drew p n l := h
theorem Toks.drewN {w : World} {p : Option Addr} {n : Nat} {l : List Tk} (h : Toks w p n l) (m : Nat) : Toks (w.drewN m) p n l := h
theorem Toks.nil {w : World} {p : Option Addr} : Toks w p 0 [] := ⟨rfl, by omega, .inl rfl⟩
/-- A row of tokens that a call made, from a block on. -/
abbrev Own (lo : Nat) (w : World) (v : Value) (l : List Tk) : Prop := w.ownsRow lo 31 4 v l.length (flat l)
theorem own_below {lo : Nat} {w w2 : World} {v : Value} {l : List Tk} (h : Own lo w v l) (hb : Below w.heap.size w w2) : Own lo w2 v l :=
  World.ownsRow.kept h (row := none) ⟨hb.os, hb.tape, hb.output, hb.size, fun k hk _ => hb.block k hk⟩ (by cases v.ownBlock <;> simp)
/-- An owned row reads as its list. -/
theorem own_toks {lo : Nat} {w : World} {v : Value} {l : List Tk} (h : Own lo w v l) : ∃ p c, v = .slice p l.length c ∧ Toks w p l.length l ∧ l.length ≤ c ∧ ((p = none ∧ c = 0) ∨ ∃ g, p = some ⟨g, 0, none⟩ ∧ lo ≤ g) := by
  have h' := h
  rcases h'.2 with ⟨rfl, h0⟩ | ⟨g, cap, cur, rfl, hg, hcur, hc, hm, h5, h6⟩
  · have : l = [] := List.length_eq_zero_iff.1 h0
    subst this
    exact ⟨none, 0, rfl, Toks.nil, Nat.le_refl _, .inl ⟨rfl, rfl⟩⟩
  · refine ⟨_, _, rfl, ⟨rfl, ?_, ?_⟩, hc, .inr ⟨g, rfl, hg⟩⟩
    · unfold maxLen at hm; omega
    · refine .inr ⟨g, 0, rfl, (h.lt g rfl).2, Lib.hid fun i hi => cell4_of fun r hr => ?_⟩
      rw [h.cellAt (0 + i * 4 + r) (by omega), Nat.zero_add, flat_get hi hr]
theorem parts_of {o : Option TypeInfo} {z : Value} {s b : Nat} (h : o.map (fun i => (i.zero, i.size, i.bytes)) = some (some z, s, b)) : ∃ i, o = some i ∧ i.zero = some z ∧ i.size = s ∧ i.bytes = b := by
  cases o with
  | none => cases h
  | some i => simp only [Option.map_some, Option.some.injEq, Prod.mk.injEq] at h; exact ⟨i, rfl, h.1, h.2.1, h.2.2⟩
theorem tok_info : (Tryd.prog.info? 31).map (fun i => (i.zero, i.size, i.bytes)) = some (some (.agg #[.int .i64 0, .string ⟨#[]⟩, .int .i64 0, .int .i64 0]), 4, 40) := by kernel_rfl
/-- One token more, the token in a block of its own. -/
theorem append_tok {lo : Nat} {w : World} {v : Value} {l : List Tk} (hown : Own lo w v l) {b : Nat} {x : Tk} (hb : b < w.heap.size) (hx : cell4 w b 0 x) (hn : l.length ≤ 1000000) (hlo : lo ≤ w.heap.size) :
    ∃ v' w', (Builtin.append_ #[23, 23] 23 #[v, .slice (some ⟨b, 0, none⟩) 1 1]).run Tryd.prog w = .ok v' w' ∧ Own lo w' v' (l ++ [x]) ∧ w.grownBy w' v.ownBlock := by
  obtain ⟨i0, hi0, hz0, hz1, hz2⟩ := parts_of tok_info
  have hnews : ∀ j u, (flat [x])[j]? = some u → w.cell? ((⟨b, 0, none⟩ : Addr).add j) = some u := by
    intro j u hu
    have hj : j < 4 := by
      have := (List.getElem?_eq_some_iff.1 hu).1
      rwa [flat_len] at this
    have h2 := flat_get (l := [x]) (i := 0) (r := j) (by simp) hj
    rw [Nat.zero_mul, Nat.zero_add, hu] at h2
    rw [add_off, cell4_get hx hj]
    exact h2.symm
  obtain ⟨v', w', hrun, h2, h3, -, -⟩ := run_append_own_at (P := Tryd.prog) w lo 23 23 31 i0 _ 4 40 Tryd.underlying23 hi0 hz0 hz1 hz2 rfl (by omega) v l.length _ hown ⟨b, 0, none⟩ 1 1 (flat [x]) (flat_len _) hnews (flat_one _)
    (by unfold maxLen; omega) (by omega) hlo
  rw [← flat_app] at h2
  refine ⟨v', w', hrun, ?_, h3⟩
  show w'.ownsRow lo 31 4 v' (l ++ [x]).length _
  rw [List.length_append]
  exact h2
theorem new4 {w : World} {x : Tk} {t : TypeId} : cell4 (w.alloc (.cells #[.int .i64 x.k, .string x.t, .int .i64 x.n, .int .i64 x.l] t)) w.heap.size 0 x := by
  refine cell4_of fun r hr => ?_
  rw [World.cell?_alloc_mark, Nat.zero_add]
  match r, hr with
  | 0, _ => rfl
  | 1, _ => rfl
  | 2, _ => rfl
  | 3, _ => rfl
theorem below_grown {lo : Nat} {a w w' : World} {v : Value} {l : List Tk} (hB : Below lo a w) (hlo : lo ≤ w.heap.size) (ho : Own lo w v l) (hg : w.grownBy w' v.ownBlock) : Below lo a w' := hB.grown hg hlo fun k hk => (ho.lt k hk).1
/-- A block that holds no row of tokens stays as it is when a list grows. -/
theorem kept_iter {w w' : World} {lo : Nat} {v : Value} {l : List Tk} {k : Nat} {s : ByteArray} {pos : Nat} (ho : Own lo w v l) (hg : w.grownBy w' v.ownBlock) (hk : w.heap[k]? = some (.stringIter s pos)) : w'.heap[k]? = some (.stringIter s pos) := by
  have hlt : k < w.heap.size := (Array.getElem?_eq_some_iff.1 hk).1
  rw [hg.block k hlt ?_]
  · exact hk
  · intro e
    rcases ho.2 with ⟨rfl, h0⟩ | ⟨g, cap, cur, rfl, hgg, hcur, -⟩
    · simp [Value.ownBlock] at e
    · simp [Value.ownBlock] at e
      subst e
      rw [hk] at hcur
      cases hcur
end Go.Proofs.YtilnojcbebchdaaDoor.Lx
