/-
  Rows of expressions that a call made, and what lies in blocks of a set.
-/
import Derived.Test.YtfkenbdfakjeoaaEConst
import Derived.Test.YtfkenbdfakjeoaaETimes
import Derived.Deep.AppendLies
namespace Go.Proofs.Ytfkenbdfakjeoaa.Ex
open Go.RowKit
open Go.Proofs.Ytfkenbdfakjeoaa.Na (bs bs_inj chk)
set_option maxHeartbeats 2000000
set_option linter.unusedVariables false
/-- An expression as it lies in a row. -/
structure Rw where
  x : Ex
  p : Option Addr
  m : Nat
  c : Nat
def flatK : List Rw → List Value
  | [] => []
  | r :: t => .int .i64 r.x.o :: .string r.x.s :: .int .i64 r.x.n :: .slice r.p r.m r.c :: flatK t
theorem flatK_len : ∀ l : List Rw, (flatK l).length = l.length * 4
  | [] => rfl
  | x :: t => by simp only [flatK, List.length_cons, flatK_len t]; omega
theorem flatK_app : ∀ a b : List Rw, flatK (a ++ b) = flatK a ++ flatK b
  | [], b => rfl
  | x :: t, b => by simp only [List.cons_append, flatK, flatK_app t b]
theorem flatK_get : ∀ {l : List Rw} {i r : Nat} (h : i < l.length), r < 4 → (flatK l)[i * 4 + r]? = some (c4 l[i].x l[i].p l[i].m l[i].c r)
  | [], i, r, h, _ => absurd h (Nat.not_lt_zero _)
  | x :: t, 0, r, _, hr => by
    match r, hr with
    | 0, _ => rfl
    | 1, _ => rfl
    | 2, _ => rfl
    | 3, _ => rfl
  | x :: t, i + 1, r, h, hr => by
    have e : (i + 1) * 4 + r = (i * 4 + r) + 1 + 1 + 1 + 1 := by omega
    rw [e]
    simp only [flatK, List.getElem?_cons_succ, List.getElem_cons_succ]
    exact flatK_get (l := t) (by simpa using h) hr
theorem flatK_one : ∀ l : List Rw, ∀ u ∈ flatK l, u.oneCell' = true
  | [], u, hu => by cases hu
  | x :: t, u, hu => by
    simp only [flatK, List.mem_cons] at hu
    rcases hu with rfl | rfl | rfl | rfl | hu
    · rfl
    · rfl
    · rfl
    · rfl
    · exact flatK_one t u hu
abbrev OwnK (lo : Nat) (w : World) (v : Value) (L : List Rw) : Prop := w.ownsRow lo 25 4 v L.length (flatK L)
theorem OwnK.below {lo : Nat} {w w2 : World} {v : Value} {l : List Rw} (h : OwnK lo w v l) (hb : Below w.heap.size w w2) : OwnK lo w2 v l :=
  World.ownsRow.kept h (row := none) ⟨hb.os, hb.tape, hb.output, hb.size, fun k hk _ => hb.block k hk⟩ (by cases v.ownBlock <;> simp)
theorem parts_of2 {o : Option TypeInfo} {z : Value} {s b : Nat} (h : o.map (fun i => (i.zero, i.size, i.bytes)) = some (some z, s, b)) : ∃ i, o = some i ∧ i.zero = some z ∧ i.size = s ∧ i.bytes = b := by
  cases o with
  | none => cases h
  | some i => simp only [Option.map_some, Option.some.injEq, Prod.mk.injEq] at h; exact ⟨i, rfl, h.1, h.2.1, h.2.2⟩
theorem ex_info : (Try.prog.info? 25).map (fun i => (i.zero, i.size, i.bytes)) = some (some (.agg #[.int .i64 0, .string ⟨#[]⟩, .int .i64 0, .slice none 0 0]), 4, 56) := by kernel_rfl
/-- Blocks that are old, or were made from a block on, but for the row's own. -/
def Gv (n0 lo : Nat) (v : Value) : Nat → Prop := fun b => (b < n0 ∨ lo ≤ b) ∧ some b ≠ v.ownBlock
/-- Blocks that are old, or were made from a block on. -/
def Fr (n0 lo : Nat) : Nat → Prop := fun b => b < n0 ∨ lo ≤ b
/-- A row that a call made, and where its elements' parts lie. -/
def Inv (n0 lo : Nat) (w : World) (v : Value) (L : List Rw) : Prop := OwnK lo w v L ∧ ∀ r ∈ L, Kin (Gv n0 lo v) w r.x r.p r.m
theorem Inv.below {n0 lo : Nat} {w w2 : World} {v : Value} {L : List Rw} (h : Inv n0 lo w v L) (hb : Below w.heap.size w w2) : Inv n0 lo w2 v L :=
  ⟨OwnK.below h.1 hb, fun r hr => Kin.map hb.size (fun b hg hlt => ⟨hg, hb.block b hlt⟩) r.x (h.2 r hr)⟩
theorem Inv.nil {n0 lo : Nat} {w : World} : Inv n0 lo w (.slice none 0 0) [] := ⟨World.ownsRow_nil _ _ _ _, fun r hr => by cases hr⟩
/-- A row's block lies from its bound on, and in the world. -/
theorem OwnK.lt {lo : Nat} {w : World} {v : Value} {L : List Rw} (h : OwnK lo w v L) {k : Nat} (hk : v.ownBlock = some k) : lo ≤ k ∧ k < w.heap.size := World.ownsRow.lt h k hk
/-- One element more. -/
theorem Inv.step {n0 lo : Nat} {w1 w2 : World} {v v' : Value} {L : List Rw} {r : Rw} (h : Inv n0 lo w1 v L) (hr : Kin (Gv n0 lo v) w1 r.x r.p r.m) (ho : OwnK lo w2 v' (L ++ [r])) (hg : w1.grownBy w2 v.ownBlock) (hv : v'.ownBlock = v.ownBlock ∨ v'.ownBlock = some w1.heap.size) : Inv n0 lo w2 v' (L ++ [r]) := by
  refine ⟨ho, fun z hz => ?_⟩
  have hk : Kin (Gv n0 lo v) w1 z.x z.p z.m := by
    rcases List.mem_append.1 hz with hz | hz
    · exact h.2 z hz
    · rw [List.mem_singleton.1 hz]; exact hr
  refine Kin.map hg.size (fun b hb hlt => ⟨⟨hb.1, ?_⟩, hg.block b hlt hb.2⟩) z.x hk
  rcases hv with e | e
  · rw [e]; exact hb.2
  · rw [e]
    intro e2
    cases e2
    omega
/-- An expression whose parts lie in an own row. -/
theorem Inv.made {n0 lo : Nat} {w : World} {v : Value} {L : List Rw} (h : Inv n0 lo w v L) : ∃ p c, v = .slice p L.length c ∧ ∀ (o : Int) (s : ByteArray) (n : Int), Kin (Fr n0 lo) w (.mk o s n (L.map Rw.x)) p L.length := by
  obtain ⟨ho, hk⟩ := h
  have h' := ho
  rcases h'.2 with ⟨rfl, h0⟩ | ⟨g, cap, cur, rfl, hg, hcur, hc, hm, h5, h6⟩
  · have : L = [] := List.length_eq_zero_iff.1 h0
    subst this
    exact ⟨none, 0, rfl, fun _ _ _ => Kin.zero⟩
  · refine ⟨_, _, rfl, fun o s n => kin_iff.2 ⟨by simp, by unfold maxLen at hm; omega, .inr ⟨g, 0, rfl, .inr hg, (OwnK.lt ho rfl).2, Lib.hid fun i hi => ?_⟩⟩⟩
    have hi' : i < L.length := by simpa using hi
    refine ⟨L[i].p, L[i].m, L[i].c, cell4_of fun r hr => ?_, ?_⟩
    · rw [ho.cellAt (0 + i * 4 + r) (by omega), Nat.zero_add, flatK_get hi' hr]
      simp only [List.getElem_map]
    · simp only [List.getElem_map]
      exact (hk _ (List.getElem_mem hi')).mono fun b hb _ => hb.1
def GivesF (n0 : Nat) (x : Ex) (w : World) (e : Ending) (w' : World) : Prop := ∃ p m c, e = .returned (.agg #[.int .i64 x.o, .string x.s, .int .i64 x.n, .slice p m c]) ∧ Kin (Fr n0 w.heap.size) w' x p m ∧ Below w.heap.size w w'
theorem rep_yes {nm s : ByteArray} {y : Ex} {o n : Int} {l : List Ex} (h : hit nm o s = true) : rep nm y (.mk o s n l) = y := by rw [rep, if_pos h]
theorem rep_no {nm s : ByteArray} {y : Ex} {o n : Int} {l : List Ex} (h : hit nm o s = false) : rep nm y (.mk o s n l) = .mk o s n (repL nm y l) := by rw [rep, if_neg (by rw [h]; decide)]
theorem Kin.kids' {G : Nat → Prop} {w : World} {o : Int} {s : ByteArray} {n : Int} {l : List Ex} {p : Option Addr} {m : Nat} (h : Kin G w (.mk o s n l) p m) (hm : 0 < m) : ∃ b o, p = some ⟨b, o, none⟩ ∧ G b ∧ b < w.heap.size ∧ Hid (∀ k, (h : k < l.length) → ∃ p m c, cell4 w b (o + k * 4) l[k] p m c ∧ Kin G w l[k] p m) := h.kids hm
end Go.Proofs.Ytfkenbdfakjeoaa.Ex
