/-
  Words for worlds and expressions in memory: an expression reads as a tree in a world.
-/
import Derived.Test.YtonlmnlpofgccaaGreatRows
import Derived.Test.YtonlmnlpofgccaaGreatEMath
import Derived.WalkSpells
import Derived.WalkLawsBesides
import Derived.Lib.Hide
import Derived.LoopTactic
import Derived.RegionTactic
import Derived.Deep.QuietTactic
import Derived.BigQuiet
import Derived.Outline
import Derived.Deep.DeepCutAuto
import Derived.Deep.CutBlock
import Derived.Deep.RegionHeld3
import Derived.StillTailTactics
import Derived.Maps.AppendAt
import Derived.Laws.OwnMore
import Derived.OwnWalk
import Derived.ArgAppend
import Derived.Lib.SliceRun
import Derived.Lib.AppendZeros
import Derived.Lib.Bytealg
import Derived.Laws.Strings3
import Derived.Lib.OthersKept
namespace Go.Proofs.YtonlmnlpofgccaaGreat.Ex
open Go.RowKit
open Go.Proofs.YtonlmnlpofgccaaGreat.Na (bs bs_inj chk)
set_option maxHeartbeats 1000000
set_option linter.unusedVariables false
theorem ret_int {k : IntKind} {a b : Int} (h : a = b) : Ending.returned (.int k a) = .returned (.int k b) := by rw [h]
theorem ret_bool {a b : Bool} (h : a = b) : Ending.returned (.bool a) = .returned (.bool b) := by rw [h]
def Gives (v : Value) (w : World) (e : Ending) (w' : World) : Prop := e = .returned v ∧ Below w.heap.size w w'
theorem gives_eq {v u : Value} {w w1 : World} (h : u = v) (hb : Below w.heap.size w w1) : Gives u w (.returned v) w1 := ⟨by rw [h], hb⟩
theorem below_drewN {B : Nat} {a w : World} (h : Below B a w) (n : Nat) : Below B a (w.drewN n) := ⟨h.os, h.tape, h.output, h.size, h.block⟩
section
variable {a w w2 : World}
theorem bl_alloc {o : Obj} (h : Below a.heap.size a w) : Below a.heap.size a (w.alloc o) := h.alloc h.size o
theorem bl_drewN {n : Nat} (h : Below a.heap.size a w) : Below a.heap.size a (w.drewN n) := below_drewN h n
theorem bl_drew (h : Below a.heap.size a w) : Below a.heap.size a w.drew := h.drew
theorem bl_set {p : Addr} (h : Below a.heap.size a w) (hp : a.heap.size ≤ p.block) (u : Value) : Below a.heap.size a (w.setCell p u) := h.setCell hp u
theorem bl_call (h : Below a.heap.size a w) (hb : Below w.heap.size w w2) : Below a.heap.size a w2 := h.trans (hb.mono h.size)
end
theorem clash {x : Bool} (h : x = true) (g : x = false) : False := by rw [h] at g; cases g
theorem eq_yes {a b : ByteArray} (h : bs a = bs b) : (a.toList == b.toList) = true := by rw [bs_inj h]; simp
theorem eq_no {a b : ByteArray} (h : ¬ bs a = bs b) : (a.toList == b.toList) = false := by
  rw [beq_eq_false_iff_ne, Lib.toList_data, Lib.toList_data]; exact h
theorem add_off (b o j : Nat) : (⟨b, o, none⟩ : Addr).add j = ⟨b, o + j, none⟩ := by unfold Addr.add; split <;> simp_all
theorem block_lt {w : World} {b k : Nat} {v : Value} (h : w.cell? ⟨b, k, none⟩ = some v) : b < w.heap.size := by
  rcases Nat.lt_or_ge b w.heap.size with g | g
  · exact g
  · unfold World.cell? at h
    rw [Array.getElem?_eq_none g] at h
    cases h
/-- The cell number r of an expression whose parts lie at a slice. -/
def c4 (x : Ex) (p : Option Addr) (m c : Nat) (r : Nat) : Value := match r with
  | 0 => .int .i64 x.o
  | 1 => .string x.s
  | 2 => .int .i64 x.n
  | _ => .slice p m c
def cell4 (w : World) (g o : Nat) (x : Ex) (p : Option Addr) (m c : Nat) : Prop := w.cell? ⟨g, o, none⟩ = some (.int .i64 x.o) ∧ w.cell? ⟨g, o + 1, none⟩ = some (.string x.s) ∧ w.cell? ⟨g, o + 2, none⟩ = some (.int .i64 x.n) ∧ w.cell? ⟨g, o + 3, none⟩ = some (.slice p m c)
theorem cell4.keep {w w2 : World} {g o : Nat} {x : Ex} {p : Option Addr} {m c : Nat} (hb : w2.heap[g]? = w.heap[g]?) (h : cell4 w g o x p m c) : cell4 w2 g o x p m c := by
  obtain ⟨h0, h1, h2, h3⟩ := h
  exact ⟨(World.cell?_of_block (w := w) (a := ⟨g, o, none⟩) hb).trans h0, (World.cell?_of_block (w := w) (a := ⟨g, o + 1, none⟩) hb).trans h1, (World.cell?_of_block (w := w) (a := ⟨g, o + 2, none⟩) hb).trans h2, (World.cell?_of_block (w := w) (a := ⟨g, o + 3, none⟩) hb).trans h3⟩
theorem cell4.on {w w2 : World} {g o : Nat} {x : Ex} {p : Option Addr} {m c : Nat} (hb : Below w.heap.size w w2) (hg : g < w.heap.size) (h : cell4 w g o x p m c) : cell4 w2 g o x p m c := h.keep (hb.block g hg)
theorem cell4_get {w : World} {g o r : Nat} {x : Ex} {p : Option Addr} {m c : Nat} (h : cell4 w g o x p m c) (hr : r < 4) : w.cell? ⟨g, o + r, none⟩ = some (c4 x p m c r) := by
  obtain ⟨h0, h1, h2, h3⟩ := h
  match r, hr with
  | 0, _ => exact h0
  | 1, _ => exact h1
  | 2, _ => exact h2
  | 3, _ => exact h3
theorem cell4_of {w : World} {g o : Nat} {x : Ex} {p : Option Addr} {m c : Nat} (h : ∀ r, r < 4 → w.cell? ⟨g, o + r, none⟩ = some (c4 x p m c r)) : cell4 w g o x p m c :=
  ⟨h 0 (by omega), h 1 (by omega), h 2 (by omega), h 3 (by omega)⟩
mutual
/-- The parts of an expression lie at a slice, in blocks of a set. -/
def Kin (G : Nat → Prop) (w : World) : Ex → Option Addr → Nat → Prop
  | .mk _ _ _ l, p, m => l.length = m ∧ m ≤ 9223372036854775807 ∧ (m = 0 ∨ ∃ b o, p = some ⟨b, o, none⟩ ∧ G b ∧ b < w.heap.size ∧ Rows G w l b o)
def Rows (G : Nat → Prop) (w : World) : List Ex → Nat → Nat → Prop
  | [], _, _ => True
  | x :: t, b, o => (∃ p m c, cell4 w b o x p m c ∧ Kin G w x p m) ∧ Rows G w t b (o + 4)
end
theorem rows_iff {G : Nat → Prop} {w : World} : ∀ {l : List Ex} {b o : Nat}, Rows G w l b o ↔ ∀ k, (h : k < l.length) → ∃ p m c, cell4 w b (o + k * 4) l[k] p m c ∧ Kin G w l[k] p m
  | [], b, o => ⟨fun _ k h => absurd h (Nat.not_lt_zero _), fun _ => trivial⟩
  | x :: t, b, o => by
    unfold Rows
    constructor
    · rintro ⟨h1, h2⟩ k hk
      match k, hk with
      | 0, _ => exact h1
      | k + 1, hk =>
        have := rows_iff.1 h2 k (by simpa using hk)
        rw [show o + 4 + k * 4 = o + (k + 1) * 4 by omega] at this
        exact this
    · intro h
      refine ⟨h 0 (by simp), rows_iff.2 fun k hk => ?_⟩
      have := h (k + 1) (by simpa using hk)
      rw [show o + (k + 1) * 4 = o + 4 + k * 4 by omega] at this
      exact this
theorem kin_def {G : Nat → Prop} {w : World} {o' : Int} {s : ByteArray} {n : Int} {l : List Ex} {p : Option Addr} {m : Nat} : Kin G w (.mk o' s n l) p m ↔ l.length = m ∧ m ≤ 9223372036854775807 ∧ (m = 0 ∨ ∃ b o, p = some ⟨b, o, none⟩ ∧ G b ∧ b < w.heap.size ∧ Rows G w l b o) := by rw [Kin]
theorem kin_iff {G : Nat → Prop} {w : World} {o' : Int} {s : ByteArray} {n : Int} {l : List Ex} {p : Option Addr} {m : Nat} : Kin G w (.mk o' s n l) p m ↔ l.length = m ∧ m ≤ 9223372036854775807 ∧ (m = 0 ∨ ∃ b o, p = some ⟨b, o, none⟩ ∧ G b ∧ b < w.heap.size ∧ Hid (∀ k, (h : k < l.length) → ∃ p m c, cell4 w b (o + k * 4) l[k] p m c ∧ Kin G w l[k] p m)) := by
  rw [kin_def]
  refine and_congr_right fun _ => and_congr_right fun _ => or_congr_right ?_
  constructor
  · rintro ⟨b, o, h1, h2, h3, h4⟩
    exact ⟨b, o, h1, h2, h3, Lib.hid (rows_iff.1 h4)⟩
  · rintro ⟨b, o, h1, h2, h3, h4⟩
    exact ⟨b, o, h1, h2, h3, rows_iff.2 h4.out⟩
theorem Kin.map {G H : Nat → Prop} {w w2 : World} (hs : w.heap.size ≤ w2.heap.size) (hk : ∀ b, G b → b < w.heap.size → H b ∧ w2.heap[b]? = w.heap[b]?) (e : Ex) : ∀ {p m}, Kin G w e p m → Kin H w2 e p m := by
  induction e using Ex.ind with
  | h o s n l ih =>
    intro p m h
    rw [kin_iff] at h ⊢
    obtain ⟨h1, h2, h3 | ⟨b, o, rfl, hg, hb, h4⟩⟩ := h
    · exact ⟨h1, h2, .inl h3⟩
    · obtain ⟨g1, g2⟩ := hk b hg hb
      refine ⟨h1, h2, .inr ⟨b, o, rfl, g1, by omega, Lib.hid fun k hk => ?_⟩⟩
      obtain ⟨q, j, c, h5, h6⟩ := h4.out k hk
      exact ⟨q, j, c, h5.keep g2, ih _ (List.getElem_mem hk) h6⟩
theorem Kin.mono {G H : Nat → Prop} {w : World} {e : Ex} {p : Option Addr} {m : Nat} (hk : ∀ b, G b → b < w.heap.size → H b) (h : Kin G w e p m) : Kin H w e p m := Kin.map (Nat.le_refl _) (fun b g hb => ⟨hk b g hb, rfl⟩) e h
/-- The parts lie below a block. -/
abbrev Lo (B : Nat) : Nat → Prop := fun b => b < B
abbrev In (w : World) (e : Ex) (p : Option Addr) (m : Nat) : Prop := Kin (Lo w.heap.size) w e p m
theorem Kin.below {B : Nat} {w w2 : World} {e : Ex} {p : Option Addr} {m : Nat} (hb : Below B w w2) (h : Kin (Lo B) w e p m) : Kin (Lo B) w2 e p m := Kin.map hb.size (fun b g _ => ⟨g, hb.block b g⟩) e h
theorem Kin.all {G : Nat → Prop} {w : World} {e : Ex} {p : Option Addr} {m : Nat} (h : Kin G w e p m) : In w e p m := h.mono fun b _ hb => hb
theorem Kin.on {w w2 : World} {e : Ex} {p : Option Addr} {m : Nat} (hb : Below w.heap.size w w2) (h : In w e p m) : In w2 e p m := (Kin.below hb h).all
theorem Kin.alloc {w : World} {e : Ex} {p : Option Addr} {m : Nat} (o : Obj) (h : In w e p m) : In (w.alloc o) e p m := h.on ((Below.refl _ _).alloc (Nat.le_refl _) o)
theorem Kin.len {G : Nat → Prop} {w : World} {o : Int} {s : ByteArray} {n : Int} {l : List Ex} {p : Option Addr} {m : Nat} (h : Kin G w (.mk o s n l) p m) : l.length = m ∧ m ≤ 9223372036854775807 := ⟨(kin_iff.1 h).1, (kin_iff.1 h).2.1⟩
theorem Kin.zero {G : Nat → Prop} {w : World} {o : Int} {s : ByteArray} {n : Int} {p : Option Addr} : Kin G w (.mk o s n []) p 0 := kin_iff.2 ⟨rfl, by omega, .inl rfl⟩
/-- A part of an expression, if there is one. -/
theorem Kin.kids {G : Nat → Prop} {w : World} {o : Int} {s : ByteArray} {n : Int} {l : List Ex} {p : Option Addr} {m : Nat} (h : Kin G w (.mk o s n l) p m) (hm : 0 < m) : ∃ b o, p = some ⟨b, o, none⟩ ∧ G b ∧ b < w.heap.size ∧ Hid (∀ k, (h : k < l.length) → ∃ p m c, cell4 w b (o + k * 4) l[k] p m c ∧ Kin G w l[k] p m) := by
  rcases (kin_iff.1 h).2.2 with h | h
  · omega
  · exact h
/-- Names that the arguments can hold. -/
def Sz (e : Ex) : Prop := ∀ x ∈ pre e, x.s.size ≤ 140737488355328
theorem Sz.kid {o : Int} {s : ByteArray} {n : Int} {l : List Ex} (h : Sz (.mk o s n l)) {x : Ex} (hx : x ∈ l) : Sz x := fun y hy => h y (pre_kid hx hy)
theorem Sz.self {o : Int} {s : ByteArray} {n : Int} {l : List Ex} (h : Sz (.mk o s n l)) : s.size ≤ 140737488355328 := h _ (pre_self _)
theorem new4 {w : World} {x : Ex} {p : Option Addr} {m c : Nat} {t : TypeId} : cell4 (w.alloc (.cells #[.int .i64 x.o, .string x.s, .int .i64 x.n, .slice p m c] t)) w.heap.size 0 x p m c := by
  refine cell4_of fun r hr => ?_
  rw [World.cell?_alloc_mark, Nat.zero_add]
  match r, hr with
  | 0, _ => rfl
  | 1, _ => rfl
  | 2, _ => rfl
  | 3, _ => rfl
/-- An expression in a block of its own. -/
def box4 (w : World) (g : Nat) (o : Int) (s : ByteArray) (n : Int) (p : Option Addr) (m c : Nat) : Prop := w.cell? ⟨g, 0, none⟩ = some (.int .i64 o) ∧ w.cell? ⟨g, 1, none⟩ = some (.string s) ∧ w.cell? ⟨g, 2, none⟩ = some (.int .i64 n) ∧ w.cell? ⟨g, 3, none⟩ = some (.slice p m c)
theorem box4.lt {w : World} {g : Nat} {o : Int} {s : ByteArray} {n : Int} {p : Option Addr} {m c : Nat} (h : box4 w g o s n p m c) : g < w.heap.size := block_lt h.1
theorem box4.on {w w2 : World} {g : Nat} {o : Int} {s : ByteArray} {n : Int} {p : Option Addr} {m c : Nat} (hb : Below w.heap.size w w2) (h : box4 w g o s n p m c) : box4 w2 g o s n p m c := by
  have hg := h.lt
  obtain ⟨h0, h1, h2, h3⟩ := h
  exact ⟨(hb.cell (p := ⟨g, 0, none⟩) hg).trans h0, (hb.cell (p := ⟨g, 1, none⟩) hg).trans h1, (hb.cell (p := ⟨g, 2, none⟩) hg).trans h2, (hb.cell (p := ⟨g, 3, none⟩) hg).trans h3⟩
theorem box_new {w : World} {o : Int} {s : ByteArray} {n : Int} {p : Option Addr} {m c : Nat} {t : TypeId} : box4 (w.alloc (.cells #[.int .i64 o, .string s, .int .i64 n, .slice p m c] t)) w.heap.size o s n p m c := by
  have h := new4 (w := w) (x := .mk o s n []) (p := p) (m := m) (c := c) (t := t)
  obtain ⟨h0, h1, h2, h3⟩ := h
  simp only [Nat.zero_add] at h1 h2 h3
  exact ⟨h0, h1, h2, h3⟩
theorem box4.alloc {w : World} {g : Nat} {o : Int} {s : ByteArray} {n : Int} {p : Option Addr} {m c : Nat} (ob : Obj) (h : box4 w g o s n p m c) : box4 (w.alloc ob) g o s n p m c := h.on ((Below.refl _ _).alloc (Nat.le_refl _) ob)
theorem depth_one {o n : Int} {s : ByteArray} {l : List Ex} : dep (.mk o s n l) = depL l + 1 := by rw [dep]
theorem cnt_one {o n : Int} {s : ByteArray} {l : List Ex} : cnt (.mk o s n l) = cntL l + 1 := by rw [cnt]
theorem pre_one {o n : Int} {s : ByteArray} {l : List Ex} : pre (.mk o s n l) = .mk o s n l :: preL l := by rw [pre]
theorem dep_cap {l : List Ex} (k : Nat) {x : Ex} (hx : x ∈ l) (h : cntL l + 1 ≤ 1000000) : depL (l.take k) ≤ 1000000 ∧ dep x ≤ 1000000 := by
  have h1 := dep_le_cnt (.mk 0 ⟨#[]⟩ 0 l)
  have h2 := depL_le l k
  have h3 := dep_mem hx
  rw [depth_one, cnt_one] at h1
  omega
theorem dep_cap0 {l : List Ex} (h : cntL l + 1 ≤ 1000000) : depL l ≤ 1000000 := by
  have h1 := dep_le_cnt (.mk 0 ⟨#[]⟩ 0 l)
  rw [depth_one, cnt_one] at h1
  omega
theorem cnt_cap {l : List Ex} (k : Nat) {x : Ex} (hx : l[k]? = some x) (h : cntL l + 1 ≤ 1000000) : cntL (l.take k) + cnt x ≤ 1000000 ∧ cnt x ≤ 1000000 := by
  have h1 := cntL_take hx
  have h2 := cntL_le l (k + 1)
  omega
end Go.Proofs.YtonlmnlpofgccaaGreat.Ex
