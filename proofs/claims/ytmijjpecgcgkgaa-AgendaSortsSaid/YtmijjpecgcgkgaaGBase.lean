/-
  Words for worlds, events and lists of events in memory; the contracts of cmp.Compare, cmp.Or, compare, Less, and of the reference's Less.
-/
import Derived.Test.YtmijjpecgcgkgaaRows
import Derived.WalkSpells
import Derived.WalkLawsBesides
import Derived.Lib.Hide
import Derived.LoopTactic
import Derived.RegionTactic
import Derived.Deep.QuietTactic
import Derived.BigQuiet
import Derived.Outline
import Derived.Deep.DeepCutAuto
import Derived.Deep.CutBlock
import Derived.Deep.RegionHeld3
namespace Go.Proofs.Ytmijjpecgcgkgaa.Ag
open Go.RowKit
set_option maxHeartbeats 1000000
theorem ret_int {k : IntKind} {a b : Int} (h : a = b) : Ending.returned (.int k a) = .returned (.int k b) := by rw [h]
theorem ret_bool {a b : Bool} (h : a = b) : Ending.returned (.bool a) = .returned (.bool b) := by rw [h]
def Quiet (v : Value) (w : World) (e : Ending) (w' : World) : Prop := e = .returned v ∧ ∃ n, w' = w.drewN n
def Gives (v : Value) (w : World) (e : Ending) (w' : World) : Prop := e = .returned v ∧ Below w.heap.size w w'
theorem below_drewN {B : Nat} {a w : World} (h : Below B a w) (n : Nat) : Below B a (w.drewN n) := ⟨h.os, h.tape, h.output, h.size, h.block⟩
section
variable {a w w2 : World}
theorem bl_alloc {o : Obj} (h : Below a.heap.size a w) : Below a.heap.size a (w.alloc o) := h.alloc h.size o
theorem bl_drewN {n : Nat} (h : Below a.heap.size a w) : Below a.heap.size a (w.drewN n) := below_drewN h n
theorem bl_drew (h : Below a.heap.size a w) : Below a.heap.size a w.drew := h.drew
theorem bl_set {p : Addr} (h : Below a.heap.size a w) (hp : a.heap.size ≤ p.block) (u : Value) : Below a.heap.size a (w.setCell p u) := h.setCell hp u
theorem bl_call (h : Below a.heap.size a w) (hb : Below w.heap.size w w2) : Below a.heap.size a w2 := h.trans (hb.mono h.size)
theorem Quiet.gives {v : Value} {e : Ending} (h : Quiet v w e w2) : Gives v w e w2 := ⟨h.1, by obtain ⟨n, rfl⟩ := h.2; exact bl_drewN (Below.refl _ _)⟩
end
/-- A slice of ints whose cells lie below the world's top. -/
def Row (w : World) (p : Option Addr) (n : Nat) (V : Nat → Int) : Prop :=
  n ≤ 9223372036854775807 ∧ (n = 0 ∨ ∃ b o, p = some ⟨b, o, none⟩ ∧ b < w.heap.size ∧ Hid (∀ i, i < n → w.cell? ⟨b, o + i, none⟩ = some (.int .i64 (V i))))
theorem Row.on {w w2 : World} {p : Option Addr} {n : Nat} {V : Nat → Int} (hb : Below w.heap.size w w2) (h : Row w p n V) : Row w2 p n V := by
  obtain ⟨hl, h | ⟨b, o, rfl, h1, h2⟩⟩ := h
  · exact ⟨hl, .inl h⟩
  · exact ⟨hl, .inr ⟨b, o, rfl, Nat.lt_of_lt_of_le h1 hb.size, Lib.hid fun i hi => (hb.cell (p := ⟨b, o + i, none⟩) h1).trans (h2.out i hi)⟩⟩
theorem Row.alloc {w : World} {o : Obj} {p : Option Addr} {n : Nat} {V : Nat → Int} (h : Row w p n V) : Row (w.alloc o) p n V := h.on ((Below.refl _ _).alloc (Nat.le_refl _) o)
theorem Row.drew {w : World} {p : Option Addr} {n : Nat} {V : Nat → Int} (h : Row w p n V) : Row w.drew p n V := h
theorem Row.drewN {w : World} {p : Option Addr} {n : Nat} {V : Nat → Int} (h : Row w p n V) (m : Nat) : Row (w.drewN m) p n V := h
/-- An event as the walks know it: eight numbers, the slice of its arguments, and what the slice holds. -/
structure Ev where
  t : Int
  p : Int
  f : Int
  s : Int
  st : Int
  k : Int
  a : Int
  b : Int
  ap : Option Addr
  al : Nat
  ac : Nat
  V : Nat → Int
/-- A block that begins with the nine cells of an event. -/
def nine (w : World) (g : Nat) (x : Ev) : Prop := w.cell? ⟨g, 0, none⟩ = some (.int .i64 x.t) ∧ w.cell? ⟨g, 1, none⟩ = some (.int .i64 x.p) ∧ w.cell? ⟨g, 2, none⟩ = some (.int .i64 x.f) ∧ w.cell? ⟨g, 3, none⟩ = some (.int .i64 x.s) ∧ w.cell? ⟨g, 4, none⟩ = some (.int .i64 x.st) ∧ w.cell? ⟨g, 5, none⟩ = some (.int .i64 x.k) ∧ w.cell? ⟨g, 6, none⟩ = some (.int .i64 x.a) ∧ w.cell? ⟨g, 7, none⟩ = some (.int .i64 x.b) ∧ w.cell? ⟨g, 8, none⟩ = some (.slice x.ap x.al x.ac) ∧ g < w.heap.size
section
variable {w w2 : World} {g : Nat} {x : Ev}
theorem nine.on (hb : Below w.heap.size w w2) (h : nine w g x) : nine w2 g x := by
  obtain ⟨h0, h1, h2, h3, h4, h5, h6, h7, h8, h9⟩ := h
  exact ⟨(hb.cell (p := ⟨g, 0, none⟩) h9).trans h0, (hb.cell (p := ⟨g, 1, none⟩) h9).trans h1, (hb.cell (p := ⟨g, 2, none⟩) h9).trans h2, (hb.cell (p := ⟨g, 3, none⟩) h9).trans h3, (hb.cell (p := ⟨g, 4, none⟩) h9).trans h4,
    (hb.cell (p := ⟨g, 5, none⟩) h9).trans h5, (hb.cell (p := ⟨g, 6, none⟩) h9).trans h6, (hb.cell (p := ⟨g, 7, none⟩) h9).trans h7, (hb.cell (p := ⟨g, 8, none⟩) h9).trans h8, Nat.lt_of_lt_of_le h9 hb.size⟩
theorem nine.alloc {o : Obj} (h : nine w g x) : nine (w.alloc o) g x := h.on ((Below.refl _ _).alloc (Nat.le_refl _) o)
theorem nine.drew (h : nine w g x) : nine w.drew g x := h
theorem nine.drewN (h : nine w g x) (n : Nat) : nine (w.drewN n) g x := h
theorem nine.new : nine (w.alloc (.cells #[.int .i64 x.t, .int .i64 x.p, .int .i64 x.f, .int .i64 x.s, .int .i64 x.st, .int .i64 x.k, .int .i64 x.a, .int .i64 x.b, .slice x.ap x.al x.ac] 25)) w.heap.size x := by
  refine ⟨?_, ?_, ?_, ?_, ?_, ?_, ?_, ?_, ?_, ?_⟩ <;> first | (go_simp; done) | (simp; done) | (simp; omega)
end
def cmp1 (a b : Int) : Int := if a < b then -1 else if b < a then 1 else 0
theorem compare_any (a b : Int) (w : World) : Calls Try.prog 43 #[.int .i64 a, .int .i64 b] w fun e w' => e = .returned (.int .i64 (cmp1 a b)) ∧ w = w' := by
  have hx : a < b ∨ b < a ∨ a = b := by omega
  rcases hx with h | h | h
  · have h2 : ¬ b < a := by omega
    go_enter Try.func43, Try.ntmps43
    go_wp2
    go_ret
    exact ⟨ret_int (by unfold cmp1; rw [if_pos h]), rfl⟩
  · have h2 : ¬ a < b := by omega
    go_enter Try.func43, Try.ntmps43
    go_wp2
    go_ret
    exact ⟨ret_int (by unfold cmp1; rw [if_neg (by omega), if_pos h]), rfl⟩
  · subst h
    go_enter Try.func43, Try.ntmps43
    go_wp2
    go_ret
    exact ⟨ret_int (by unfold cmp1; rw [if_neg (Int.lt_irrefl _), if_neg (Int.lt_irrefl _)]), rfl⟩
/-- The first number that is not zero. -/
def orF (V : Nat → Int) : Nat → Int
  | 0 => 0
  | k + 1 => if orF V k = 0 then V k else orF V k
theorem orF_stay {V : Nat → Int} {k n : Nat} (h : orF V k ≠ 0) (hk : k ≤ n) : orF V n = orF V k := by
  induction n with
  | zero => obtain rfl : k = 0 := by omega
            rfl
  | succ m ih =>
    by_cases e : k = m + 1
    · subst e; rfl
    · have := ih (by omega)
      show (if orF V m = 0 then V m else orF V m) = _
      rw [if_neg (by rw [this]; exact h), this]
theorem orF_next {V : Nat → Int} {k : Nat} (h : orF V k = 0) : orF V (k + 1) = V k := by show (if orF V k = 0 then V k else orF V k) = _; rw [if_pos h]
theorem orF_hit {V : Nat → Int} {k n : Nat} (h : orF V k = 0) (h2 : V k ≠ 0) (hk : k < n) : V k = orF V n := by
  have h3 := orF_next h
  rw [← h3]
  exact (orF_stay (by rw [h3]; exact h2) hk).symm
theorem or_any (b o n c : Nat) (V : Nat → Int) (w : World) (hn : n ≤ 9223372036854775807) (hc : Hid (∀ i, i < n → w.cell? ⟨b, o + i, none⟩ = some (.int .i64 (V i)))) : Calls Try.prog 42 #[.slice (some ⟨b, o, none⟩) n c] w fun e w' => e = .returned (.int .i64 (orF V n)) ∧ w = w' := by
  go_enter Try.func42, Try.ntmps42
  go_wp2_with fail
  go_loop [8] (fun i => ∃ k : Nat, k ≤ n ∧ i = .int .i64 k ∧ Hid (orF V k = 0)) (fun i => n - (intOf i).toNat)
  case atStart => exact ⟨0, Nat.zero_le _, rfl, Lib.hid rfl⟩
  case round =>
    obtain ⟨k, hk, rfl, HA⟩ := hrel
    rcases Nat.lt_or_ge k n with h | h
    · have e1 := hc.out k h
      have c1 : (0 : Int) ≤ (k : Int) := by omega
      have c2 : (k : Int) < (n : Int) := by omega
      by_cases hz : V k = 0
      · have hz2 : (V k != 0) = false := by rw [hz]; rfl
        have H := Lib.hid hz
        clear hz
        go_wp2_with fail
        go_round
        case rel => exact ⟨k + 1, by omega, by go_num, Lib.hid ((orF_next HA.out).trans H.out)⟩
        case measure => simp [intOf]; omega
      · have hz2 : (V k != 0) = true := by rw [bne_iff_ne]; exact hz
        have H := Lib.hid hz
        clear hz
        go_wp2_with fail
        go_ret
        exact ⟨ret_int (orF_hit HA.out H.out h), rfl⟩
    · obtain rfl : n = k := by omega
      go_wp2_with fail
      go_ret
      exact ⟨ret_int HA.out.symm, rfl⟩
def cmpV (x y : Ev) (i : Nat) : Int := match i with
  | 0 => cmp1 x.t y.t
  | 1 => cmp1 x.p y.p
  | 2 => cmp1 x.f y.f
  | _ => cmp1 x.s y.s
def cmpI (x y : Ev) : Int := orF (cmpV x y) 4
def ltB (x y : Ev) : Bool := decide (cmpI x y < 0)
theorem cmp4 {x y : Ev} {w : World} {t : TypeId} : Hid (∀ i, i < 4 → (w.alloc (.cells #[.int .i64 (cmp1 x.t y.t), .int .i64 (cmp1 x.p y.p), .int .i64 (cmp1 x.f y.f), .int .i64 (cmp1 x.s y.s)] t)).cell? ⟨w.heap.size, 0 + i, none⟩ = some (.int .i64 (cmpV x y i))) := by
  refine Lib.hid fun i hi => ?_
  have h : i = 0 ∨ i = 1 ∨ i = 2 ∨ i = 3 := by omega
  rcases h with rfl | rfl | rfl | rfl <;> (simp [cmpV])
end Go.Proofs.Ytmijjpecgcgkgaa.Ag
