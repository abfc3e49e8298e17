/-
  The contracts of package frac's small functions: magnitude, negative, gcd, fraction, Valid.
-/
import Derived.Test.YtnfddeoddjmpkabDoorMath
import Derived.WalkSpells
import Derived.Lib.Hide
import Derived.WalkLawsBesides
import Derived.LoopTactic
import Derived.RegionTactic
import Derived.Deep.QuietTactic
import Derived.BigQuiet
import Derived.Outline
import Derived.Deep.DeepCutAuto
import Derived.Deep.CutBlock
import Derived.Deep.RegionHeld3
namespace Go.Proofs.YtnfddeoddjmpkabDoor
open Go.RowKit
set_option maxHeartbeats 400000
theorem ret_int {k : IntKind} {a b : Int} (h : a = b) : Ending.returned (.int k a) = .returned (.int k b) := by rw [h]
theorem ret_bool {a b : Bool} (h : a = b) : Ending.returned (.bool a) = .returned (.bool b) := by rw [h]
def absN (n : Int) : Nat := n.natAbs
theorem absN_le {n : Int} (h0 : -9223372036854775808 ≤ n) (h1 : n ≤ 9223372036854775807) : absN n ≤ 9223372036854775808 := by unfold absN; omega
theorem magnitude_any (n : Int) (h0 : -9223372036854775808 ≤ n) (h1 : n ≤ 9223372036854775807) (w : World) : Calls Tryd.prog 22 #[.int .i64 n] w fun e w' => e = .returned (.int .u64 (absN n : Nat)) ∧ w = w' := by
  unfold absN
  rcases Int.lt_or_le n 0 with h | h
  · go_enter Tryd.func22, Tryd.ntmps22
    go_wp2
    go_ret
    exact ⟨ret_int (by rw [IntKind.wrap_u64, IntKind.wrap_u64]; omega), rfl⟩
  · go_enter Tryd.func22, Tryd.ntmps22
    go_wp2
    go_ret
    exact ⟨ret_int (by omega), rfl⟩
def negB (a b : Int) : Bool := decide (a < 0) != decide (b < 0)
theorem negative_any (a b : Int) (w : World) : Calls Tryd.prog 39 #[.int .i64 a, .int .i64 b] w fun e w' => e = .returned (.bool (negB a b)) ∧ w = w' := by
  unfold negB
  go_enter Tryd.func39, Tryd.ntmps39
  go_wp2
  go_ret
  exact ⟨rfl, rfl⟩
def Quiet (v : Value) (w : World) (e : Ending) (w' : World) : Prop := e = .returned v ∧ ∃ n, w' = w.drewN n
theorem gcd_any (a b : Nat) (ha : a < 18446744073709551616) (hb : b < 18446744073709551616) (w : World) : Calls Tryd.prog 21 #[.int .u64 a, .int .u64 b] w (Quiet (.int .u64 (Nat.gcd a b : Nat)) w) := by
  go_enter Tryd.func21, Tryd.ntmps21
  go_wp2
  go_loopw [0, 1] (fun u v wr => ∃ p q : Nat, p < 18446744073709551616 ∧ q < 18446744073709551616 ∧ u = .int .u64 p ∧ v = .int .u64 q ∧ Nat.gcd p q = Nat.gcd a b ∧ ∃ n, wr = w.drewN n) (fun _ v _ => (intOf v).toNat)
  case atStart => exact ⟨a, b, ha, hb, rfl, rfl, rfl, 0, rfl⟩
  case round =>
    obtain ⟨p, q, hp, hq, rfl, rfl, hg, nn, rfl⟩ := hrel
    have HG := Lib.hid hg
    clear hg
    by_cases hz : q = 0
    · subst hz
      go_wp2
      go_ret
      exact ⟨ret_int (by rw [← HG.out, Nat.gcd_zero_right]), _, rfl⟩
    · have hq2 : 1 ≤ q := by omega
      have r1 : p % q < q := Nat.mod_lt p (by omega)
      have e1 : ((q : Int) != 0) = true := by rw [bne_iff_ne]; omega
      have e2 : (p : Int) % (q : Int) = ((p % q : Nat) : Int) := (Int.natCast_emod p q).symm
      go_wp2
      go_quiet (fail)
      go_roundw
      case rel =>
        (repeat apply Exists.intro); exact ⟨⟨q, p % q, hq, by omega, rfl, rfl, (gcd_turn p q).trans HG.out, _, World.drewN_drewN _ _ _⟩, rfl⟩
      case measure => simp [intOf]; omega
theorem cut_yes {n : Int} {d : Nat} (h : n.natAbs ≤ 4611686018427387904 ∧ d ≤ 1000000000000000) : cut n d = some (n, (d : Int)) := by unfold cut; rw [if_pos h]
theorem cut_no {n : Int} {d : Nat} (h : ¬ (n.natAbs ≤ 4611686018427387904 ∧ d ≤ 1000000000000000)) : cut n d = none := by unfold cut; rw [if_neg h]
def Gives (v : Value) (w : World) (e : Ending) (w' : World) : Prop := e = .returned v ∧ Below w.heap.size w w'
theorem fraction_any (m : Bool) (t b : Nat) (ht : t < 18446744073709551616) (hb : b < 18446744073709551616) (w : World) :
    Calls Tryd.prog 29 #[.bool m, .int .u64 t, .int .u64 b] w (Gives (.tuple #[.agg #[.int .i64 (oN (cut (sg m t) b)), .int .i64 (oD (cut (sg m t) b))], .bool (oB (cut (sg m t) b))]) w) := by
  by_cases h1 : 4611686018427387904 < t
  · rw [cut_no (by rw [sg_natAbs]; omega)]
    go_enter Tryd.func29, Tryd.ntmps29
    go_wp2
    exact bodyPost_ret (v := .tuple #[.agg #[.int .i64 (oN (none)), .int .i64 (oD (none))], .bool (oB (none))]) (by simp [results, Tryd.results29, go_sem, oN, oD, oB]) rfl ⟨rfl, (Below.refl _ _).alloc (Nat.le_refl _) _⟩
  · by_cases h2 : 1000000000000000 < b
    · rw [cut_no (by omega)]
      go_enter Tryd.func29, Tryd.ntmps29
      go_wp2
      exact bodyPost_ret (v := .tuple #[.agg #[.int .i64 (oN (none)), .int .i64 (oD (none))], .bool (oB (none))]) (by simp [results, Tryd.results29, go_sem, oN, oD, oB]) rfl ⟨rfl, (Below.refl _ _).alloc (Nat.le_refl _) _⟩
    · rw [cut_yes (by rw [sg_natAbs]; omega)]
      cases m
      · go_enter Tryd.func29, Tryd.ntmps29
        go_wp2
        exact bodyPost_ret (v := .tuple #[.agg #[.int .i64 t, .int .i64 b], .bool true]) (by simp [results, Tryd.results29, go_sem]) rfl ⟨rfl, (Below.refl _ _).alloc (Nat.le_refl _) _⟩
      · go_enter Tryd.func29, Tryd.ntmps29
        go_wp2
        exact bodyPost_ret (v := .tuple #[.agg #[.int .i64 (-(t : Int)), .int .i64 b], .bool true]) (by simp [results, Tryd.results29, go_sem]) rfl ⟨rfl, (Below.refl _ _).alloc (Nat.le_refl _) _⟩
section
variable {P : Program} {f : FuncId} {args : Array Value} {w : World} {a n : Nat} {v : Value}
theorem quiet_left (h : Calls P f args (w.drewN n) fun e w' => e = .returned v ∧ w.drewN n = w') : Calls P f args (w.drewN n) fun e w'' => e = .returned v ∧ ∃ m, w'' = w.drewN m :=
  h.mono fun _ _ ⟨he, hm⟩ => ⟨he, n, hm.symm⟩
theorem quiet_add_left (h : Calls P f args (w.drewN (a + n)) fun e w' => e = .returned v ∧ w.drewN (a + n) = w') : Calls P f args (w.drewN (a + n)) fun e w'' => e = .returned v ∧ ∃ m, w'' = w.drewN (a + m) :=
  h.mono fun _ _ ⟨he, hm⟩ => ⟨he, n, hm.symm⟩
theorem quiet_sum (h : Calls P f args (w.drewN n) (Quiet v (w.drewN n))) : Calls P f args (w.drewN n) fun e w'' => e = .returned v ∧ ∃ m, w'' = w.drewN m :=
  h.mono fun _ _ ⟨he, m, hm⟩ => ⟨he, n + m, by rw [hm, World.drewN_drewN]⟩
theorem quiet_add_sum (h : Calls P f args (w.drewN (a + n)) (Quiet v (w.drewN (a + n)))) : Calls P f args (w.drewN (a + n)) fun e w'' => e = .returned v ∧ ∃ m, w'' = w.drewN (a + m) :=
  h.mono fun _ _ ⟨he, m, hm⟩ => ⟨he, n + m, by rw [hm, World.drewN_drewN, Nat.add_assoc]⟩
end
theorem below_drewN {B : Nat} {a w : World} (h : Below B a w) (n : Nat) : Below B a (w.drewN n) := ⟨h.os, h.tape, h.output, h.size, h.block⟩
section
variable {a w w2 : World}
theorem bl_alloc {o : Obj} (h : Below a.heap.size a w) : Below a.heap.size a (w.alloc o) := h.alloc h.size o
theorem bl_drewN {n : Nat} (h : Below a.heap.size a w) : Below a.heap.size a (w.drewN n) := below_drewN h n
theorem bl_drew (h : Below a.heap.size a w) : Below a.heap.size a w.drew := h.drew
theorem bl_set {p : Addr} (h : Below a.heap.size a w) (hp : a.heap.size ≤ p.block) (u : Value) : Below a.heap.size a (w.setCell p u) := h.setCell hp u
theorem bl_call (h : Below a.heap.size a w) (hb : Below w.heap.size w w2) : Below a.heap.size a w2 := h.trans (hb.mono h.size)
theorem bcell {W w1 : World} (hb : Below W.heap.size W w1) : (∀ b o, b < W.heap.size → w1.cell? ⟨b, o, none⟩ = W.cell? ⟨b, o, none⟩) ∧ (∀ b o, b < W.heap.size → w1.frozen? ⟨b, o, none⟩ = W.frozen? ⟨b, o, none⟩) :=
  ⟨fun b o h => hb.cell (p := ⟨b, o, none⟩) h, fun b o h => hb.frozen (p := ⟨b, o, none⟩) h⟩
end
/-- A block of two cells that may be written. -/
def two (w : World) (b : Nat) (x y : Value) : Prop := w.cell? ⟨b, 0, none⟩ = some x ∧ w.cell? ⟨b, 1, none⟩ = some y ∧ w.frozen? ⟨b, 0, none⟩ = false ∧ w.frozen? ⟨b, 1, none⟩ = false ∧ b < w.heap.size
theorem two.call {w w2 : World} {b : Nat} {x y : Value} (h : two w b x y) (hb : Below w.heap.size w w2) : two w2 b x y := by
  obtain ⟨h1, h2, h3, h4, h5⟩ := h
  exact ⟨(hb.cell (p := ⟨b, 0, none⟩) h5).trans h1, (hb.cell (p := ⟨b, 1, none⟩) h5).trans h2, (hb.frozen (p := ⟨b, 0, none⟩) h5).trans h3, (hb.frozen (p := ⟨b, 1, none⟩) h5).trans h4, Nat.lt_of_lt_of_le h5 hb.size⟩
theorem two.on {w w2 : World} {b : Nat} {x y : Value} (hb : Below w.heap.size w w2) (h : two w b x y) : two w2 b x y := h.call hb
theorem two.drew {w : World} {b : Nat} {x y : Value} (h : two w b x y) : two w.drew b x y := h
theorem two.drewN {w : World} {b : Nat} {x y : Value} (h : two w b x y) (n : Nat) : two (w.drewN n) b x y := h
theorem two.alloc {w : World} {b : Nat} {x y : Value} {o : Obj} (h : two w b x y) : two (w.alloc o) b x y := h.call ((Below.refl _ _).alloc (Nat.le_refl _) o)
theorem keep_alloc {w : World} {b o : Nat} {v : Value} {x : Obj} (h : w.cell? ⟨b, o, none⟩ = some v) (hb : b < w.heap.size) : (w.alloc x).cell? ⟨b, o, none⟩ = some v :=
  (World.cell?_alloc_lt w x ⟨b, o, none⟩ hb).trans h
theorem two.new {w : World} {x y : Value} {t : TypeId} : two (w.alloc (.cells #[x, y] t)) w.heap.size x y := by
  refine ⟨?_, ?_, ?_, ?_, ?_⟩ <;> first | (go_simp; done) | (simp; done) | (simp; omega)
theorem far2 {w : World} {g b o : Nat} {x y v : Value} (h : w.cell? ⟨b, o, none⟩ = some v) (hne : b ≠ g) : ((w.setCell ⟨g, 0, none⟩ x).setCell ⟨g, 1, none⟩ y).cell? ⟨b, o, none⟩ = some v := by
  rw [World.cell?_setCell_other _ _ _ _ (fun e => hne (by injection e with e; first | exact e | exact e.symm)), World.cell?_setCell_other _ _ _ _ (fun e => hne (by injection e with e; first | exact e | exact e.symm))]
  exact h
theorem two.far {w : World} {g b : Nat} {x y u v : Value} (h : two w b u v) (hne : b ≠ g) : two ((w.setCell ⟨g, 0, none⟩ x).setCell ⟨g, 1, none⟩ y) b u v := by
  obtain ⟨h1, h2, h3, h4, h5⟩ := h
  refine ⟨far2 h1 hne, far2 h2 hne, ?_, ?_, by simp [World.setCell]; exact h5⟩
  · go_simp
  · go_simp
theorem two.set2 {w : World} {g : Nat} {x y u v : Value} (h : two w g u v) : two ((w.setCell ⟨g, 0, none⟩ x).setCell ⟨g, 1, none⟩ y) g x y := by
  obtain ⟨h1, h2, h3, h4, h5⟩ := h
  refine ⟨?_, ?_, ?_, ?_, by simp [World.setCell]; exact h5⟩
  · go_simp
  · go_simp
  · go_simp
  · go_simp
def inR (n d : Int) : Prop := 1 ≤ d ∧ d ≤ 1000000000000000 ∧ -4611686018427387904 ≤ n ∧ n ≤ 4611686018427387904
theorem okF_out {n d : Int} (h : ¬ inR n d) : okF n d = false := by
  cases e : okF n d
  · rfl
  · have := okF_true e; exact absurd ⟨this.1, this.2.1, this.2.2.1, this.2.2.2.1⟩ h
theorem okF_in {n d : Int} (h : inR n d) : okF n d = (((Nat.gcd (absN n) (absN d) : Nat) : Int) == 1) := by
  unfold okF absN
  obtain ⟨h1, h2, h3, h4⟩ := h
  rw [Bool.eq_iff_iff, decide_eq_true_eq, beq_iff_eq]
  constructor
  · intro e; omega
  · intro e; exact ⟨h1, h2, h3, h4, by omega⟩
theorem valid_any (n d : Int) (n0 : -9223372036854775808 ≤ n) (n1 : n ≤ 9223372036854775807) (d0 : -9223372036854775808 ≤ d) (d1 : d ≤ 9223372036854775807) (w : World) :
    Calls Tryd.prog 18 #[.agg #[.int .i64 n, .int .i64 d]] w (Gives (.bool (okF n d)) w) := by
  have k1 := absN_le n0 n1
  have k2 := absN_le d0 d1
  have hx : (d < 1 ∨ 1 ≤ d ∧ 1000000000000000 < d ∨ 1 ≤ d ∧ d ≤ 1000000000000000 ∧ n < -4611686018427387904 ∨ 1 ≤ d ∧ d ≤ 1000000000000000 ∧ -4611686018427387904 ≤ n ∧ 4611686018427387904 < n) ∨ 1 ≤ d ∧ d ≤ 1000000000000000 ∧ -4611686018427387904 ≤ n ∧ n ≤ 4611686018427387904 := by omega
  rcases hx with hx | ⟨x1, x2, x3, x4⟩
  · rw [okF_out (by unfold inR; omega)]
    rcases hx with x1 | ⟨x1, x2⟩ | ⟨x1, x2, x3⟩ | ⟨x1, x2, x3, x4⟩
    all_goals
      go_enter Tryd.func18, Tryd.ntmps18
      go_wp2
      go_ret
      exact ⟨rfl, (Below.refl _ _).alloc (Nat.le_refl _) _⟩
  · rw [okF_in ⟨x1, x2, x3, x4⟩]
    go_enter Tryd.func18, Tryd.ntmps18
    go_wp2
    go_quiet ((first | (go_at_call 22; exact quiet_left (magnitude_any _ (by omega) (by omega) _)) | (go_at_call 21; exact quiet_sum (gcd_any _ _ (by omega) (by omega) _))))
    go_wp2
    go_ret
    exact ⟨rfl, below_drewN ((Below.refl _ _).alloc (Nat.le_refl _) _) _⟩
end Go.Proofs.YtnfddeoddjmpkabDoor
