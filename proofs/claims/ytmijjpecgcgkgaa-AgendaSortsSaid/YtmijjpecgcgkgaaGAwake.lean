/-
  The chapter's examples, call by call.
-/
import Derived.Test.YtmijjpecgcgkgaaGMath
namespace Go.Proofs.Ytmijjpecgcgkgaa.Ag
open Go.RowKit
set_option maxHeartbeats 4000000
def evA : Ev := ⟨5, 1, 0, 9, 0, 2, 0, 0, none, 0, 0, fun _ => 0⟩
def evB : Ev := ⟨5, 1, 1, 2, 0, 2, 0, 0, none, 0, 0, fun _ => 0⟩
def pr (x y : Ev) (i : Nat) : Ev := if i = 0 then x else y
theorem ok_at {w : World} {x : Ev} (h : x.al = 0) : ok w x := ⟨by omega, .inl h⟩
theorem two_evs {w : World} {x y : Ev} {ty : TypeId} (hx : x.al = 0) (hy : y.al = 0) : Evs (w.alloc (.cells #[.int .i64 x.t, .int .i64 x.p, .int .i64 x.f, .int .i64 x.s, .int .i64 x.st, .int .i64 x.k, .int .i64 x.a, .int .i64 x.b, .slice x.ap x.al x.ac, .int .i64 y.t, .int .i64 y.p, .int .i64 y.f, .int .i64 y.s, .int .i64 y.st, .int .i64 y.k, .int .i64 y.a, .int .i64 y.b, .slice y.ap y.al y.ac] ty)) (some ⟨w.heap.size, 0, none⟩) 2 (pr x y) := by
  refine ⟨by omega, .inr ⟨w.heap.size, 0, rfl, by simp, Lib.hid fun i hi => ?_⟩⟩
  have h : i = 0 ∨ i = 1 := by omega
  rcases h with rfl | rfl
  · exact ⟨⟨by simp [pr], by simp [pr], by simp [pr], by simp [pr], by simp [pr], by simp [pr], by simp [pr], by simp [pr], by simp [pr]⟩, ok_at hx⟩
  · exact ⟨⟨by simp [pr], by simp [pr], by simp [pr], by simp [pr], by simp [pr], by simp [pr], by simp [pr], by simp [pr], by simp [pr]⟩, ok_at hy⟩
def L1 : Nat → Ev := pr (atEv 1 0 7) (atEv 9 1 7)
def L2 : Nat → Ev := pr (atEv 3 0 7) (atEv 8 1 7)
def L3 : Nat → Ev := pr (atEv 2 0 0) (atEv 1 1 0)
theorem L1_good : Good L1 2 := chkE_zero.1 (by decide +kernel)
theorem L2_good : Good L2 2 := chkE_zero.1 (by decide +kernel)
theorem x1_ev : evE (atEv 4 2 8) = 0 := by decide +kernel
theorem x1_fnd : fnd L1 (atEv 4 2 8) 2 = false := by decide +kernel
theorem x1_cnt : cnt L1 (atEv 4 2 8) 2 = 1 := by decide +kernel
theorem x1_put : putE L1 2 (atEv 4 2 8) = 0 := by decide +kernel
def PutAw (w : World) (e : Ending) (w' : World) : Prop := ∃ p c F, e = .returned (.tuple #[.slice p 3 c, .int .i64 0]) ∧ WL p 3 c ∧ Evs w' p 3 F ∧ Good F 3 ∧ ((F 0).t = 1 ∧ (F 1).t = 4 ∧ (F 2).t = 9) ∧ Below w.heap.size w w'
theorem aw_put (w : World) (g : Nat) (hE : Evs w (some ⟨g, 0, none⟩) 2 L1) : Calls Try.prog 18 #[.slice (some ⟨g, 0, none⟩) 2 2, .agg #[.int .i64 4, .int .i64 1, .int .i64 0, .int .i64 2, .int .i64 0, .int .i64 2, .int .i64 8, .int .i64 0, .slice none 0 0]] w (PutAw w) := by
  have h := put_any (some ⟨g, 0, none⟩) 2 2 L1 (atEv 4 2 8) w hE ⟨Nat.le_refl _, .inr ⟨g, 0, rfl⟩⟩ (ok_at rfl)
  unfold putN at h
  rw [x1_put, if_pos rfl, x1_cnt] at h
  refine h.mono fun e w' ⟨p, c, F, h1, h2, h3, h4, h5⟩ => ⟨p, c, F, h1, h2, h3, ?_, ?_, h5⟩
  · have := ins_good (x := atEv 4 2 8) L1_good x1_ev x1_fnd (by decide)
    rw [x1_cnt] at this
    exact this.congr h4
  · exact ⟨(h4 0 (by omega)).1, (h4 1 (by omega)).1, (h4 2 (by omega)).1⟩
def NextAw (w : World) (e : Ending) (w' : World) : Prop := ∃ (y : Ev) (q : Option Addr) (d : Nat) (F : Nat → Ev), e = .returned (.tuple #[.agg #[.int .i64 y.t, .int .i64 y.p, .int .i64 y.f, .int .i64 y.s, .int .i64 y.st, .int .i64 y.k, .int .i64 y.a, .int .i64 y.b, .slice y.ap y.al y.ac], .slice q 2 d, .bool true]) ∧ y.t = 1 ∧ Evs w' q 2 F ∧ (F 0).t = 4 ∧ Below w.heap.size w w'
theorem aw_next (w : World) (p : Option Addr) (c : Nat) (F : Nat → Ev) (hW : WL p 3 c) (hE : Evs w p 3 F) (hG : Good F 3) (h0 : (F 0).t = 1) (h1 : (F 1).t = 4) : Calls Try.prog 21 #[.slice p 3 c] w (NextAw w) :=
  (next_good p 3 c F w hE hW (by omega) hG).mono fun e w' ⟨y, q, d, F2, g1, g2, _, _, g5, g6, g7⟩ => ⟨y, q, d, F2, g1, g2.1.trans h0, g5, (g6 0 (by omega)).1.trans h1, g7⟩
def DropAw (w : World) (e : Ending) (w' : World) : Prop := ∃ (y : Ev) (q : Option Addr) (d : Nat), e = .returned (.tuple #[.slice q 1 d, .agg #[.int .i64 y.t, .int .i64 y.p, .int .i64 y.f, .int .i64 y.s, .int .i64 y.st, .int .i64 y.k, .int .i64 y.a, .int .i64 y.b, .slice y.ap y.al y.ac], .bool true]) ∧ y.t = 3 ∧ Below w.heap.size w w'
theorem aw_drop (w : World) (g : Nat) (hE : Evs w (some ⟨g, 0, none⟩) 2 L2) : Calls Try.prog 25 #[.slice (some ⟨g, 0, none⟩) 2 2, .int .i64 7] w (DropAw w) :=
  (drop_good (some ⟨g, 0, none⟩) 2 2 L2 7 0 w hE ⟨Nat.le_refl _, .inr ⟨g, 0, rfl⟩⟩ L2_good (by decide +kernel)).mono fun e w' ⟨y, q, d, F2, g1, g2, _, _, _, _, g7⟩ => ⟨y, q, d, g1, g2.1, g7⟩
def UptoAw (w : World) (e : Ending) (w' : World) : Prop := ∃ q d, e = .returned (.slice q 2 d) ∧ Below w.heap.size w w'
theorem aw_upto (w : World) (p : Option Addr) (c : Nat) (F : Nat → Ev) (hW : WL p 3 c) (hE : Evs w p 3 F) (hG : Good F 3) (h0 : (F 0).t = 1) (h1 : (F 1).t = 4) (h2 : (F 2).t = 9) : Calls Try.prog 23 #[.slice p 3 c, .int .i64 4] w (UptoAw w) := by
  have h := upto_yes p 3 c F 4 w hE hW hG
  have e : upn F 4 3 = 2 := upn_eq (by omega) (fun q hq => by
    have : q = 0 ∨ q = 1 := by omega
    rcases this with rfl | rfl
    · rw [h0]; decide
    · rw [h1]; decide) (fun _ => by rw [h2]; decide)
  rw [e] at h
  exact h.mono fun e w' ⟨q, d, F2, g1, _, _, _, g5, _⟩ => ⟨q, d, g1, g5⟩
theorem aw_check (w : World) (g : Nat) (hE : Evs w (some ⟨g, 0, none⟩) 2 L3) : Calls Try.prog 16 #[.slice (some ⟨g, 0, none⟩) 2 2] w (Gives (.int .i64 12) w) := by
  have h := check_any (some ⟨g, 0, none⟩) 2 2 L3 w hE
  rwa [show chkE L3 2 = 12 by decide +kernel] at h
theorem aw_event (w : World) : Calls Try.prog 14 #[.agg #[.int .i64 0, .int .i64 0, .int .i64 0, .int .i64 0, .int .i64 0, .int .i64 0, .int .i64 0, .int .i64 0, .slice none 0 0]] w (Gives (.int .i64 1) w) := by
  have h := event_any zeroEv w (ok_at rfl)
  rwa [show evE zeroEv = 1 by decide +kernel] at h
theorem aw_less1 (w : World) : Calls Try.prog 9 #[.agg #[.int .i64 evA.t, .int .i64 evA.p, .int .i64 evA.f, .int .i64 evA.s, .int .i64 evA.st, .int .i64 evA.k, .int .i64 evA.a, .int .i64 evA.b, .slice evA.ap evA.al evA.ac], .agg #[.int .i64 evB.t, .int .i64 evB.p, .int .i64 evB.f, .int .i64 evB.s, .int .i64 evB.st, .int .i64 evB.k, .int .i64 evB.a, .int .i64 evB.b, .slice evB.ap evB.al evB.ac]] w (Gives (.bool true) w) := by
  have h := less_any evA evB w
  rwa [show ltB evA evB = true by decide +kernel] at h
theorem aw_less2 (w : World) : Calls Try.prog 9 #[.agg #[.int .i64 evB.t, .int .i64 evB.p, .int .i64 evB.f, .int .i64 evB.s, .int .i64 evB.st, .int .i64 evB.k, .int .i64 evB.a, .int .i64 evB.b, .slice evB.ap evB.al evB.ac], .agg #[.int .i64 evA.t, .int .i64 evA.p, .int .i64 evA.f, .int .i64 evA.s, .int .i64 evA.st, .int .i64 evA.k, .int .i64 evA.a, .int .i64 evA.b, .slice evA.ap evA.al evA.ac]] w (Gives (.bool false) w) := by
  have h := less_any evB evA w
  rwa [show ltB evB evA = false by decide +kernel] at h
theorem aw_same (w : World) : Calls Try.prog 11 #[.agg #[.int .i64 evA.t, .int .i64 evA.p, .int .i64 evA.f, .int .i64 evA.s, .int .i64 evA.st, .int .i64 evA.k, .int .i64 evA.a, .int .i64 evA.b, .slice evA.ap evA.al evA.ac], .agg #[.int .i64 evA.t, .int .i64 evA.p, .int .i64 evA.f, .int .i64 evA.s, .int .i64 evA.st, .int .i64 evA.k, .int .i64 evA.a, .int .i64 evA.b, .slice evA.ap evA.al evA.ac]] w (Gives (.bool true) w) := by
  have h := same_any evA evA w (ok_at rfl) (ok_at rfl)
  rwa [show sameB evA evA = true by decide +kernel] at h
end Go.Proofs.Ytmijjpecgcgkgaa.Ag
