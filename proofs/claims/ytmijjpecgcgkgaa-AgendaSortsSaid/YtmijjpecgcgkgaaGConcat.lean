/-
  The contract of slices.Concat on lists of events.
-/
import Derived.Test.YtmijjpecgcgkgaaGRows
namespace Go.Proofs.Ytmijjpecgcgkgaa.Ag
open Go.RowKit
set_option maxHeartbeats 4000000
def catN (pn : Nat → Nat) : Nat → Nat
  | 0 => 0
  | j + 1 => catN pn j + pn j
def catE (pn : Nat → Nat) (pE : Nat → Nat → Ev) : Nat → Nat → Ev
  | 0 => fun _ => zeroEv
  | j + 1 => glue (catE pn pE j) (catN pn j) (pE j)
theorem catN_mono {pn : Nat → Nat} {j k : Nat} (h : j ≤ k) : catN pn j ≤ catN pn k := by
  induction k with
  | zero => obtain rfl : j = 0 := by omega
            exact Nat.le_refl _
  | succ m ih =>
    by_cases e : j = m + 1
    · subst e; exact Nat.le_refl _
    · exact Nat.le_trans (ih (by omega)) (Nat.le_add_right _ _)
/-- A row of the call's own with these events. -/
def Made (w : World) (n : Nat) (E : Nat → Ev) (e : Ending) (w' : World) : Prop := ∃ v, e = .returned v ∧ w'.ownsRow w.heap.size 25 9 v n (flat E n) ∧ Below w.heap.size w w'
theorem Made.mk {w w' : World} {n : Nat} {E : Nat → Ev} {e : Ending} {v : Value} (h : e = .returned v) (ho : w'.ownsRow w.heap.size 25 9 v n (flat E n)) (hb : Below w.heap.size w w') : Made w n E e w' := ⟨v, h, ho, hb⟩
def CatRel (w : World) (pn : Nat → Nat) (pE : Nat → Nat → Ev) (j : Nat) (v : Value) (wr : World) : Prop := wr.ownsRow w.heap.size 25 9 v (catN pn j) (flat (catE pn pE j) (catN pn j)) ∧ Below w.heap.size w wr
theorem concat_any (b o k c : Nat) (pp : Nat → Option Addr) (pn pc : Nat → Nat) (pE : Nat → Nat → Ev) (w : World) (hk : k ≤ 9223372036854775807) (hb : b < w.heap.size)
    (hc : Hid (∀ j, j < k → w.cell? ⟨b, o + j, none⟩ = some (.slice (pp j) (pn j) (pc j)))) (hE : Hid (∀ j, j < k → Evs w (pp j) (pn j) (pE j))) (hN : catN pn k ≤ 20000) :
    Calls Try.prog 45 #[.slice (some ⟨b, o, none⟩) k c] w (Made w (catN pn k) (catE pn pE k)) := by
  have HM := Lib.hid fun (j : Nat) (h : j ≤ k) => catN_mono (pn := pn) h
  go_enter Try.func45, Try.ntmps45
  go_wp2_with fail
  go_loop [3, 11] (fun s i => ∃ j m : Nat, j ≤ k ∧ i = .int .i64 j ∧ s = .int .i64 m ∧ Hid (m = catN pn j)) (fun _ i => k - (intOf i).toNat)
  case atStart => exact ⟨0, 0, Nat.zero_le _, rfl, rfl, Lib.hid rfl⟩
  case round =>
    obtain ⟨j, m, hj, rfl, rfl, HS⟩ := hrel
    have c1 : (0 : Int) ≤ (j : Int) := by omega
    have m1 : (0 : Int) ≤ (m : Int) := by omega
    rcases Nat.lt_or_ge j k with h | h
    · have c2 : (j : Int) < (k : Int) := by omega
      have e1 := hc.out j h
      have m2 : (m : Int) + (pn j : Int) ≤ 20000 := by have h1 := HS.out; have h2 := HM.out (j + 1) h; have h3 : catN pn (j + 1) = catN pn j + pn j := rfl; omega
      have m3 : (0 : Int) ≤ (pn j : Int) := by omega
      have m4 : ¬ (m : Int) + (pn j : Int) < 0 := by omega
      go_wp2_with fail
      go_round
      case rel => exact ⟨j + 1, m + pn j, by omega, by go_num, by go_num, Lib.hid (by rw [HS.out]; rfl)⟩
      case measure => simp [intOf]; omega
    · obtain rfl : k = j := by omega
      have hm : m ≤ 20000 := by have := HS.out; omega
      have c2 : (k : Int) ≤ (k : Int) := by omega
      go_wp2_with fail
      refine (grow_any m _ hm).mono ?_
      rintro e w1 ⟨v1, rfl, ho1, hb1⟩
      have HO := Lib.hid ho1
      clear ho1
      go_wp2_with fail
      go_loopw [6, 27] (fun v i wr => ∃ j : Nat, j ≤ k ∧ i = .int .i64 j ∧ CatRel w pn pE j v wr) (fun _ i _ => k - (intOf i).toNat)
      case atStart => exact ⟨0, Nat.zero_le _, rfl, HO.out, hb1⟩
      case round =>
        obtain ⟨j, hj, rfl, HR⟩ := hrel
        have c1 : (0 : Int) ≤ (j : Int) := by omega
        rcases Nat.lt_or_ge j k with h | h
        · have c2 : (j : Int) < (k : Int) := by omega
          obtain ⟨ho, hbr⟩ := HR
          have e1 := (hbr.cell (p := ⟨b, o + j, none⟩) hb).trans (hc.out j h)
          obtain ⟨v2, w2, hrun, ho2, hb2⟩ := append_evs ho (p := pp j) (m := pn j) (c := pc j) (F := pE j) ((hE.out j h).on hbr) (by have h2 := HM.out (j + 1) h; have h3 : catN pn (j + 1) = catN pn j + pn j := rfl; omega) hbr.size
          have HO2 : Hid (CatRel w pn pE (j + 1) v2 w2) := Lib.hid ⟨ho2, hb2 w rfl hbr⟩
          clear ho ho2 hb2
          go_wp2_with (at_builtin; refine Lib.wpList_append_run _ rfl _ _ _ _ rfl _ _ rfl rfl _ _ hrun ?_)
          go_roundw
          case rel => exact ⟨j + 1, by omega, by go_num, HO2.out⟩
          case measure => simp [intOf]; omega
        · obtain rfl : k = j := by omega
          have H3 := Lib.hid HR
          clear HR
          go_wp2_with fail
          go_ret
          exact Made.mk rfl H3.out.1 H3.out.2
end Go.Proofs.Ytmijjpecgcgkgaa.Ag
