/-
  The contracts of endLine and scan.
-/
import Derived.Test.YtilnojcbebchdaaDoorLxFirst
namespace Go.Proofs.YtilnojcbebchdaaDoor.Lx
open Go.RowKit
set_option maxHeartbeats 2000000
set_option linter.unusedVariables false
theorem opn_snoc (m : List Tk) (x : Tk) : opn (m ++ [x]) = decide (x.k ≠ 4) := by unfold opn; rw [List.getLast?_concat]
theorem endL_nil (n : Nat) : endL [] n = [] := rfl
theorem endL_line (m : List Tk) (x : Tk) (n : Nat) (h : x.k = 4) : endL (m ++ [x]) n = m ++ [x] := by unfold endL; rw [opn_snoc, if_neg (by simp [h])]
theorem endL_open (m : List Tk) (x : Tk) (n : Nat) (h : ¬ x.k = 4) : endL (m ++ [x]) n = m ++ [x] ++ [⟨4, mt, 0, (n : Int)⟩] := by unfold endL; rw [opn_snoc, if_pos (by simp [h])]
theorem endL_len (a : List Tk) (n : Nat) : (endL a n).length ≤ a.length + 1 := by
  unfold endL
  split
  · simp
  · omega
/-- A list that a call made, grown or not, in the world behind it. -/
def Grew (lo : Nat) (v : Value) (l : List Tk) (w : World) (e : Ending) (w' : World) : Prop := ∃ v', e = .returned v' ∧ Own lo w' v' l ∧ w.grownBy w' v.ownBlock
theorem Grew.same {lo : Nat} {v : Value} {l : List Tk} {w : World} (h : Own lo w v l) : Grew lo v l w (.returned v) w := ⟨v, rfl, h, ⟨rfl, rfl, rfl, Nat.le_refl _, fun _ _ _ => rfl⟩⟩
theorem grown_alloc {w w' : World} {o : Obj} {row : Option Nat} (h : (w.alloc o).grownBy w' row) : w.grownBy w' row := ((World.grownBy_alloc w o none).but row).trans h
set_option maxRecDepth 100000 in
theorem endline_any {lo : Nat} {v : Value} {l : List Tk} (n : Nat) (w : World) (ho : Own lo w v l) (hlo : lo ≤ w.heap.size) (hl : l.length ≤ 1000000) : Calls Tryd.prog 24 #[v, .int .i64 (n : Int)] w (Grew lo v (endL l n) w) := by
  obtain ⟨p, c, rfl, hT, hc, hp⟩ := own_toks ho
  rcases List.eq_nil_or_concat l with rfl | ⟨m, x, rfl⟩
  · have HG := Lib.hid (Grew.same ho)
    clear hT hp ho
    go_enter Tryd.func24, Tryd.ntmps24
    go_wp2_with fail
    go_ret
    exact HG.out
  · rw [List.concat_eq_append] at *
    obtain ⟨-, -, h0 | ⟨b, o, rfl, hb, hcell⟩⟩ := hT
    · rw [List.length_append] at h0; simp at h0
    · have hx := hcell.out m.length (by simp)
      rw [List.getElem_concat_length rfl] at hx
      have e1 := hx.1
      obtain ⟨N, hN⟩ : ∃ N, (m ++ [x]).length = N := ⟨_, rfl⟩
      have hN1 : m.length + 1 = N := by rw [← hN, List.length_append]; rfl
      have ho' := ho
      have hl' := hl
      rw [hN] at hc hl
      obtain ⟨M, hM⟩ : ∃ M, m.length = M := ⟨_, rfl⟩
      rw [hM] at e1 hN1
      have c0 : ((N : Int) == 0) = false := by rw [beq_eq_false_iff_ne]; omega
      have c1 : (N : Int) - 1 = (M : Int) := by omega
      have c2 : (0 : Int) ≤ (M : Int) := by omega
      have c3 : (M : Int) < (N : Int) := by omega
      by_cases hk : x.k = 4
      · rw [hk] at e1
        have HG : Hid (Grew lo _ (endL (m ++ [x]) n) w _ w) := Lib.hid (by rw [endL_line m x n hk]; exact Grew.same ho)
        rw [hN] at HG
        rw [hN]
        clear ho ho' hx hcell hN hM hp hk
        go_enter Tryd.func24, Tryd.ntmps24
        go_wp2_with fail
        go_ret
        exact HG.out
      · have q1 : (x.k == 4) = false := beq_eq_false_iff_ne.2 hk
        have hB : Below w.heap.size w (w.alloc (.cells #[.int .i64 4, .string ⟨#[]⟩, .int .i64 0, .int .i64 (n : Int)] 31)) := bl_alloc (Below.refl _ _)
        obtain ⟨v2, w2, hrun, ho2, hg2⟩ := append_tok (own_below ho hB) (by simp) (new4 (w := w) (x := ⟨4, mt, 0, (n : Int)⟩) (t := 31)) hl' (by have := hB.size; omega)
        have HG : Hid (Grew lo _ (endL (m ++ [x]) n) w (.returned v2) w2) := Lib.hid (by rw [endL_open m x n hk]; exact ⟨v2, rfl, ho2, grown_alloc hg2⟩)
        rw [hN] at HG hrun
        rw [hN]
        clear ho ho' hx hcell hN hM hp hk ho2 hg2 hB
        go_enter Tryd.func24, Tryd.ntmps24
        go_wp2_with (at_builtin; refine Lib.wpList_append_run _ rfl _ _ _ _ rfl _ _ rfl rfl _ _ hrun ?_)
        go_ret
        exact HG.out
end Go.Proofs.YtilnojcbebchdaaDoor.Lx
