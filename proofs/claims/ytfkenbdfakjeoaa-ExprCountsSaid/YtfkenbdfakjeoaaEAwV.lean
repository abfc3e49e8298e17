/-
  The chapter's examples, as trees, and what is said of them.
-/
import Derived.Test.YtfkenbdfakjeoaaECheck
import Derived.Test.YtfkenbdfakjeoaaENm
import Derived.Test.YtfkenbdfakjeoaaEConst
namespace Go.Proofs.Ytfkenbdfakjeoaa.Ex
open Go.RowKit
open Go.Proofs.Ytfkenbdfakjeoaa.Na (bs bs_inj chk)
set_option maxHeartbeats 4000000
set_option linter.unusedVariables false
def wdE (s : ByteArray) : Ex := .mk 3 s 0 []
def exSum : Ex := .mk 9 mE 0 [.mk 3 ⟨#[97]⟩ 0 [], .mk 1 mE 2 []]
def exFree : Ex := .mk 10 mE 0 [.mk 9 mE 0 [.mk 3 ⟨#[98]⟩ 0 [], .mk 22 ⟨#[97]⟩ 0 []], .mk 3 ⟨#[98]⟩ 0 []]
def exBy : Ex := .mk 9 mE 0 [.mk 1 mE 1 [], .mk 3 ⟨#[121]⟩ 0 []]
def exMul : Ex := .mk 11 mE 0 [.mk 3 ⟨#[120]⟩ 0 [], .mk 3 ⟨#[120]⟩ 0 []]
def exSq : Ex := .mk 11 mE 0 [exBy, exBy]
def nst : Nat → Ex
  | 0 => .mk 2 mE 1 []
  | k + 1 => .mk 6 mE 0 [nst k]
theorem v_sq : rep ⟨#[120]⟩ exBy exMul = exSq := by kernel_rfl
theorem v_n1 : cnt exSum = 3 := by kernel_rfl
theorem v_n1i : ((cnt exSum : Nat) : Int) = 3 := by rw [v_n1]; rfl
theorem v_d1 : dep exSum = 2 := by kernel_rfl
theorem v_nm : namesE exFree = [[97], [98]] := by
  have h1 : chkE false exFree = 0 := by kernel_rfl
  unfold namesE
  rw [if_pos h1, srt_ins]
  have h2 : insA [] (says (pre exFree)) = [[97], [98]] := by kernel_rfl
  exact h2
theorem v_c1 : chkE false (nst 11) = 0 := by kernel_rfl
theorem v_c2 : chkE false (nst 12) = 11 := by kernel_rfl
theorem v_d2 : dep (nst 12) = 13 := by kernel_rfl
theorem v_d1i : ((dep exSum : Nat) : Int) = 2 := by rw [v_d1]; rfl
theorem v_d2i : ((dep (nst 12) : Nat) : Int) = 13 := by rw [v_d2]; rfl
theorem v_if : chkE false (.mk 3 ⟨#[105, 102]⟩ 0 []) = 3 := by kernel_rfl
theorem v_now : chkE false (.mk 4 mE 1 []) = 1 := by kernel_rfl
theorem v_ca : chkE true (.mk 3 ⟨#[97]⟩ 0 []) = 1 := by kernel_rfl
theorem v_cs : chkE true (.mk 25 mE 16 []) = 2 := by kernel_rfl
theorem v_k : cnst 2 7 = .mk 2 mE 1 [] := by kernel_rfl
theorem nst_cnt : ∀ k, cnt (nst k) = k + 1
  | 0 => rfl
  | k + 1 => by rw [nst, cnt_one, cntL, nst_cnt k]; simp [cntL]
theorem sz_leaf {o n : Int} {s : ByteArray} (h : s.size ≤ 140737488355328) : Sz (.mk o s n []) := by
  intro x hx
  rw [pre_one] at hx
  rcases List.mem_cons.1 hx with rfl | hx
  · exact h
  · cases hx
theorem sz_one {o n : Int} {s : ByteArray} {x : Ex} (h : s.size ≤ 140737488355328) (g : Sz x) : Sz (.mk o s n [x]) := by
  intro y hy
  rw [pre_one] at hy
  rcases List.mem_cons.1 hy with rfl | hy
  · exact h
  · obtain ⟨z, hz, hyz⟩ := preL_mem' hy
    rw [List.mem_singleton.1 hz] at hyz
    exact g y hyz
theorem sz_two {o n : Int} {s : ByteArray} {x z : Ex} (h : s.size ≤ 140737488355328) (g : Sz x) (g2 : Sz z) : Sz (.mk o s n [x, z]) := by
  intro y hy
  rw [pre_one] at hy
  rcases List.mem_cons.1 hy with rfl | hy
  · exact h
  · obtain ⟨u, hu, hyu⟩ := preL_mem' hy
    rcases List.mem_cons.1 hu with rfl | hu
    · exact g y hyu
    · rw [List.mem_singleton.1 hu] at hyu
      exact g2 y hyu
theorem sq_two : ∀ x ∈ pre exSq, x.l.length ≠ 1 := by
  have h : (pre exSq).all (fun x => decide (x.l.length ≠ 1)) = true := by kernel_rfl
  intro x hx
  simpa using List.all_eq_true.1 h x hx
theorem sz_nst : ∀ k, Sz (nst k)
  | 0 => sz_leaf (by decide)
  | k + 1 => sz_one (by decide) (sz_nst k)
theorem sz_sum : Sz exSum := sz_two (by decide) (sz_leaf (by decide)) (sz_leaf (by decide))
theorem sz_free : Sz exFree := sz_two (by decide) (sz_two (by decide) (sz_leaf (by decide)) (sz_leaf (by decide))) (sz_leaf (by decide))
end Go.Proofs.Ytfkenbdfakjeoaa.Ex
