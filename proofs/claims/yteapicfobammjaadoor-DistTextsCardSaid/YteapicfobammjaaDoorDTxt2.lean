/-
  Two accepted distributions have one text exactly if they are the same.
-/
import Derived.Test.YteapicfobammjaaDoorDTxt
import Derived.Test.YteapicfobammjaaDoorDAcc
namespace Go.Proofs.YteapicfobammjaaDoor.Di
open Go.RowKit
open Lib (itoa)
def hdC (op : Int) : UInt8 := if op = 1 then 99 else if op = 2 then 117 else if op = 3 then 116 else if op = 4 then 115 else 103
theorem hd_inj {op op2 : Int} (h0 : 1 ≤ op) (h1 : op ≤ 5) (h2 : 1 ≤ op2) (h3 : op2 ≤ 5) (h : hdC op = hdC op2) : op = op2 := by
  have a : op = 1 ∨ op = 2 ∨ op = 3 ∨ op = 4 ∨ op = 5 := by omega
  have b : op2 = 1 ∨ op2 = 2 ∨ op2 = 3 ∨ op2 = 4 ∨ op2 = 5 := by omega
  rcases a with rfl | rfl | rfl | rfl | rfl <;> rcases b with rfl | rfl | rfl | rfl | rfl <;> first | rfl | exact absurd h (by decide)
theorem acc_op {op a b n : Int} {lv lw : Nat} {V W : Nat → Int} (h : Acc op a b n lv lw V W) : 1 ≤ op ∧ op ≤ 5 := by
  rcases h with ⟨rfl, _⟩ | ⟨rfl, _⟩ | ⟨rfl, _⟩ | ⟨rfl, _⟩ | ⟨rfl, _⟩ <;> decide
theorem txt_head {op a b n : Int} {lv lw : Nat} {V W : Nat → Int} (h : Acc op a b n lv lw V W) : ∃ r, (txtA op a b n lv V W).data.toList = hdC op :: r := by
  unfold txtA
  rcases h with ⟨rfl, _⟩ | ⟨rfl, _⟩ | ⟨rfl, _⟩ | ⟨rfl, _⟩ | ⟨rfl, _⟩
  · rw [if_pos rfl]; exact ⟨_, by rw [one_list]; rfl⟩
  · rw [if_neg (by decide), if_pos rfl]; exact ⟨_, by rw [two_list]; rfl⟩
  · rw [if_neg (by decide), if_neg (by decide), if_pos rfl]; exact tbt_head V W lv
  · rw [if_neg (by decide), if_neg (by decide), if_neg (by decide), if_pos rfl]; exact ⟨_, by rw [three_list]; rfl⟩
  · rw [if_neg (by decide), if_neg (by decide), if_neg (by decide), if_neg (by decide)]; exact ⟨_, by rw [two_list]; rfl⟩
theorem same_of {op a b n : Int} {lv lw : Nat} {V W : Nat → Int} {op2 a2 b2 n2 : Int} {lv2 lw2 : Nat} {V2 W2 : Nat → Int} (e1 : op = op2) (e2 : a = a2) (e3 : b = b2) (e4 : n = n2) (e5 : lv = lv2) (e6 : lw = lw2) (e7 : eqTo V V2 lv = true) (e8 : eqTo W W2 lw = true) : sameD op a b n lv lw V W op2 a2 b2 n2 lv2 lw2 V2 W2 = true := by
  subst e1 e2 e3 e4 e5 e6
  unfold sameD
  rw [eqL_same, eqL_same, e7, e8]
  simp
theorem of_same {op a b n : Int} {lv lw : Nat} {V W : Nat → Int} {op2 a2 b2 n2 : Int} {lv2 lw2 : Nat} {V2 W2 : Nat → Int} (h : sameD op a b n lv lw V W op2 a2 b2 n2 lv2 lw2 V2 W2 = true) : op = op2 ∧ a = a2 ∧ b = b2 ∧ n = n2 ∧ lv = lv2 ∧ lw = lw2 ∧ eqTo V V2 lv = true ∧ eqTo W W2 lw = true := by
  unfold sameD eqL at h
  simp only [Bool.and_eq_true, beq_iff_eq] at h
  exact ⟨h.1, h.2.1, h.2.2.1, h.2.2.2.1, h.2.2.2.2.1.1, h.2.2.2.2.2.1, h.2.2.2.2.1.2, h.2.2.2.2.2.2⟩
theorem txt_cong {op a b n : Int} {lv lw : Nat} {V W : Nat → Int} {op2 a2 b2 n2 : Int} {lv2 lw2 : Nat} {V2 W2 : Nat → Int} (A : Acc op a b n lv lw V W) (h : sameD op a b n lv lw V W op2 a2 b2 n2 lv2 lw2 V2 W2 = true) : txtA op a b n lv V W = txtA op2 a2 b2 n2 lv2 V2 W2 := by
  obtain ⟨rfl, rfl, rfl, rfl, rfl, rfl, e7, e8⟩ := of_same h
  by_cases h3 : op = 3
  · rcases A with ⟨e, _⟩ | ⟨e, _⟩ | ⟨_, rfl, _⟩ | ⟨e, _⟩ | ⟨e, _⟩
    · omega
    · omega
    · subst h3
      unfold txtA
      rw [if_neg (by decide), if_neg (by decide), if_pos rfl, if_neg (by decide), if_neg (by decide), if_pos rfl]
      exact tbt_congr (eqTo_all e7) (eqTo_all e8)
    · omega
    · omega
  · unfold txtA
    rw [if_neg h3, if_neg h3]
theorem txt_inj {op a b n : Int} {lv lw : Nat} {V W : Nat → Int} {op2 a2 b2 n2 : Int} {lv2 lw2 : Nat} {V2 W2 : Nat → Int} (hA : errD op a b n lv lw V W = 0) (hB : errD op2 a2 b2 n2 lv2 lw2 V2 W2 = 0) (h : txtA op a b n lv V W = txtA op2 a2 b2 n2 lv2 V2 W2) : sameD op a b n lv lw V W op2 a2 b2 n2 lv2 lw2 V2 W2 = true := by
  have A := acc_of hA
  have B := acc_of hB
  have hu := (errW_zero hA).1
  have hu2 := (errW_zero hB).1
  have h := congrArg (fun x => x.data.toList) h
  have oo := acc_op A
  have oo2 := acc_op B
  have hop : op = op2 := by
    obtain ⟨r, e⟩ := txt_head A
    obtain ⟨r2, e2⟩ := txt_head B
    have h' : (txtA op a b n lv V W).data.toList = (txtA op2 a2 b2 n2 lv2 V2 W2).data.toList := h
    rw [e, e2] at h'
    injection h' with h' _
    exact hd_inj oo.1 oo.2 oo2.1 oo2.2 h'
  subst hop
  unfold unB at hu hu2
  unfold txtA at h
  have o : op = 1 ∨ op = 2 ∨ op = 3 ∨ op = 4 ∨ op = 5 := by omega
  rcases o with rfl | rfl | rfl | rfl | rfl
  · simp at hu hu2
    simp only [if_pos, one_list] at h
    have ga : 0 ≤ a ∧ a ≤ 1000000000 := by rcases A with ⟨_, g⟩ | ⟨e, _⟩ | ⟨e, _⟩ | ⟨e, _⟩ | ⟨e, _⟩ <;> first | exact g | omega
    have gb : 0 ≤ a2 ∧ a2 ≤ 1000000000 := by rcases B with ⟨_, g⟩ | ⟨e, _⟩ | ⟨e, _⟩ | ⟨e, _⟩ | ⟨e, _⟩ <;> first | exact g | omega
    have e := un1 ⟨by omega, by omega⟩ ⟨by omega, by omega⟩ h
    exact same_of rfl e (by omega) (by omega) (by omega) (by omega) (by rw [hu.2.2.1]; rfl) (by rw [hu.2.2.2]; rfl)
  · simp at hu hu2
    simp only [show ((2 : Int) = 1) = False by decide, if_false, if_pos, two_list] at h
    have ga : 0 ≤ a ∧ a ≤ b ∧ b ≤ 1000000000 := by rcases A with ⟨e, _⟩ | ⟨_, g⟩ | ⟨e, _⟩ | ⟨e, _⟩ | ⟨e, _⟩ <;> first | exact g | omega
    have gb : 0 ≤ a2 ∧ a2 ≤ b2 ∧ b2 ≤ 1000000000 := by rcases B with ⟨e, _⟩ | ⟨_, g⟩ | ⟨e, _⟩ | ⟨e, _⟩ | ⟨e, _⟩ <;> first | exact g | omega
    have e := un2 ⟨by omega, by omega⟩ ⟨by omega, by omega⟩ ⟨by omega, by omega⟩ ⟨by omega, by omega⟩ h
    exact same_of rfl e.1 e.2 (by omega) (by omega) (by omega) (by rw [hu.2.1]; rfl) (by rw [hu.2.2]; rfl)
  · simp at hu hu2
    simp only [show ((3 : Int) = 1) = False by decide, show ((3 : Int) = 2) = False by decide, if_false, if_pos] at h
    rcases A with ⟨e, _⟩ | ⟨e, _⟩ | ⟨_, rfl, g1, g2, g3, g4⟩ | ⟨e, _⟩ | ⟨e, _⟩
    · omega
    · omega
    · rcases B with ⟨e, _⟩ | ⟨e, _⟩ | ⟨_, rfl, k1, k2, k3, k4⟩ | ⟨e, _⟩ | ⟨e, _⟩
      · omega
      · omega
      · have e := tbt_inj V W V2 W2 _ _ (fun i hi => ⟨⟨by have := g3 i hi; omega, by have := g3 i hi; omega⟩, ⟨by have := g4 i hi; omega, by have := g4 i hi; omega⟩⟩) (fun i hi => ⟨⟨by have := k3 i hi; omega, by have := k3 i hi; omega⟩, ⟨by have := k4 i hi; omega, by have := k4 i hi; omega⟩⟩) (WideShapes.bytes_inj h)
        exact same_of rfl (by omega) (by omega) (by omega) e.1 e.1 (eqTo_of fun i hi => (e.2 i hi).1) (eqTo_of fun i hi => (e.2 i hi).2)
      · omega
      · omega
    · omega
    · omega
  · simp at hu hu2
    simp only [show ((4 : Int) = 1) = False by decide, show ((4 : Int) = 2) = False by decide, show ((4 : Int) = 3) = False by decide, if_false, if_pos, three_list] at h
    have ga : 1 ≤ n ∧ n ≤ 20 ∧ 0 ≤ a ∧ a ≤ b ∧ b ≤ 1000000 := by rcases A with ⟨e, _⟩ | ⟨e, _⟩ | ⟨e, _⟩ | ⟨_, g⟩ | ⟨e, _⟩ <;> first | exact g | omega
    have gb : 1 ≤ n2 ∧ n2 ≤ 20 ∧ 0 ≤ a2 ∧ a2 ≤ b2 ∧ b2 ≤ 1000000 := by rcases B with ⟨e, _⟩ | ⟨e, _⟩ | ⟨e, _⟩ | ⟨_, g⟩ | ⟨e, _⟩ <;> first | exact g | omega
    have e := un3 ⟨by omega, by omega⟩ ⟨by omega, by omega⟩ ⟨by omega, by omega⟩ ⟨by omega, by omega⟩ ⟨by omega, by omega⟩ ⟨by omega, by omega⟩ h
    exact same_of rfl e.2.1 e.2.2 e.1 (by omega) (by omega) (by rw [hu.1]; rfl) (by rw [hu.2]; rfl)
  · simp at hu hu2
    simp only [show ((5 : Int) = 1) = False by decide, show ((5 : Int) = 2) = False by decide, show ((5 : Int) = 3) = False by decide, show ((5 : Int) = 4) = False by decide, if_false, two_list] at h
    have ga : 1 ≤ a ∧ a ≤ 1000 ∧ 1 ≤ b ∧ b ≤ 1000 := by rcases A with ⟨e, _⟩ | ⟨e, _⟩ | ⟨e, _⟩ | ⟨e, _⟩ | ⟨_, g⟩ <;> first | exact g | omega
    have gb : 1 ≤ a2 ∧ a2 ≤ 1000 ∧ 1 ≤ b2 ∧ b2 ≤ 1000 := by rcases B with ⟨e, _⟩ | ⟨e, _⟩ | ⟨e, _⟩ | ⟨e, _⟩ | ⟨_, g⟩ <;> first | exact g | omega
    have e := un2 ⟨by omega, by omega⟩ ⟨by omega, by omega⟩ ⟨by omega, by omega⟩ ⟨by omega, by omega⟩ h
    exact same_of rfl e.1 e.2 (by omega) (by omega) (by omega) (by rw [hu.2.1]; rfl) (by rw [hu.2.2]; rfl)
end Go.Proofs.YteapicfobammjaaDoor.Di
