/-
  The contract of the reference's Text, at every distribution.
-/
import Derived.Test.YteapicfobammjaaDoorDRefText
namespace Go.Proofs.YteapicfobammjaaDoor.Di
open Go.RowKit
set_option maxHeartbeats 4000000
theorem k1 : (⟨#[99, 111, 110, 115, 116, 32]⟩ : ByteArray) = wConst ++ sp := rfl
theorem k2 : (⟨#[117, 110, 105, 102, 111, 114, 109, 32]⟩ : ByteArray) = wUni ++ sp := rfl
theorem k5 : (⟨#[103, 101, 111, 109, 32]⟩ : ByteArray) = wGeom ++ sp := rfl
theorem k4 : (⟨#[115, 117, 109, 32]⟩ : ByteArray) = wSum ++ sp := rfl
theorem ks : (⟨#[32]⟩ : ByteArray) = sp := rfl
theorem j1 (Y : ByteArray) : (⟨#[99, 111, 110, 115, 116, 32]⟩ : ByteArray) ++ Y = wConst ++ (sp ++ Y) := by
  rw [k1, ByteArray.append_assoc]
theorem j2 (Y Z : ByteArray) : (⟨#[117, 110, 105, 102, 111, 114, 109, 32]⟩ : ByteArray) ++ Y ++ ⟨#[32]⟩ ++ Z = wUni ++ (sp ++ Y) ++ (sp ++ Z) := by
  rw [k2, ks]; simp only [ByteArray.append_assoc]
theorem j5 (Y Z : ByteArray) : (⟨#[103, 101, 111, 109, 32]⟩ : ByteArray) ++ Y ++ ⟨#[32]⟩ ++ Z = wGeom ++ (sp ++ Y) ++ (sp ++ Z) := by
  rw [k5, ks]; simp only [ByteArray.append_assoc]
theorem j4 (X Y Z : ByteArray) : (⟨#[115, 117, 109, 32]⟩ : ByteArray) ++ X ++ ⟨#[32]⟩ ++ Y ++ ⟨#[32]⟩ ++ Z = wSum ++ (sp ++ X) ++ (sp ++ Y) ++ (sp ++ Z) := by
  rw [k4, ks]; simp only [ByteArray.append_assoc]
theorem rtext_any (op a b n : Int) (p : Option Addr) (lv c : Nat) (q : Option Addr) (lw f : Nat) (V W : Nat → Int) (w : World) (hV : Row w p lv V) (hW : Row w q lw W) : Calls Tryd.prog 29 #[.agg #[.int .i64 op, .int .i64 a, .int .i64 b, .int .i64 n, .slice p lv c, .slice q lw f]] w (Gives (.string (txtD (errD op a b n lv lw V W) op a b n lv V W)) w) := by
  have CH := Lib.hid fun (w2 : World) (hb : Below w.heap.size w w2) => rcheck_any op a b n p lv c q lw f V W w2 (hV.on hb) (hW.on hb)
  unfold txtD
  by_cases h0 : errD op a b n lv lw V W = 0
  · rw [if_pos h0]
    have hA := acc_of h0
    rw [h0] at CH
    unfold txtA
    rcases hA with ⟨rfl, h⟩ | ⟨rfl, h⟩ | ⟨rfl, rfl, h2, h3, h4, h5⟩ | ⟨rfl, h⟩ | ⟨rfl, h⟩
    · rw [if_pos rfl, ← j1]; exact rtext1 a b n p lv c q lw f _ (num_size20 a (by omega) (by omega)) w CH (Lib.hid (r1_any a (by omega) (by omega)))
    · rw [if_neg (by decide), if_pos rfl, ← j2]; exact rtext2 a b n p lv c q lw f _ _ (num_size20 a (by omega) (by omega)) (num_size20 b (by omega) (by omega)) w CH (Lib.hid (r1_any a (by omega) (by omega))) (Lib.hid (r1_any b (by omega) (by omega)))
    · rw [if_neg (by decide), if_neg (by decide), if_pos rfl]
      obtain ⟨-, e | ⟨b1, o1, rfl, hb1, hc1⟩⟩ := hV
      · omega
      obtain ⟨-, e | ⟨b2, o2, rfl, hb2, hc2⟩⟩ := hW
      · omega
      exact rtext3 a b n b1 o1 c b2 o2 f _ V W w h3 hb1 hb2 hc1 hc2 (Lib.hid h4) (Lib.hid h5) CH
    · rw [if_neg (by decide), if_neg (by decide), if_neg (by decide), if_pos rfl, ← j4]
      exact rtext4 a b n p lv c q lw f _ _ _ (num_size20 n (by omega) (by omega)) (num_size20 a (by omega) (by omega)) (num_size20 b (by omega) (by omega)) w CH (Lib.hid (r1_any n (by omega) (by omega))) (Lib.hid (r1_any a (by omega) (by omega))) (Lib.hid (r1_any b (by omega) (by omega)))
    · rw [if_neg (by decide), if_neg (by decide), if_neg (by decide), if_neg (by decide), ← j5]
      exact rtext5 a b n p lv c q lw f _ _ (num_size20 a (by omega) (by omega)) (num_size20 b (by omega) (by omega)) w CH (Lib.hid (r1_any a (by omega) (by omega))) (Lib.hid (r1_any b (by omega) (by omega)))
  · rw [if_neg h0]
    exact rtext_no op a b n p lv c q lw f _ (by rw [bne_iff_ne]; exact h0) w CH
end Go.Proofs.YteapicfobammjaaDoor.Di
