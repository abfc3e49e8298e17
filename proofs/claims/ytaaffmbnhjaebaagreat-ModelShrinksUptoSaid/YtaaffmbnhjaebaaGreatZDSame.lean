/-
  Parts of this proof: The contracts of slices.Equal, of the reference's sameInts, and of Same, of the package and of the reference.
-/
import Derived.Test.YtaaffmbnhjaebaaGreatZNmMath
namespace Go.Proofs.YtaaffmbnhjaebaaGreat.Di
open Go.RowKit
set_option maxHeartbeats 1000000
theorem eqTo_end {V W : Nat → Int} {k n : Nat} (h : k < n) (h2 : (V k == W k) = false) : eqTo V W n = false :=
 eqTo_false (k := k + 1) (by show (_ && _) = false; rw [h2, Bool.and_false]) h
theorem eqTo_next {V W : Nat → Int} {k : Nat} (h1 : eqTo V W k = true) (h2 : (V k == W k) = true) : eqTo V W (k + 1) = true := by
 show (_ && _) = true; rw [h1, h2]; rfl
theorem eqL_same {V W : Nat → Int} {n : Nat} : eqL n n V W = eqTo V W n := by unfold eqL; rw [beq_self_eq_true]; rfl
theorem zDSame_0 {p : Prop} (h : p := by
 subst h
 go_enter Tryz.func126, Tryz.ntmps126
 go_wp2_with fail
 go_loop [13] (fun i => i = .int .i64 0) (fun _ => 0)
 case atStart => rfl
 case round =>
  obtain rfl := hrel
  go_wp2_with fail
  go_ret
  exact ⟨rfl, 0, rfl⟩
 ) : p := h
theorem equal_any (p q : Option Addr) (n m c f : Nat) (V W : Nat → Int) (w : World) (hp : Row w p n V) (hq : Row w q m W) : Calls Tryz.prog 126 #[.slice p n c, .slice q m f] w (Quiet (.bool (eqL n m V W)) w) := by
 by_cases hnm : n = m
 · subst hnm
   obtain ⟨hl, h | ⟨b, o, rfl, hb, hc⟩⟩ := hp
   · exact zDSame_0
   · obtain ⟨-, h | ⟨b2, o2, rfl, hb2, hc2⟩⟩ := hq
     · exact zDSame_0
     rw [eqL_same]
     go_enter Tryz.func126, Tryz.ntmps126
     go_wp2_with fail
     go_loopw [13] (fun i wr => ∃ k t : Nat, k ≤ n ∧ i = .int .i64 k ∧ wr = w.drewN t ∧ Hid (eqTo V W k = true)) (fun i _ => n - (intOf i).toNat)
     case atStart => exact ⟨0, 0, Nat.zero_le _, rfl, rfl, Lib.hid rfl⟩
     case round =>
      obtain ⟨k, t, hk, rfl, rfl, HA⟩ := hrel
      rcases Nat.lt_or_ge k n with h | h
      · have e1 := hc.out k h
        have e2 := hc2.out k h
        have c1 : (0 : Int) ≤ (k : Int) := by omega
        have c2 : (k : Int) < (n : Int) := by omega
        have c3 : IntKind.i64.wrap ((k : Int) + 1) = ((k + 1 : Nat) : Int) := by rw [IntKind.wrap_i64]; omega
        cases hi : (V k == W k)
        · have H := Lib.hid hi
          have hx : (V k != W k) = true := by unfold bne; rw [hi]; rfl
          clear hi
          go_wp2_with fail
          go_quiet (fail)
          go_wp2_with fail
          go_ret
          exact ⟨ret_bool (eqTo_end h H.out).symm, _, (by first | rfl | exact World.drewN_drewN _ _ _)⟩
        · have H := Lib.hid hi
          have hx : (V k != W k) = false := by unfold bne; rw [hi]; rfl
          clear hi
          go_wp2_with fail
          go_quiet (fail)
          go_wp2_with fail
          go_roundw
          case rel => exact ⟨k + 1, _, by omega, by go_num, (by first | rfl | exact World.drewN_drewN _ _ _), Lib.hid (eqTo_next HA.out H.out)⟩
          case measure => simp [intOf]; omega
      · obtain rfl : n = k := by omega
        go_wp2_with fail
        go_ret
        exact ⟨ret_bool HA.out.symm, _, rfl⟩
 · have hx : ((n : Int) != (m : Int)) = true := by rw [bne_iff_ne]; omega
   have hx2 : (n != m) = true := by rw [bne_iff_ne]; exact hnm
   have hr : eqL n m V W = false := by unfold eqL; rw [show (n == m) = false from by rw [beq_eq_false_iff_ne]; exact hnm]; rfl
   rw [hr]
   clear hr hp hq
   go_enter Tryz.func126, Tryz.ntmps126
   go_wp2_with fail
   go_ret
   exact ⟨rfl, 0, rfl⟩
def sameD (op a b n : Int) (lv lw : Nat) (V W : Nat → Int) (op2 a2 b2 n2 : Int) (lv2 lw2 : Nat) (V2 W2 : Nat → Int) : Bool :=
 op == op2 && (a == a2 && (b == b2 && (n == n2 && (eqL lv lv2 V V2 && eqL lw lw2 W W2))))
theorem same_any (op a b n : Int) (p : Option Addr) (lv c : Nat) (q : Option Addr) (lw f : Nat) (V W : Nat → Int) (op2 a2 b2 n2 : Int) (p2 : Option Addr) (lv2 c2 : Nat) (q2 : Option Addr) (lw2 f2 : Nat) (V2 W2 : Nat → Int) (w : World) (hV : Row w p lv V) (hW : Row w q lw W) (hV2 : Row w p2 lv2 V2) (hW2 : Row w q2 lw2 W2) :
 Calls Tryz.prog 144 #[.agg #[.int .i64 op, .int .i64 a, .int .i64 b, .int .i64 n, .slice p lv c, .slice q lw f], .agg #[.int .i64 op2, .int .i64 a2, .int .i64 b2, .int .i64 n2, .slice p2 lv2 c2, .slice q2 lw2 f2]] w (Gives (.bool (sameD op a b n lv lw V W op2 a2 b2 n2 lv2 lw2 V2 W2)) w) := by
 cases h0 : (op == op2)
 · go_enter Tryz.func144, Tryz.ntmps144
   go_wp2_with fail
   go_ret
   exact ⟨ret_bool (by simp only [sameD, h0, Bool.false_and]), bd⟩
 cases h1 : (a == a2)
 · go_enter Tryz.func144, Tryz.ntmps144
   go_wp2_with fail
   go_ret
   exact ⟨ret_bool (by simp only [sameD, h0, h1, Bool.false_and, Bool.and_false]), bd⟩
 cases h2 : (b == b2)
 · go_enter Tryz.func144, Tryz.ntmps144
   go_wp2_with fail
   go_ret
   exact ⟨ret_bool (by simp only [sameD, h0, h1, h2, Bool.false_and, Bool.and_false]), bd⟩
 cases h3 : (n == n2)
 · go_enter Tryz.func144, Tryz.ntmps144
   go_wp2_with fail
   go_ret
   exact ⟨ret_bool (by simp only [sameD, h0, h1, h2, h3, Bool.false_and, Bool.and_false]), bd⟩
 have hs : sameD op a b n lv lw V W op2 a2 b2 n2 lv2 lw2 V2 W2 = (eqL lv lv2 V V2 && eqL lw lw2 W W2) := by simp only [sameD, h0, h1, h2, h3, Bool.true_and]
 rw [hs]
 cases h4 : eqL lv lv2 V V2
 · have H4 := Lib.hid h4
   clear h4 hs
   go_enter Tryz.func144, Tryz.ntmps144
   go_wp2_with fail
   refine (equal_any p p2 lv lv2 c c2 V V2 _ hV.alloc.alloc hV2.alloc.alloc).mono ?_
   rintro e w1 ⟨rfl, t1, rfl⟩
   rw [H4.out]
   go_wp2_with fail
   go_ret
   exact ⟨rfl, bd⟩
 · have H4 := Lib.hid h4
   rw [Bool.true_and]
   clear h4 hs
   go_enter Tryz.func144, Tryz.ntmps144
   go_wp2_with fail
   refine (equal_any p p2 lv lv2 c c2 V V2 _ hV.alloc.alloc hV2.alloc.alloc).mono ?_
   rintro e w1 ⟨rfl, t1, rfl⟩
   rw [H4.out]
   go_wp2_with fail
   refine (equal_any q q2 lw lw2 f f2 W W2 _ (hW.alloc.alloc.drewN t1) (hW2.alloc.alloc.drewN t1)).mono ?_
   rintro e w1 ⟨rfl, t2, rfl⟩
   go_wp2_with fail
   go_ret
   exact ⟨rfl, bd⟩
end Go.Proofs.YtaaffmbnhjaebaaGreat.Di
