/-
  The contracts of Next, of the library and of the reference.
-/
import Derived.Test.YtnfddeoddjmpkabDoorStSmall
namespace Go.Proofs.YtnfddeoddjmpkabDoor.St
open Go.RowKit
set_option maxHeartbeats 1000000
def notN (u : Nat) : Nat := 18446744073709551615 - u
def below64 (u : Nat) : Prop := u < 18446744073709551616
theorem not_bits (u : Nat) (h : below64 u) : bits .xor .u64 (if IntKind.u64.signed = true then -1 else IntKind.u64.max) (u : Int) = ((notN u : Nat) : Int) := by
  have e2 : IntKind.u64.max = ((18446744073709551615 : Nat) : Int) := by decide
  unfold notN
  rw [if_neg (by decide), ← not_u64 u h, e2]; exact bits_xor_u64_nat 18446744073709551615 u (by decide) h
theorem num_arg (k P : Nat) : IntKind.u64.wrap ((k : Int) + IntKind.u64.wrap (((P : Int) + 1) * 11400714819323198485)) = (((k + (P + 1) * 11400714819323198485 % 18446744073709551616) % 18446744073709551616 : Nat) : Int) := by
  rw [IntKind.wrap_u64, IntKind.wrap_u64, Int.natCast_emod, Int.natCast_add, Int.natCast_emod, Int.natCast_mul, Int.natCast_add]; rfl
end Go.Proofs.YtnfddeoddjmpkabDoor.St
