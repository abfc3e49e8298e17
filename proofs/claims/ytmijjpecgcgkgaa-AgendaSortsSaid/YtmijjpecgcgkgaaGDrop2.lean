/-
  The contracts of Next, Drop and Upto at whatever list.
-/
import Derived.Test.YtmijjpecgcgkgaaGDrop
namespace Go.Proofs.Ytmijjpecgcgkgaa.Ag
open Go.RowKit
set_option maxHeartbeats 4000000
theorem next_good (p : Option Addr) (n c : Nat) (E : Nat → Ev) (w : World) (hE : Evs w p n E) (hW : WL p n c) (hn : n ≠ 0) (hG : Good E n) : Calls Try.prog 21 #[.slice p n c] w (EvLists w (n - 1) true (E 0) (fun i => E (1 + i))) := by
  obtain ⟨hc, hW⟩ := hW
  rcases hW with h | ⟨b, o, rfl⟩
  · omega
  · by_cases h1 : c = 1
    · subst h1
      obtain rfl : n = 1 := by omega
      exact next_one b o E w hE hG
    · exact next_many b o n c E w hE (by omega) hc h1 hG
theorem drop_good (p : Option Addr) (n c : Nat) (E : Nat → Ev) (v : Int) (a : Nat) (w : World) (hE : Evs w p n E) (hW : WL p n c) (hG : Good E n) (hi : idx E v n = some a) : Calls Try.prog 25 #[.slice p n c, .int .i64 v] w (ListEv w (n - 1) true (E a) (delE E a)) := by
  have ha := idx_lt hi
  obtain ⟨hc, hW⟩ := hW
  rcases hW with h | ⟨b, o, rfl⟩
  · omega
  · by_cases h1 : c = a + 1
    · obtain rfl : n = c := by omega
      exact drop_last b o n a E v w hE (Lib.hid h1) hG hi
    · exact drop_mid b o n c (a + 1) a E v w hE hc (Lib.hid rfl) h1 hG hi
end Go.Proofs.Ytmijjpecgcgkgaa.Ag
