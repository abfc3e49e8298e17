/-
  Parts of this proof: The contracts of the reference's Site and Link.
-/
import Derived.Test.YtaaffmbnhjaebaaGreatZQIdx
namespace Go.Proofs.YtaaffmbnhjaebaaGreat.Md
open Go.RowKit
open Go.Proofs.YtaaffmbnhjaebaaGreat.Na (fst)
open Go.Proofs.YtaaffmbnhjaebaaGreat.Ex (Lo Gives)
set_option maxHeartbeats 2000000
set_option linter.unusedVariables false
set_option maxRecDepth 100000 in
theorem rsite_any (x : Mdl) (P : PMdl) (s : ByteArray) (w : World) (hl : Rw 13 RSte (Lo w.heap.size) w x.si P.sip P.sim) : Calls Tryz.prog 15 #[.agg (cMdl x P), .string s] w (Gives (.int .i64 (siteI x.si s)) w) := by
 have HH := Lib.hid hl
 obtain ⟨hlm, hm⟩ := hl.len
 have HL := Lib.hid hlm
 obtain ⟨l, hlx⟩ : ∃ l, x.si = l := ⟨_, rfl⟩
 obtain ⟨m, hmx⟩ : ∃ m, P.sim = m := ⟨_, rfl⟩
 have FX := far (w := w) 26 (cMdl x P)
 rw [hlx] at HL HH ⊢
 rw [hmx] at HL HH hm
 have hc2 : (cMdl x P)[2]? = some (.slice P.sip m P.sic) := by rw [cMdl2, hmx]
 have FK : Hid (∀ W, Below (w.alloc (.cells (cMdl x P) 26)).heap.size (w.alloc (.cells (cMdl x P) 26)) W → W.cell? ⟨w.heap.size, 2, none⟩ = some (.slice P.sip m P.sic)) := Lib.hid fun W hb => (FX.out W hb).get hc2
 have t3 : (m : Int) ≤ 9223372036854775807 := by omega
 clear hl hlm hm hlx hmx hc2
 go_enter Tryz.func15, Tryz.ntmps15
 go_wp2_with fail
 go_loopw [5] (fun i wr => ∃ k : Nat, k ≤ m ∧ i = .int .i64 (k : Nat) ∧ Hid (Below (w.alloc (.cells (cMdl x P) 26)).heap.size (w.alloc (.cells (cMdl x P) 26)) wr) ∧ Hid (idxB (fun y => txB y.nm s) (l.take k) = -1)) (fun i _ => m - (intOf i).toNat)
 case atStart => exact ⟨0, Nat.zero_le _, rfl, Lib.hid bl, Lib.hid rfl⟩
 case round =>
  obtain ⟨k, hk, rfl, HW, HA⟩ := hrel
  have k0 : (0 : Int) ≤ (k : Int) := by omega
  have e2 := FK.out wr HW.out
  rcases Nat.lt_or_ge k m with h | h
  · have k1 : (k : Int) < (m : Int) := by omega
    have hkl : k < l.length := by rw [HL.out]; exact h
    have HX := Lib.hid (List.getElem?_eq_getElem hkl)
    obtain ⟨b, o, hp, hbG, hG, hcell⟩ := (HH.out.below RSte.map (show Below w.heap.size w wr by have HBB := HW.out; exact bl)).rows (by omega)
    rw [hp] at e2
    obtain ⟨d, hds, hat, hR⟩ := hcell.out k hkl
    obtain ⟨y, hy⟩ : ∃ y, l[k] = y := ⟨_, rfl⟩
    rw [hy] at HX hR
    obtain ⟨Q, hdQ, -⟩ := hR
    have a0 := hat.get (r := 0) (v := .string y.nm) (by rw [hdQ]; rfl)
    rw [show o + k * 13 + 0 = o + k * 13 by omega] at a0
    clear hcell hds hat hdQ hy hkl
    cases hr : txB y.nm s
    · have u1 : (y.nm.toList == s.toList) = false := by rw [tx_is]; exact hr
      have HN := Lib.hid (idxB_miss (f := fun y => txB y.nm s) HX.out HA.out hr)
      clear hr
      go_wp2_with fail
      go_roundw
      case rel => exact ⟨k + 1, by omega, by go_num, Lib.hid (by have HBB := HW.out; exact bl), HN⟩
      case measure => simp [intOf]; omega
    · have u1 : (y.nm.toList == s.toList) = true := by rw [tx_is]; exact hr
      have HN := Lib.hid (show siteI l s = (k : Int) by show fst (l.map (·.nm)) s = _; rw [← idxB_fst]; exact idxB_hit HX.out HA.out hr)
      clear hr
      go_wp2_with fail
      go_ret
      exact ⟨by rw [HN.out]; rfl, by have HBB := HW.out; exact bl⟩
  · obtain rfl : m = k := by omega
    have HT := Lib.hid (show siteI l s = -1 by show fst (l.map (·.nm)) s = _; rw [← idxB_fst]; have h1 := HA.out; rwa [List.take_of_length_le (by rw [HL.out]; exact Nat.le_refl _)] at h1)
    go_wp2_with fail
    go_ret
    exact ⟨by rw [HT.out]; rfl, by have HBB := HW.out; exact bl⟩
end Go.Proofs.YtaaffmbnhjaebaaGreat.Md
