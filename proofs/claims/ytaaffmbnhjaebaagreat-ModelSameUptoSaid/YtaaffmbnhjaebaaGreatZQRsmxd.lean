/-
  Parts of this proof: The contract of the reference's sameLaw.
-/
import Derived.Test.YtaaffmbnhjaebaaGreatZQEqu
namespace Go.Proofs.YtaaffmbnhjaebaaGreat.Md
open Go.RowKit
open Go.Proofs.YtaaffmbnhjaebaaGreat.Ex (Lo Gives ret_bool)
set_option maxHeartbeats 4000000
set_option linter.unusedVariables false
theorem zQRsmd_0 {p : Prop} (h : p := by
 clear hlm hlm2 hm hm2 h1
 go_enter Tryz.func96, Tryz.ntmps96
 go_wp2_with fail
 go_ret
 exact ⟨by rw [HN.out]; rfl, bl⟩
 ) : p := h
set_option maxRecDepth 100000 in
theorem rlaw_same (x y : Lw) (P Q : PLw) (w : World) (hx : OLw (Lo w.heap.size) w x P) (hy : OLw (Lo w.heap.size) w y Q) : Calls Tryz.prog 96 #[.agg (cLw x P), .agg (cLw y Q)] w (Gives (.bool (lwB x y)) w) := by
 have HH := Lib.hid hx.ts
 have HH2 := Lib.hid hy.ts
 obtain ⟨hlm, hm⟩ := hx.ts.len
 obtain ⟨hlm2, hm2⟩ := hy.ts.len
 obtain ⟨l, hlx⟩ : ∃ l, x.ts = l := ⟨_, rfl⟩
 obtain ⟨l2, hlx2⟩ : ∃ l, y.ts = l := ⟨_, rfl⟩
 obtain ⟨m, hmx⟩ : ∃ m, P.tsm = m := ⟨_, rfl⟩
 obtain ⟨m2, hmx2⟩ : ∃ m, Q.tsm = m := ⟨_, rfl⟩
 have FX := far2 (w := w) 57 57 (cLw x P) (cLw y Q)
 have c1 : (cLw x P)[1]? = some (.slice P.tsp m P.tsc) := by rw [cLw1, hmx]
 have c2 : (cLw y Q)[1]? = some (.slice Q.tsp m2 Q.tsc) := by rw [cLw1, hmx2]
 rw [hmx, hlx] at HH hlm
 rw [hmx] at hm
 rw [hmx2, hlx2] at HH2 hlm2
 rw [hmx2] at hm2
 have HL := Lib.hid hlm
 have HL2 := Lib.hid hlm2
 have HB := Lib.hid (show lwB x y = (txB x.nm y.nm && eqB tmB l l2 && inB x.tt y.tt) by unfold lwB; rw [hlx, hlx2])
 have FK : Hid (∀ W, Below ((w.alloc (.cells (cLw x P) 57)).alloc (.cells (cLw y Q) 57)).heap.size ((w.alloc (.cells (cLw x P) 57)).alloc (.cells (cLw y Q) 57)) W → W.cell? ⟨w.heap.size, 0, none⟩ = some (.string x.nm) ∧ W.cell? ⟨w.heap.size, 1, none⟩ = some (.slice P.tsp m P.tsc) ∧ W.cell? ⟨w.heap.size, 2, none⟩ = some (.int .i64 x.tt) ∧ W.cell? ⟨w.heap.size + 1, 0, none⟩ = some (.string y.nm) ∧ W.cell? ⟨w.heap.size + 1, 1, none⟩ = some (.slice Q.tsp m2 Q.tsc) ∧ W.cell? ⟨w.heap.size + 1, 2, none⟩ = some (.int .i64 y.tt)) := Lib.hid fun W hb => by
  have q := FX.out W hb
  exact ⟨q.1.get (cLw0 x P), q.1.get c1, q.1.get (cLw2 x P), q.2.get (cLw0 y Q), q.2.get c2, q.2.get (cLw2 y Q)⟩
 have t3 : (m : Int) ≤ 9223372036854775807 := by omega
 obtain ⟨g0, g1, g2, g3, g4, g5⟩ := FK.out ((w.alloc (.cells (cLw x P) 57)).alloc (.cells (cLw y Q) 57)) (Below.refl _ _)
 have z0 : (x.nm.toList == y.nm.toList) = txB x.nm y.nm := tx_is _ _
 clear hx hy c1 c2 hlx hlx2 hmx hmx2
 cases h1 : txB x.nm y.nm
 · have HN : Hid (lwB x y = false) := Lib.hid (by rw [HB.out, h1]; rfl)
   rw [h1] at z0
   exact zQRsmd_0
 rw [h1] at z0
 by_cases h2 : x.tt = y.tt
 rotate_left 1
 · have HN : Hid (lwB x y = false) := Lib.hid (by rw [HB.out, show inB x.tt y.tt = false from decide_eq_false h2, Bool.and_false])
   have u1 : (x.tt == y.tt) = false := beq_eq_false_iff_ne.2 h2
   have u2 : (x.tt != y.tt) = true := bne_iff_ne.2 h2
   exact zQRsmd_0
 have u1 : (x.tt == y.tt) = true := beq_iff_eq.2 h2
 have u2 : (x.tt != y.tt) = false := by rw [bne, u1]; rfl
 by_cases hmm : m = m2
 rotate_left 1
 · have HN : Hid (lwB x y = false) := Lib.hid (by rw [HB.out, eqB_len (f := tmB) (l := l) (m := l2) (by omega), Bool.and_false]; rfl)
   have u3 : ((m : Int) == (m2 : Int)) = false := beq_eq_false_iff_ne.2 (by omega)
   have u4 : ((m : Int) != (m2 : Int)) = true := bne_iff_ne.2 (by omega)
   have u5 : (m == m2) = false := beq_eq_false_iff_ne.2 hmm
   have u6 : (m != m2) = true := bne_iff_ne.2 hmm
   exact zQRsmd_0
 subst hmm
 have HE : Hid (lwB x y = eqB tmB l l2) := Lib.hid (by rw [HB.out, h1, show inB x.tt y.tt = true from decide_eq_true h2, Bool.and_true, Bool.true_and])
 clear hlm hm hlm2 hm2 h1
 obtain ⟨kk, hkk⟩ : ∃ n : Nat, 3 = n := ⟨_, rfl⟩
 have hsz : ∀ w, (sizeOf 54).run Tryz.prog w = .ok kk w := fun w => by rw [Tryz.sizeOf54, hkk]
 have HKK := Lib.hid hkk
 clear hkk
 go_enter Tryz.func96, Tryz.ntmps96
 go_wp2_with fail
 clear g0 g1 g2 g3 g4 g5
 go_loopw [5] (fun i wr => ∃ k : Nat, k ≤ m ∧ i = .int .i64 (k : Nat) ∧ Hid (Below ((w.alloc (.cells (cLw x P) 57)).alloc (.cells (cLw y Q) 57)).heap.size ((w.alloc (.cells (cLw x P) 57)).alloc (.cells (cLw y Q) 57)) wr) ∧ Hid (eqB tmB (l.take k) (l2.take k) = true)) (fun i _ => m - (intOf i).toNat)
 case atStart => exact ⟨0, Nat.zero_le _, rfl, Lib.hid bl, Lib.hid rfl⟩
 case round =>
  obtain ⟨k, hk, rfl, HW, HA⟩ := hrel
  have k0 : (0 : Int) ≤ (k : Int) := by omega
  obtain ⟨g0, g1, g2, g3, g4, g5⟩ := FK.out wr HW.out
  clear g0 g2 g3 g5
  rcases Nat.lt_or_ge k m with h | h
  · have k1 : (k : Int) < (m : Int) := by omega
    have hkl : k < l.length := by rw [HL.out]; exact h
    have hkl2 : k < l2.length := by rw [HL2.out]; exact h
    have HX := Lib.hid (List.getElem?_eq_getElem hkl)
    have HX2 := Lib.hid (List.getElem?_eq_getElem hkl2)
    have hbw : Below w.heap.size w wr := by have HBB := HW.out; exact bl
    obtain ⟨b, o, hp, hbG, hG, hcell⟩ := (HH.out.below RTrm.map hbw).rows (by omega)
    obtain ⟨c, hcs, hat, hR⟩ := hcell.out k hkl
    obtain ⟨b2, o2, hp2, hbG2, hG2, hcell2⟩ := (HH2.out.below RTrm.map hbw).rows (by omega)
    obtain ⟨d, hcs2, hat2, hR2⟩ := hcell2.out k hkl2
    rw [hp] at g1
    rw [hp2] at g4
    have hcsz : c.size = kk := by rw [hcs, HKK.out]
    have hcsz2 : d.size = kk := by rw [hcs2, HKK.out]
    have bt : Big 54 c.size := by rw [hcs]; exact bTrm
    have bt2 : Big 54 d.size := by rw [hcs2]; exact bTrm
    have ld1 := fun n => At.ldN (w := wr.drewN n) (hat.at HKK.out) hcsz
    have ld2 := fun n => At.ldV (w := wr.drewN n) (hat.at HKK.out) bt
    have ld3 := fun n => At.ldA (w := wr.drewN n) (hat.at HKK.out) bt
    have ld4 := fun n => At.ldN (w := wr.drewN n) (hat2.at HKK.out) hcsz2
    have ld5 := fun n => At.ldV (w := wr.drewN n) (hat2.at HKK.out) bt2
    have ld6 := fun n => At.ldA (w := wr.drewN n) (hat2.at HKK.out) bt2
    have heq : ∀ W, (Op.equalIn 10000 54 (.agg c) (.agg d)).run Tryz.prog W = .ok (tmB l[k] l2[k]) W := fun W => by rw [hR, hR2]; exact eq_Trm _ _ W
    obtain ⟨x1, hx⟩ : ∃ x, l[k] = x := ⟨_, rfl⟩
    obtain ⟨y1, hy⟩ : ∃ y, l2[k] = y := ⟨_, rfl⟩
    rw [hx] at HX heq
    rw [hy] at HX2 heq
    clear bt bt2 hx hy
    clear hcell hcs hat hR hkl hcell2 hcs2 hat2 hR2 hkl2 hbw
    cases hr : tmB x1 y1
    · have H := Lib.hid (eqB_stop HX.out HX2.out hr)
      rw [hr] at heq
      clear hr
      go_wp2_with fail
      try (go_quiet (fail); go_wp2_with fail)
      go_ret
      exact ⟨by rw [HE.out]; exact ret_bool H.out.symm, by have HBB := HW.out; exact bl⟩
    · have H := Lib.hid (eqB_take HX.out HX2.out HA.out hr)
      rw [hr] at heq
      clear hr
      go_wp2_with fail
      try (go_quiet (fail); go_wp2_with fail)
      go_roundw
      case rel => exact ⟨k + 1, by omega, by go_num, Lib.hid (by have HBB := HW.out; exact bl), H⟩
      case measure => simp [intOf]; omega
  · obtain rfl : m = k := by omega
    have HT := Lib.hid (show eqB tmB l l2 = true by have h1 := HA.out; rwa [List.take_of_length_le (by rw [HL.out]; exact Nat.le_refl _), List.take_of_length_le (by rw [HL2.out]; exact Nat.le_refl _)] at h1)
    go_wp2_with fail
    go_ret
    exact ⟨by rw [HE.out]; exact ret_bool HT.out.symm, by have HBB := HW.out; exact bl⟩
end Go.Proofs.YtaaffmbnhjaebaaGreat.Md
