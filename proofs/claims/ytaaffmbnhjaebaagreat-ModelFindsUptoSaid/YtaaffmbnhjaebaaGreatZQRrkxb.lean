/-
  Parts of this proof: The contracts of the reference's Routine, Kind and Index. The contracts of the reference's Site and Link.
-/
import Derived.Test.YtaaffmbnhjaebaaGreatZQRrkxab
namespace Go.Proofs.YtaaffmbnhjaebaaGreat.Md
open Go.RowKit
open Go.Proofs.YtaaffmbnhjaebaaGreat.Na (fst)
open Go.Proofs.YtaaffmbnhjaebaaGreat.Ex (Lo Gives)
set_option maxHeartbeats 4000000
set_option linter.unusedVariables false
set_option maxRecDepth 100000 in
theorem rindex_any (x : Ste) (P : PSte) (s : ByteArray) (w : World) (hx : OSte (Lo w.heap.size) w x P) (hn : NzSte x) : Calls Tryz.prog 21 #[.agg (cSte x P), .string s] w (Gives (.int .i64 (idxV x s)) w) := by
 have CN := Lib.hid (fun W (hW : Below w.heap.size w W) => names_any x P W (hx.on hW) hn)
 have HI := Lib.hid (show idxV x s = (plcI words ((names x).map fun l => fst l s)).2 by rw [plcI_is])
 have HNL := Lib.hid (show (names x).length = 10 from rfl)
 obtain ⟨n13, hn13⟩ : ∃ n : Nat, 13 = n := ⟨_, rfl⟩
 have hsz13 : ∀ w, (sizeOf 42).run Tryz.prog w = .ok n13 w := fun w => by rw [Tryz.sizeOf42, hn13]
 have ld13 := fun W => run_loadCellsFrom_new (P := Tryz.prog) W 42 (cSte x P) n13 (by rw [cSte_size]; exact hn13)
 clear hn13
 clear hx hn
 go_enter Tryz.func21, Tryz.ntmps21
 go_wp2_with fail
 refine (CN.out _ bl).mono ?_
 rintro e w2 ⟨B, rfl, hB, hb2, hN⟩
 have HN := Lib.hid hN
 have HBW := Lib.hid (show Below w.heap.size w w2 by exact bl)
 clear hN hB hb2
 go_wp2_with fail
 go_loopw [6] (fun i wr => ∃ j : Nat, j ≤ 10 ∧ i = .int .i64 j ∧ Hid (Below w2.heap.size w2 wr) ∧ Hid (plcI words ((names x).map fun l => fst l s) = plcI (words.drop j) (((names x).map fun l => fst l s).drop j))) (fun i _ => 10 - (intOf i).toNat)
 case atStart => exact ⟨0, Nat.zero_le _, rfl, Lib.hid (Below.refl _ _), Lib.hid rfl⟩
 case round =>
  obtain ⟨j, hj, rfl, HW, HP⟩ := hrel
  have j0 : (0 : Int) ≤ (j : Int) := by omega
  have hbw : Below w.heap.size w wr := HBW.out.trans (HW.out.mono HBW.out.size)
  have HBB := Lib.hid hbw
  clear hbw
  rcases Nat.lt_or_ge j 10 with h | h
  · have j1 : (j : Int) < 10 := by omega
    have hjl : j < (names x).length := by rw [HNL.out]; exact h
    obtain ⟨p, m, c, e1, h1⟩ := HN.out.on HW.out j hjl
    have HS := Lib.hid h1.strs
    obtain ⟨i, hi⟩ : ∃ i, fst (names x)[j] s = i := ⟨_, rfl⟩
    have HE := Lib.hid (plcI_step (ws := words) (is := (names x).map fun l => fst l s) (j := j) (i := i) (List.getElem?_eq_getElem (show j < words.length from h)) (by rw [List.getElem?_map, List.getElem?_eq_getElem hjl, Option.map_some, hi]))
    have CF := Lib.hid (fun W (hW : Below wr.heap.size wr W) => rfind_at p m c _ s W hi ((h1.onB hW).strs))
    clear h1 hi
    by_cases g : 0 ≤ i
    · have d := decide_eq_true g
      have HV := Lib.hid (show idxV x s = i by rw [HI.out, HP.out, HE.out, if_pos g])
      go_wp2_with fail
      refine (CF.out _ bl).mono ?_
      rintro e w3 ⟨rfl, hb3⟩
      go_wp2_with fail
      go_ret
      exact ⟨by rw [HV.out]; rfl, by have HC := HBB.out; exact bl⟩
    · have d := decide_eq_false g
      have g2 : i < 0 := by omega
      have HV := Lib.hid (show plcI words ((names x).map fun l => fst l s) = plcI (words.drop (j + 1)) (((names x).map fun l => fst l s).drop (j + 1)) by rw [HP.out, HE.out, if_neg g])
      go_wp2_with fail
      refine (CF.out _ bl).mono ?_
      rintro e w3 ⟨rfl, hb3⟩
      go_wp2_with fail
      go_roundw
      case rel => exact ⟨j + 1, by omega, by go_num, Lib.hid (by have HC := HW.out; exact bl), HV⟩
      case measure => simp [intOf]; omega
  · obtain rfl : j = 10 := by omega
    have HE := Lib.hid (show (plcI words ((names x).map fun l => fst l s)).2 = -1 by rw [HP.out]; rfl)
    go_wp2_with fail
    go_ret
    exact ⟨by rw [HI.out, HE.out]; rfl, by have HC := HBB.out; exact bl⟩
end Go.Proofs.YtaaffmbnhjaebaaGreat.Md
namespace Go.Proofs.YtaaffmbnhjaebaaGreat.Md
open Go.RowKit
open Go.Proofs.YtaaffmbnhjaebaaGreat.Ex (Lo Gives)
set_option maxHeartbeats 2000000
set_option linter.unusedVariables false
theorem zQRlkb_0 {p : Prop} (h : p := by
 go_wp2_with fail
 go_roundw
 case rel => exact ⟨k + 1, by omega, by go_num, Lib.hid (by have HBB := HW.out; exact bl), HN⟩
 case measure => simp [intOf]; omega
 ) : p := h
set_option maxRecDepth 100000 in
theorem rlink_any (x : Mdl) (P : PMdl) (s t : ByteArray) (w : World) (hl : Rw 3 RLnk (Lo w.heap.size) w x.li P.lip P.lim) : Calls Tryz.prog 13 #[.agg (cMdl x P), .string s, .string t] w (Gives (lnkR (lnkV x.li s t)) w) := by
 have HH := Lib.hid hl
 obtain ⟨hlm, hm⟩ := hl.len
 have HL := Lib.hid hlm
 obtain ⟨l, hlx⟩ : ∃ l, x.li = l := ⟨_, rfl⟩
 obtain ⟨m, hmx⟩ : ∃ m, P.lim = m := ⟨_, rfl⟩
 have FX := far (w := w) 26 (cMdl x P)
 rw [hlx] at HL HH ⊢
 rw [hmx] at HL HH hm
 have hc3 : (cMdl x P)[3]? = some (.slice P.lip m P.lic) := by rw [cMdl3, hmx]
 have FK : Hid (∀ W, Below (w.alloc (.cells (cMdl x P) 26)).heap.size (w.alloc (.cells (cMdl x P) 26)) W → W.cell? ⟨w.heap.size, 3, none⟩ = some (.slice P.lip m P.lic)) := Lib.hid fun W hb => (FX.out W hb).get hc3
 have t3 : (m : Int) ≤ 9223372036854775807 := by omega
 clear hl hlm hm hlx hmx hc3
 go_enter Tryz.func13, Tryz.ntmps13
 go_wp2_with fail
 go_loopw [8] (fun i wr => ∃ k : Nat, k ≤ m ∧ i = .int .i64 (k : Nat) ∧ Hid (Below (w.alloc (.cells (cMdl x P) 26)).heap.size (w.alloc (.cells (cMdl x P) 26)) wr) ∧ Hid ((lnkV (l.take k) s t).2 = false)) (fun i _ => m - (intOf i).toNat)
 case atStart => exact ⟨0, Nat.zero_le _, rfl, Lib.hid bl, Lib.hid rfl⟩
 case round =>
  obtain ⟨k, hk, rfl, HW, HA⟩ := hrel
  have k0 : (0 : Int) ≤ (k : Int) := by omega
  have e2 := FK.out wr HW.out
  rcases Nat.lt_or_ge k m with h | h
  · have k1 : (k : Int) < (m : Int) := by omega
    have hkl : k < l.length := by rw [HL.out]; exact h
    have HX := Lib.hid (List.getElem?_eq_getElem hkl)
    obtain ⟨b, o, hp, hbG, hG, hcell⟩ := (HH.out.below RLnk.map (show Below w.heap.size w wr by have HBB := HW.out; exact bl)).rows (by omega)
    rw [hp] at e2
    obtain ⟨d, hds, hat, hR⟩ := hcell.out k hkl
    obtain ⟨y, hy⟩ : ∃ y, l[k] = y := ⟨_, rfl⟩
    rw [hy] at HX hR
    have a0 := hat.get (r := 0) (v := .string y.fr) (by rw [hR]; rfl)
    have a1 := hat.get (r := 1) (v := .string y.tt) (by rw [hR]; rfl)
    have a2 := hat.get (r := 2) (v := .int .i64 y.de) (by rw [hR]; rfl)
    rw [show o + k * 3 + 0 = o + k * 3 by omega] at a0
    clear hcell hds hat hR hy hkl
    by_cases h1 : y.fr = s
    · have u1 : (y.fr.toList == s.toList) = true := by rw [tx_eq]; exact decide_eq_true h1
      by_cases h2 : y.tt = t
      · have u2 : (y.tt.toList == t.toList) = true := by rw [tx_eq]; exact decide_eq_true h2
        have HN := Lib.hid (lnkV_hit HX.out HA.out ⟨h1, h2⟩)
        clear h1 h2
        go_wp2_with fail
        go_ret2
        exact ⟨by rw [HN.out]; rfl, by have HBB := HW.out; exact bl⟩
      · have u2 : (y.tt.toList == t.toList) = false := by rw [tx_eq]; exact decide_eq_false h2
        have HN := Lib.hid (lnkV_take HX.out HA.out (fun e => h2 e.2))
        clear h1 h2
        exact zQRlkb_0
    · have u1 : (y.fr.toList == s.toList) = false := by rw [tx_eq]; exact decide_eq_false h1
      have HN := Lib.hid (lnkV_take HX.out HA.out (fun e => h1 e.1))
      clear h1
      exact zQRlkb_0
  · obtain rfl : m = k := by omega
    have HT := Lib.hid (lnkV_none (show (lnkV l s t).2 = false by have h1 := HA.out; rwa [List.take_of_length_le (by rw [HL.out]; exact Nat.le_refl _)] at h1))
    go_wp2_with fail
    go_ret2
    exact ⟨by rw [HT.out]; rfl, by have HBB := HW.out; exact bl⟩
end Go.Proofs.YtaaffmbnhjaebaaGreat.Md
