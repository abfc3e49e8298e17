/-
  Parts of this proof: The contract of the closure of checkLinks.
-/
import Derived.Test.YtaaffmbnhjaebaaGreatZQFnd
import Derived.Test.YtaaffmbnhjaebaaGreatZQPar
namespace Go.Proofs.YtaaffmbnhjaebaaGreat.Md
open Go.RowKit Go.Maps
open Go.Proofs.YtaaffmbnhjaebaaGreat.Na (bs bs_len)
open Go.Proofs.YtaaffmbnhjaebaaGreat.Ex (Lo Gives block_lt)
attribute [local go_sem] cLnk0 cLnk1 cLnk2
set_option maxHeartbeats 4000000
set_option linter.unusedVariables false
def StepP (b : Nat) (r : Int × List (List UInt8 × List UInt8)) (w : World) (e : Ending) (w' : World) : Prop := e = .returned (.int .i64 r.1) ∧ Pcp b r.2 w' ∧ But b w w'
theorem lnk5 {si : List Ste} {l : Lnk} {acc : List (List UInt8 × List UInt8)} (h : siteI si l.fr < 0 ∨ siteI si l.tt < 0) : stepK si acc l = (5, acc) := by unfold stepK lnkT; rw [if_pos h]; rfl
theorem lnk1 {si : List Ste} {l : Lnk} {acc : List (List UInt8 × List UInt8)} (h : ¬ (siteI si l.fr < 0 ∨ siteI si l.tt < 0)) (h1 : l.fr = l.tt) : stepK si acc l = (1, acc) := by unfold stepK lnkT; rw [if_neg h, if_pos h1]; rfl
theorem lnk2 {si : List Ste} {l : Lnk} {acc : List (List UInt8 × List UInt8)} (h : ¬ (siteI si l.fr < 0 ∨ siteI si l.tt < 0)) (h1 : ¬ l.fr = l.tt) (h2 : btw 1 l.de 1000000000 = false) : stepK si acc l = (2, acc) := by unfold stepK lnkT; rw [if_neg h, if_neg h1, h2]; rfl
theorem lnk4 {si : List Ste} {l : Lnk} {acc : List (List UInt8 × List UInt8)} (h : ¬ (siteI si l.fr < 0 ∨ siteI si l.tt < 0)) (h1 : ¬ l.fr = l.tt) (h2 : btw 1 l.de 1000000000 = true) (h3 : lnkK l ∈ acc) : stepK si acc l = (4, acc) := by unfold stepK lnkT; rw [if_neg h, if_neg h1, h2]; simp [h3]
theorem lnk0 {si : List Ste} {l : Lnk} {acc : List (List UInt8 × List UInt8)} (h : ¬ (siteI si l.fr < 0 ∨ siteI si l.tt < 0)) (h1 : ¬ l.fr = l.tt) (h2 : btw 1 l.de 1000000000 = true) (h3 : ¬ lnkK l ∈ acc) : stepK si acc l = (0, acc ++ [lnkK l]) := by unfold stepK lnkT; rw [if_neg h, if_neg h1, h2]; simp [h3]
theorem zQLnk_1 {p : Prop} (h : p := by
 go_wp2_with fail
 go_ret
 exact ⟨rfl, HS.out.on bl, But.of bl⟩
 ) : p := h
theorem zQLnk_0 {p : Prop} (h : p := by
 go_enter Tryz.func61, Tryz.ntmps61
 go_wp2_with fail
 refine (S1.out _ bl).mono ?_
 rintro e v1 ⟨rfl, hb1⟩
 obtain ⟨q1, q2, q3, q4, q5, q6, q7⟩ := FY.out v1 bl
 go_wp2_with fail
 clear q1 q2 q3 q4 q5 q6 q7
 refine (S2.out _ bl).mono ?_
 rintro e v2 ⟨rfl, hb2⟩
 obtain ⟨q1, q2, q3, q4, q5, q6, q7⟩ := FY.out v2 bl
 exact zQLnk_1
 ) : p := h
set_option maxRecDepth 100000 in
theorem clo_Lnk (x : Lnk) (M : Mdl) (PM : PMdl) (b B1 B2 : Nat) (acc : List (List UInt8 × List UInt8)) (w : World) (hS : Pcp b acc w) (hn : acc.length ≤ 100000) (hx1 : x.fr.size ≤ 1000000000) (hx2 : x.tt.size ≤ 1000000000)
 (hv : w.cell? ⟨B1, 0, none⟩ = some (.map (some b))) (hB2 : Box w B2 26 (cMdl M PM)) (hsi : Rw 13 RSte (Lo w.heap.size) w M.si PM.sip PM.sim) :
 Calls Tryz.prog 61 #[.agg (cLnk x), .pointer (some ⟨B2, 0, none⟩), .pointer (some ⟨B1, 0, none⟩)] w (StepP b (stepK M.si acc x) w) := by
 have HS := Lib.hid hS
 have HV := Lib.hid hv
 have HB := Lib.hid hB2
 have HI := Lib.hid hsi
 have FX := far2 (w := w) 49 115 (cLnk x) #[.string x.fr, .string x.tt]
 obtain ⟨n4, hn4⟩ : ∃ n : Nat, 4 = n := ⟨_, rfl⟩
 have hsz4 : ∀ w, (sizeOf 26).run Tryz.prog w = .ok n4 w := fun w => by rw [Tryz.sizeOf26, hn4]
 have HN4 := Lib.hid hn4
 have FY : Hid (∀ W, Below ((w.alloc (.cells (cLnk x) 49)).alloc (.cells #[.string x.fr, .string x.tt] 115)).heap.size ((w.alloc (.cells (cLnk x) 49)).alloc (.cells #[.string x.fr, .string x.tt] 115)) W → W.cell? ⟨w.heap.size, 0, none⟩ = some (.string x.fr) ∧ W.cell? ⟨w.heap.size, 1, none⟩ = some (.string x.tt) ∧ W.cell? ⟨w.heap.size, 2, none⟩ = some (.int .i64 x.de) ∧ W.cell? ⟨w.heap.size + 1, 0, none⟩ = some (.string x.fr) ∧ W.cell? ⟨w.heap.size + 1, 1, none⟩ = some (.string x.tt) ∧ W.cell? ⟨B1, 0, none⟩ = some (.map (some b)) ∧ (loadCellsFrom ⟨B2, 0, none⟩ 0 n4 #[]).run Tryz.prog W = .ok (cMdl M PM) W) := Lib.hid fun W hb => by
  have q := FX.out W hb
  have hW : Below w.heap.size w W := bl
  exact ⟨q.1.get (cLnk0 x), q.1.get (cLnk1 x), q.1.get (cLnk2 x), q.2.get rfl, q.2.get rfl, (hW.cell (p := ⟨B1, 0, none⟩) (block_lt HV.out)).trans HV.out, (HB.out.on hW).cell.ldN HN4.out⟩
 have ld := (HB.out.on (show Below w.heap.size w ((w.alloc (.cells (cLnk x) 49)).alloc (.cells #[.string x.fr, .string x.tt] 115)) by exact bl)).cell.ldN HN4.out
 obtain ⟨i1, h1⟩ : ∃ v, siteI M.si x.fr = v := ⟨_, rfl⟩
 obtain ⟨i2, h2⟩ : ∃ v, siteI M.si x.tt = v := ⟨_, rfl⟩
 obtain ⟨r, hr⟩ : ∃ v, btw 1 x.de 1000000000 = v := ⟨_, rfl⟩
 have S1 := Lib.hid (fun W (hW : Below w.heap.size w W) => (show Calls Tryz.prog 14 #[.agg (cMdl M PM), .string x.fr] W (Gives (.int .i64 i1) W) by rw [← h1]; exact site_any M PM x.fr W (HI.out.on RSte.map hW)))
 have S2 := Lib.hid (fun W (hW : Below w.heap.size w W) => (show Calls Tryz.prog 14 #[.agg (cMdl M PM), .string x.tt] W (Gives (.int .i64 i2) W) by rw [← h2]; exact site_any M PM x.tt W (HI.out.on RSte.map hW)))
 have CB := Lib.hid (fun W => between_gives hr W)
 by_cases g1 : i1 < 0
 · rw [lnk5 (.inl (by rw [h1]; exact g1))]
   have d1 := decide_eq_true g1
   clear hS hv hB2 hsi hn4 h1 h2 hr
   go_enter Tryz.func61, Tryz.ntmps61
   go_wp2_with fail
   refine (S1.out _ bl).mono ?_
   rintro e v1 ⟨rfl, hb1⟩
   exact zQLnk_1
 have d1 := decide_eq_false g1
 by_cases g2 : i2 < 0
 · rw [lnk5 (.inr (by rw [h2]; exact g2))]
   have d2 := decide_eq_true g2
   clear hS hv hB2 hsi hn4 h1 h2 hr
   exact zQLnk_0
 have d2 := decide_eq_false g2
 have h0 : ¬ (siteI M.si x.fr < 0 ∨ siteI M.si x.tt < 0) := by rw [h1, h2]; omega
 by_cases g3 : x.fr = x.tt
 · rw [lnk1 h0 g3]
   have u3 : (x.fr.toList == x.tt.toList) = true := by rw [tx_eq]; exact decide_eq_true g3
   clear hS hv hB2 hsi hn4 h1 h2 hr h0 g3
   exact zQLnk_0
 have u3 : (x.fr.toList == x.tt.toList) = false := by rw [tx_eq]; exact decide_eq_false g3
 cases r with
 | false =>
  rw [lnk2 h0 g3 hr]
  clear hS hv hB2 hsi hn4 h1 h2 hr h0 g3
  go_enter Tryz.func61, Tryz.ntmps61
  go_wp2_with fail
  refine (S1.out _ bl).mono ?_
  rintro e v1 ⟨rfl, hb1⟩
  obtain ⟨q1, q2, q3, q4, q5, q6, q7⟩ := FY.out v1 bl
  go_wp2_with fail
  clear q1 q2 q3 q4 q5 q6 q7
  refine (S2.out _ bl).mono ?_
  rintro e v2 ⟨rfl, hb2⟩
  obtain ⟨q1, q2, q3, q4, q5, q6, q7⟩ := FY.out v2 bl
  go_wp2_with fail
  refine (CB.out _).mono ?_
  rintro e v3 ⟨rfl, rfl⟩
  exact zQLnk_1
 | true =>
  have hl := fun W (hW : Pcp b acc W) => look_pair hW hx1 hx2
  by_cases g4 : (bs x.fr, bs x.tt) ∈ acc
  · rw [lnk4 h0 g3 hr g4]
    rw [decide_eq_true g4] at hl
    have HLK := Lib.hid hl
    clear hS hv hB2 hsi hn4 h1 h2 hr h0 g3 g4 hl
    go_enter Tryz.func61, Tryz.ntmps61
    go_wp2_with fail
    refine (S1.out _ bl).mono ?_
    rintro e v1 ⟨rfl, hb1⟩
    obtain ⟨q1, q2, q3, q4, q5, q6, q7⟩ := FY.out v1 bl
    go_wp2_with fail
    clear q1 q2 q3 q4 q5 q6 q7
    refine (S2.out _ bl).mono ?_
    rintro e v2 ⟨rfl, hb2⟩
    obtain ⟨q1, q2, q3, q4, q5, q6, q7⟩ := FY.out v2 bl
    have hl := HLK.out v2 (HS.out.on bl)
    go_wp2_with fail
    refine (CB.out _).mono ?_
    rintro e v3 ⟨rfl, rfl⟩
    exact zQLnk_1
  · rw [lnk0 h0 g3 hr g4]
    rw [decide_eq_false g4] at hl
    have HLK := Lib.hid hl
    have hkey := key_pair hx1 hx2
    have HSH : Hid (Shr (lnkK x)) := Lib.hid ⟨by show (bs x.fr).length ≤ _; rw [bs_len]; exact hx1, by show (bs x.tt).length ≤ _; rw [bs_len]; exact hx2⟩
    clear hS hv hB2 hsi hn4 h1 h2 hr h0 g3 g4 hl
    go_enter Tryz.func61, Tryz.ntmps61
    go_wp2_with fail
    refine (S1.out _ bl).mono ?_
    rintro e v1 ⟨rfl, hb1⟩
    obtain ⟨q1, q2, q3, q4, q5, q6, q7⟩ := FY.out v1 bl
    go_wp2_with fail
    clear q1 q2 q3 q4 q5 q6 q7
    refine (S2.out _ bl).mono ?_
    rintro e v2 ⟨rfl, hb2⟩
    obtain ⟨q1, q2, q3, q4, q5, q6, q7⟩ := FY.out v2 bl
    have HS2 := Lib.hid (HS.out.on (show Below w.heap.size w v2 by exact bl))
    have hl := HLK.out v2 HS2.out
    have HB2 : Hid (Below w.heap.size w v2) := Lib.hid bl
    go_wp2_with fail
    refine (CB.out _).mono ?_
    rintro e v3 ⟨rfl, rfl⟩
    go_wp2_with (at_mapUpdate; refine wpList_mapUpdate_own _ rfl _ _ _ 113 rfl 115 4 lawK Tryz.underlying113 _ b acc.length _ rfl HS2.out.1 (by unfold maxLen; omega) _ _ _ rfl rfl hkey _ [] (plainElem_bool Tryz.underlying4 true) ?_)
    intro w3 hown3 hgrow3
    have HO3 := Lib.hid hown3
    rw [Da_snoc] at HO3
    have HG := Lib.hid hgrow3
    clear hown3 hgrow3 hl q1 q2 q3 q4 q5 q6 q7
    go_wp2_with fail
    go_ret
    refine ⟨rfl, ⟨?_, fun p hp => ?_⟩, (But.of HB2.out).trans ⟨HG.out.os, HG.out.tape, HG.out.output, HG.out.size, fun k hk hne => HG.out.block k hk (fun e => hne (Option.some.inj e))⟩⟩
    · show World.ownsMap _ _ _ _ b (acc ++ [lnkK x]).length (Da ((acc ++ [lnkK x]).map keyP))
      rw [List.map_append, List.length_append]
      exact HO3.out
    · rcases List.mem_append.1 hp with hp | hp
      · exact HS2.out.2 p hp
      · rw [List.mem_singleton.1 hp]; exact HSH.out
end Go.Proofs.YtaaffmbnhjaebaaGreat.Md
