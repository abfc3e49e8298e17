/-
  Parts of this proof: The contracts of the reference's Routine, Kind and Index.
-/
import Derived.Test.YtaaffmbnhjaebaaGreatZNmFindxab
import Derived.Test.YtaaffmbnhjaebaaGreatZQRnm
import Derived.Test.YtaaffmbnhjaebaaGreatZQPlc
import Derived.Test.YtaaffmbnhjaebaaGreatZQRrkxabc
namespace Go.Proofs.YtaaffmbnhjaebaaGreat.Md
open Go.RowKit
open Go.Proofs.YtaaffmbnhjaebaaGreat.Na (Strs fst)
open Go.Proofs.YtaaffmbnhjaebaaGreat.Ex (Lo Gives block_lt)
set_option maxHeartbeats 4000000
set_option linter.unusedVariables false
theorem rfind_at (p : Option Addr) (m c : Nat) (l : List ByteArray) (s : ByteArray) (w : World) {v : Int} (hv : fst l s = v) (hb : Strs w p m l) : Calls Tryz.prog 43 #[.slice p m c, .string s] w (Gives (.int .i64 v) w) := by
 subst hv
 exact (Na.rfind_any p m c l s w hb).mono fun e w' h => ⟨h.1, by rw [h.2]; exact Below.refl _ _⟩
set_option maxRecDepth 100000 in
theorem rroutine_any (x : Ste) (P : PSte) (s : ByteArray) (w : World) (hx : OSte (Lo w.heap.size) w x P) (hn : NzSte x) : Calls Tryz.prog 17 #[.agg (cSte x P), .string s] w (Gives (.int .i64 (rouI x.ro s)) w) := by
 have CN := Lib.hid (fun W (hW : Below w.heap.size w W) => names_any x P W (hx.on hW) hn)
 obtain ⟨n13, hn13⟩ : ∃ n : Nat, 13 = n := ⟨_, rfl⟩
 have hsz13 : ∀ w, (sizeOf 42).run Tryz.prog w = .ok n13 w := fun w => by rw [Tryz.sizeOf42, hn13]
 have ld13 := fun W => run_loadCellsFrom_new (P := Tryz.prog) W 42 (cSte x P) n13 (by rw [cSte_size]; exact hn13)
 clear hn13
 clear hx hn
 go_enter Tryz.func17, Tryz.ntmps17
 go_wp2_with fail
 refine (CN.out _ bl).mono ?_
 rintro e w2 ⟨B, rfl, hB, hb2, hN⟩
 obtain ⟨p9, m9, c9, e9, h9⟩ := hN 9 (show 9 < 10 by decide)
 have HS := Lib.hid (show Strs w2 p9 m9 (x.ro.map (·.nm)) from h9.strs)
 clear hN h9
 go_wp2_with fail
 refine (rfind_at p9 m9 c9 _ s _ rfl HS.out).mono ?_
 rintro e w3 ⟨rfl, hb3⟩
 go_wp2_with fail
 go_ret
 exact ⟨rfl, bl⟩
theorem plcI_step {ws : List ByteArray} {is : List Int} {j : Nat} {w : ByteArray} {i : Int} (h1 : ws[j]? = some w) (h2 : is[j]? = some i) : plcI (ws.drop j) (is.drop j) = if 0 ≤ i then (w, i) else plcI (ws.drop (j + 1)) (is.drop (j + 1)) := by
 obtain ⟨hj, e1⟩ := List.getElem?_eq_some_iff.1 h1
 obtain ⟨hk, e2⟩ := List.getElem?_eq_some_iff.1 h2
 rw [List.drop_eq_getElem_cons hj, List.drop_eq_getElem_cons hk, e1, e2, plcI]
set_option maxRecDepth 100000 in
theorem rkind_any (x : Ste) (P : PSte) (s : ByteArray) (w : World) (hx : OSte (Lo w.heap.size) w x P) (hn : NzSte x) : Calls Tryz.prog 19 #[.agg (cSte x P), .string s] w (Gives (.string (kindV x s)) w) := by
 have CN := Lib.hid (fun W (hW : Below w.heap.size w W) => names_any x P W (hx.on hW) hn)
 have HI := Lib.hid (show kindV x s = (plcI words ((names x).map fun l => fst l s)).1 by rw [plcI_is])
 have HNL := Lib.hid (show (names x).length = 10 from rfl)
 obtain ⟨n13, hn13⟩ : ∃ n : Nat, 13 = n := ⟨_, rfl⟩
 have hsz13 : ∀ w, (sizeOf 42).run Tryz.prog w = .ok n13 w := fun w => by rw [Tryz.sizeOf42, hn13]
 have ld13 := fun W => run_loadCellsFrom_new (P := Tryz.prog) W 42 (cSte x P) n13 (by rw [cSte_size]; exact hn13)
 clear hn13
 clear hx hn
 go_enter Tryz.func19, Tryz.ntmps19
 go_wp2_with fail
 refine (CN.out _ bl).mono ?_
 rintro e w2 ⟨B, rfl, hB, hb2, hN⟩
 have HN := Lib.hid hN
 have HBW := Lib.hid (show Below w.heap.size w w2 by exact bl)
 clear hN hB hb2
 have FW := far (w := w2) 9 #[.string tVar, .string tRes, .string tSto, .string tBlt, .string tQue, .string tStr, .string tTal, .string tLev, .string tCnt, .string tRou]
 have HWW := Lib.hid (show Below w2.heap.size w2 (w2.alloc (.cells #[.string tVar, .string tRes, .string tSto, .string tBlt, .string tQue, .string tStr, .string tTal, .string tLev, .string tCnt, .string tRou] 9)) by exact bl)
 go_wp2_with fail
 go_loopw [7] (fun i wr => ∃ j : Nat, j ≤ 10 ∧ i = .int .i64 j ∧ Hid (Below (w2.alloc (.cells #[.string tVar, .string tRes, .string tSto, .string tBlt, .string tQue, .string tStr, .string tTal, .string tLev, .string tCnt, .string tRou] 9)).heap.size (w2.alloc (.cells #[.string tVar, .string tRes, .string tSto, .string tBlt, .string tQue, .string tStr, .string tTal, .string tLev, .string tCnt, .string tRou] 9)) wr) ∧ Hid (plcI words ((names x).map fun l => fst l s) = plcI (words.drop j) (((names x).map fun l => fst l s).drop j))) (fun i _ => 10 - (intOf i).toNat)
 case atStart => exact ⟨0, Nat.zero_le _, rfl, Lib.hid bl, Lib.hid rfl⟩
 case round =>
  obtain ⟨j, hj, rfl, HW, HP⟩ := hrel
  have j0 : (0 : Int) ≤ (j : Int) := by omega
  have hw2 : Below w2.heap.size w2 wr := HWW.out.trans (HW.out.mono HWW.out.size)
  have hbw : Below w.heap.size w wr := HBW.out.trans (hw2.mono HBW.out.size)
  have HBB := Lib.hid hbw
  clear hbw
  rcases Nat.lt_or_ge j 10 with h | h
  · have j1 : (j : Int) < 10 := by omega
    have hjl : j < (names x).length := by rw [HNL.out]; exact h
    obtain ⟨p, m, c, e1, h1⟩ := HN.out.on hw2 j hjl
    have ew := (FW.out wr HW.out).get (r := j) (v := .string (words[j]'(show j < words.length from h))) (word_cell (show j < words.length from h))
    clear hw2
    obtain ⟨wd, hwd⟩ : ∃ v, words[j]'(show j < words.length from h) = v := ⟨_, rfl⟩
    rw [hwd] at ew
    obtain ⟨i, hi⟩ : ∃ i, fst (names x)[j] s = i := ⟨_, rfl⟩
    have HE := Lib.hid (plcI_step (ws := words) (is := (names x).map fun l => fst l s) (j := j) (w := wd) (i := i) (by rw [List.getElem?_eq_getElem (show j < words.length from h), hwd]) (by rw [List.getElem?_map, List.getElem?_eq_getElem hjl, Option.map_some, hi]))
    have CF := Lib.hid (fun W (hW : Below wr.heap.size wr W) => rfind_at p m c _ s W hi ((h1.onB hW).strs))
    clear h1 hi hwd
    have EW := Lib.hid (fun W (hW : Below wr.heap.size wr W) => (hW.cell (p := ⟨w2.heap.size, j, none⟩) (block_lt ew)).trans ew)
    clear ew
    by_cases g : 0 ≤ i
    · have d := decide_eq_true g
      have HV := Lib.hid (show kindV x s = wd by rw [HI.out, HP.out, HE.out, if_pos g])
      go_wp2_with fail
      refine (CF.out _ bl).mono ?_
      rintro e w3 ⟨rfl, hb3⟩
      have ew3 := EW.out w3 bl
      go_wp2_with fail
      go_ret
      exact ⟨by rw [HV.out]; rfl, by have HC := HBB.out; exact bl⟩
    · have d := decide_eq_false g
      have g2 : i < 0 := by omega
      have HV := Lib.hid (show plcI words ((names x).map fun l => fst l s) = plcI (words.drop (j + 1)) (((names x).map fun l => fst l s).drop (j + 1)) by rw [HP.out, HE.out, if_neg g])
      go_wp2_with fail
      refine (CF.out _ bl).mono ?_
      rintro e w3 ⟨rfl, hb3⟩
      go_wp2_with fail
      go_roundw
      case rel => exact ⟨j + 1, by omega, by go_num, Lib.hid (by have HC := HW.out; exact bl), HV⟩
      case measure => simp [intOf]; omega
  · clear hw2
    obtain rfl : j = 10 := by omega
    have HE := Lib.hid (show (plcI words ((names x).map fun l => fst l s)).1 = Sm.nE by rw [HP.out]; rfl)
    go_wp2_with fail
    go_ret
    exact ⟨by rw [HI.out, HE.out]; rfl, by have HC := HBB.out; exact bl⟩
end Go.Proofs.YtaaffmbnhjaebaaGreat.Md
