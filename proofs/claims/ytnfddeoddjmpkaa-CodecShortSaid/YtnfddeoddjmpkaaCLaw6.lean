/-
  The law of proper beginnings, walked.
-/
import Derived.Test.YtnfddeoddjmpkaaCLaw3
namespace Go.Proofs.Ytnfddeoddjmpkaa.Co
open Go.RowKit
set_option maxHeartbeats 4000000
set_option maxRecDepth 100000 in
theorem codecShort_walk (s : ByteArray) (q : Option Addr) (m d : Nat) (ls : List Int) (cut : Int) (w : World) (_ : s.size ≤ maxLen) (_ : m ≤ d) (hi : Ints w q m ls) (hf : ∀ x ∈ ls, Fits x) (k1 : -9223372036854775808 ≤ cut) (k2 : cut ≤ 9223372036854775807) :
    Calls Try.prog 7 #[.string s, .slice q m d, .int .i64 cut] w (Gives (.bool true) w) := by
  by_cases h3 : 0 ≤ 300 ∧ s.size ≤ 300 ∧ m ≤ 300
  · have HF := Lib.hid (fewB_yes h3)
    by_cases h0 : m = 0
    · have t0 : ((m : Int) == 0) = true := beq_iff_eq.2 (by omega)
      have t0' : (m == 0) = true := beq_iff_eq.2 (by omega)
      clear h3 hi h0
      go_enter Try.func7, Try.ntmps7
      go_wp2_with fail
      refine (few_any none 0 0 s q m d _).mono ?_
      rintro e w0 ⟨rfl, rfl⟩
      rw [HF.out]
      go_wp2_with fail
      refine (awake_any _).mono ?_
      rintro e w8 ⟨rfl, hb8⟩
      go_wp2_with fail
      go_ret
      exact ⟨rfl, hb8⟩
    · have t0 : ((m : Int) == 0) = false := beq_eq_false_iff_ne.2 (by omega)
      have t0' : (m == 0) = false := beq_eq_false_iff_ne.2 (by omega)
      by_cases hc0 : cut < 0
      · have t1 : decide (cut < 0) = true := decide_eq_true hc0
        clear h3 hi h0
        go_enter Try.func7, Try.ntmps7
        go_wp2_with fail
        refine (few_any none 0 0 s q m d _).mono ?_
        rintro e w0 ⟨rfl, rfl⟩
        rw [HF.out]
        go_wp2_with fail
        refine (awake_any _).mono ?_
        rintro e w8 ⟨rfl, hb8⟩
        go_wp2_with fail
        go_ret
        exact ⟨rfl, hb8⟩
      · have t1 : decide (cut < 0) = false := decide_eq_false hc0
        obtain ⟨z, rfl⟩ : ∃ z : Nat, cut = (z : Int) := ⟨cut.toNat, by omega⟩
        have HI := Lib.hid hi
        have HFI := Lib.hid hf
        have hm := hi.1
        obtain ⟨-, -, hx | ⟨b, o, rfl, hb, hcell⟩⟩ := hi
        · exact absurd hx h0
        have hm0 : 0 < ls.length := by omega
        have e1 := hcell.out 0 hm0
        rw [Nat.add_zero] at e1
        have hfz := hf (ls[0]) (List.getElem_mem hm0)
        obtain ⟨y, ey⟩ : ∃ y, ls[0] = y := ⟨_, rfl⟩
        rw [ey] at e1 hfz
        obtain ⟨y1, y2⟩ := hfz
        have l1 := enc_len (n := y) ⟨y1, y2⟩
        have l2 := enc_len (n := (s.size : Int)) ⟨by omega, by omega⟩
        have l3 := enc_len (n := (ls.length : Int)) ⟨by omega, by omega⟩
        have l4 := encL_len hf
        have b2 : s.size < (encT s.data.toList).length ∧ (encT s.data.toList).length ≤ 310 := by unfold encT; rw [List.length_append, bytes_len]; omega
        have b3 : m < (encI ls).length ∧ (encI ls).length ≤ 3010 := by unfold encI; rw [List.length_append]; omega
        have D1 : ∀ z, z < (enc y).length → dec ((enc y).take z) 0 0 = .bad 7 := fun z hz => dec_cut ⟨y1, y2⟩ hz
        have D2 : ∀ z, z < (encT s.data.toList).length → decT ((encT s.data.toList).take z) 300 = ⟨[], 0, 7⟩ := fun z hz => decT_cut (by rw [bytes_len]; omega) (by rw [bytes_len]; omega) hz
        have D3 : ∀ z, z < (encI ls).length → decI ((encI ls).take z) 300 = ⟨[], 0, 7⟩ := fun z hz => decI_cut hf (by omega) (by omega) hz
        have A1 := Lib.hid fun w' => putint_any none 0 0 [] y w' byt_nil (Lib.hid (by omega)) (Nat.le_refl _) y1 y2
        have A2 := Lib.hid fun w' => puttext_any none 0 0 [] s w' byt_nil (Lib.hid (by omega)) (Nat.le_refl _)
        have A3 := Lib.hid fun w' (hi : Ints w' (some ⟨b, o, none⟩) m ls) => putints_any none 0 0 [] (some ⟨b, o, none⟩) m d ls w' byt_nil hi (Lib.hid (by omega)) (Nat.le_refl _) HFI
        rw [List.nil_append] at A1 A2 A3
        obtain ⟨LA, hLA⟩ : ∃ L, enc y = L := ⟨_, rfl⟩
        obtain ⟨LB, hLB⟩ : ∃ L, encT s.data.toList = L := ⟨_, rfl⟩
        obtain ⟨LC, hLC⟩ : ∃ L, encI ls = L := ⟨_, rfl⟩
        rw [hLA] at A1 D1 l1
        rw [hLB] at A2 D2 b2
        rw [hLC] at A3 D3 b3
        obtain ⟨NA, hNA⟩ : ∃ L, LA.length = L := ⟨_, rfl⟩
        obtain ⟨NB, hNB⟩ : ∃ L, LB.length = L := ⟨_, rfl⟩
        obtain ⟨NC, hNC⟩ : ∃ L, LC.length = L := ⟨_, rfl⟩
        rw [hNA] at D1 l1
        rw [hNB] at D2 b2
        rw [hNC] at D3 b3
        have I1 : Hid (∀ p c w, z < NA → Byt w p NA LA → Calls Try.prog 18 #[.slice p z c] w (Gives (.tuple #[.int .i64 0, .int .i64 0, .int .i64 7]) w)) := Lib.hid fun p c w hz hb => int_any p z c _ _ w (hb.take (by omega)) (Lib.hid (D1 z hz))
        have I2 : Hid (∀ p c w, z < NB → z ≤ c → Byt w p NB LB → Calls Try.prog 20 #[.slice p z c, .int .i64 300] w (Gives (.tuple #[.string ⟨#[]⟩, .int .i64 0, .int .i64 7]) w)) := Lib.hid fun p c w hz hc hb => by
          have := text_any p z c _ 300 w (hb.take (by omega)) hc
          rw [D2 z hz] at this
          exact this
        have I3 : Hid (∀ p c w, z < NC → z ≤ c → Byt w p NC LC → Calls Try.prog 22 #[.slice p z c, .int .i64 300] w (ListOut ⟨[], 0, 7⟩ w)) := Lib.hid fun p c w hz hc hb => by
          have := ints_any p z c _ 300 w (hb.take (by omega)) hc (Lib.hid (by omega))
          rwa [D3 z hz] at this
        have t2 : decide ((0 : Int) < (NA : Int)) = true := by (first | exact decide_eq_true (by omega) | exact decide_eq_false (by omega))
        have t2' : decide (0 < NA) = true := by (first | exact decide_eq_true (by omega) | exact decide_eq_false (by omega))
        have t3 : decide ((s.size : Int) < (NB : Int)) = true := by (first | exact decide_eq_true (by omega) | exact decide_eq_false (by omega))
        have t3' : decide (s.size < NB) = true := by (first | exact decide_eq_true (by omega) | exact decide_eq_false (by omega))
        have t4 : decide ((m : Int) < (NC : Int)) = true := by (first | exact decide_eq_true (by omega) | exact decide_eq_false (by omega))
        have t4' : decide (m < NC) = true := by (first | exact decide_eq_true (by omega) | exact decide_eq_false (by omega))
        have z0 : (0 : Int) ≤ (z : Int) := by omega
        have u1 : (m : Int) ≤ 300 := by omega
        have u2 : (1 : Int) ≤ (m : Int) := by omega
        have HLA := Lib.hid l1
        have HLB := Lib.hid b2
        have HLC := Lib.hid b3
        clear hf h3 hm l1 l2 l3 l4 b2 b3 D1 D2 D3 hLA hLB hLC h0 hcell ey hm0
        go_enter Try.func7, Try.ntmps7
        go_wp2_with fail
        refine (few_any none 0 0 s _ m d _).mono ?_
        rintro e w0 ⟨rfl, rfl⟩
        rw [HF.out]
        clear HF
        go_wp2_with fail
        refine (A1.out _).mono ?_
        rintro e w1 ⟨v1, rfl, ho1, hb1⟩
        rw [hNA] at ho1
        obtain ⟨p1, d1, rfl, hd1, hq1⟩ := byt_own ho1 (by have := HLA.out; omega)
        have HB1 := Lib.hid hb1
        have HQ1 := Lib.hid hq1
        clear hb1 ho1 hq1 hNA
        go_wp2_with fail
        refine (A2.out _).mono ?_
        rintro e w2 ⟨v2, rfl, ho2, hb2⟩
        rw [hNB] at ho2
        obtain ⟨p2, d2, rfl, hd2, hq2⟩ := byt_own ho2 (by have := HLB.out; omega)
        have HB2 := Lib.hid (bl_call HB1.out hb2)
        have HQ2 := Lib.hid hq2
        have HQ12 := Lib.hid (HQ1.out.on hb2)
        clear hb2 ho2 hq2 HB1 HQ1 hNB
        go_wp2_with fail
        refine (A3.out _ (HI.out.on HB2.out)).mono ?_
        rintro e w3 ⟨v3, rfl, ho3, hb3⟩
        rw [hNC] at ho3
        obtain ⟨p3, d3, rfl, hd3, hq3⟩ := byt_own ho3 (by have := HLC.out; omega)
        have HB3 := Lib.hid (bl_call HB2.out hb3)
        have HQ3 := Lib.hid hq3
        have HQ22 := Lib.hid (HQ2.out.on hb3)
        have HQ13 := Lib.hid (HQ12.out.on hb3)
        have HD1 := Lib.hid hd1
        have HD2 := Lib.hid hd2
        have HD3 := Lib.hid hd3
        clear hb3 ho3 hq3 HB2 HQ2 HQ12 hNC hd1 hd2 hd3
        go_upto_if 44 with fail
        go_cut [7] (fun v wr => v = .slice p1 NA d1 ∧ Below w3.heap.size w3 wr)
        case first =>
          by_cases hz : z < NA
          · have x1 : decide ((z : Int) < (NA : Int)) = true := by (first | exact decide_eq_true (by omega) | exact decide_eq_false (by omega))
            have x1' : decide (z < NA) = true := by (first | exact decide_eq_true (by omega) | exact decide_eq_false (by omega))
            rw [x1']
            have x2 : (z : Int) ≤ (d1 : Int) := by have := HD1.out; omega
            have HZ := Lib.hid hz
            clear hz
            go_wp2_with fail
            refine (I1.out _ _ _ HZ.out HQ13.out).mono ?_
            rintro e w4 ⟨rfl, hb4⟩
            go_wp2_with fail
            go_meet
            exact ⟨rfl, hb4⟩
          · have x1 : decide ((z : Int) < (NA : Int)) = false := by (first | exact decide_eq_true (by omega) | exact decide_eq_false (by omega))
            have x1' : decide (z < NA) = false := by (first | exact decide_eq_true (by omega) | exact decide_eq_false (by omega))
            rw [x1']
            clear hz
            go_wp2_with fail
            go_meet
            exact ⟨rfl, Below.refl _ _⟩
        case rest =>
          obtain ⟨rfl, hbc⟩ := hcut
          have HB4 := Lib.hid hbc
          have HQ24 := Lib.hid (HQ22.out.on hbc)
          clear hbc
          go_upto_if 62 with fail
          go_cut [7, 8] (fun u v wr => u = .slice p1 NA d1 ∧ v = .slice p2 NB d2 ∧ Below w3.heap.size w3 wr)
          case first =>
            by_cases hz : z < NB
            · have x1 : decide ((z : Int) < (NB : Int)) = true := by (first | exact decide_eq_true (by omega) | exact decide_eq_false (by omega))
              have x1' : decide (z < NB) = true := by (first | exact decide_eq_true (by omega) | exact decide_eq_false (by omega))
              rw [x1']
              have x2 : (z : Int) ≤ (d2 : Int) := by have := HD2.out; omega
              have HZ := Lib.hid hz
              have HZC : Hid (z ≤ d2) := Lib.hid (by have := HD2.out; omega)
              clear hz
              go_wp2_with fail
              refine (I2.out _ _ _ HZ.out HZC.out HQ24.out).mono ?_
              rintro e w5 ⟨rfl, hb5⟩
              go_wp2_with fail
              go_meet
              exact ⟨rfl, rfl, bl_call HB4.out hb5⟩
            · have x1 : decide ((z : Int) < (NB : Int)) = false := by (first | exact decide_eq_true (by omega) | exact decide_eq_false (by omega))
              have x1' : decide (z < NB) = false := by (first | exact decide_eq_true (by omega) | exact decide_eq_false (by omega))
              rw [x1']
              clear hz
              go_wp2_with fail
              go_meet
              exact ⟨rfl, rfl, HB4.out⟩
          case rest =>
            obtain ⟨rfl, rfl, hbc⟩ := hcut
            have HB5 := Lib.hid hbc
            have HQ35 := Lib.hid (HQ3.out.on hbc)
            clear hbc HB4
            go_upto_if 80 with fail
            go_cut [7, 8, 9] (fun u v x wr => u = .slice p1 NA d1 ∧ v = .slice p2 NB d2 ∧ x = .slice p3 NC d3 ∧ Below w3.heap.size w3 wr)
            case first =>
              by_cases hz : z < NC
              · have x1 : decide ((z : Int) < (NC : Int)) = true := by (first | exact decide_eq_true (by omega) | exact decide_eq_false (by omega))
                have x1' : decide (z < NC) = true := by (first | exact decide_eq_true (by omega) | exact decide_eq_false (by omega))
                rw [x1']
                have x2 : (z : Int) ≤ (d3 : Int) := by have := HD3.out; omega
                have HZ := Lib.hid hz
                have HZC : Hid (z ≤ d3) := Lib.hid (by have := HD3.out; omega)
                clear hz
                go_wp2_with fail
                refine (I3.out _ _ _ HZ.out HZC.out HQ35.out).mono ?_
                rintro e w6 ⟨v6, rfl, -, hb6⟩
                go_wp2_with fail
                go_meet
                exact ⟨rfl, rfl, rfl, bl_call HB5.out hb6⟩
              · have x1 : decide ((z : Int) < (NC : Int)) = false := by (first | exact decide_eq_true (by omega) | exact decide_eq_false (by omega))
                have x1' : decide (z < NC) = false := by (first | exact decide_eq_true (by omega) | exact decide_eq_false (by omega))
                rw [x1']
                clear hz
                go_wp2_with fail
                go_meet
                exact ⟨rfl, rfl, rfl, HB5.out⟩
            case rest =>
              obtain ⟨rfl, rfl, rfl, hbc⟩ := hcut
              have HB6 := Lib.hid (bl_call HB3.out hbc)
              clear hbc HB5
              go_wp2_with fail
              refine (awake_any _).mono ?_
              rintro e w12 ⟨rfl, hb12⟩
              go_wp2_with fail
              go_ret
              exact ⟨rfl, bl_call HB6.out hb12⟩
  · have HF := Lib.hid (fewB_no h3)
    clear h3 hi
    go_enter Try.func7, Try.ntmps7
    go_wp2_with fail
    refine (few_any none 0 0 s q m d _).mono ?_
    rintro e w0 ⟨rfl, rfl⟩
    rw [HF.out]
    go_wp2_with fail
    refine (awake_any _).mono ?_
    rintro e w8 ⟨rfl, hb8⟩
    go_wp2_with fail
    go_ret
    exact ⟨rfl, hb8⟩
end Go.Proofs.Ytnfddeoddjmpkaa.Co
