/-
  The law of reading back, walked.
-/
import Derived.Test.YtnfddeoddjmpkaaCLaw3
namespace Go.Proofs.Ytnfddeoddjmpkaa.Co
open Go.RowKit
set_option maxHeartbeats 4000000
theorem str_of (s : ByteArray) : str s.data.toList = .string s := by
  cases s with
  | mk d => simp [str]
/-- Two appends behind an empty list made anew. -/
theorem run_two {w : World} {p q : Option Addr} {n c m d : Nat} {l r : List UInt8} (hl : Byt w p n l) (hr : Byt w q m r) (hn : n + m < 100000000) :
    ∃ v1 w1 v2 w2, (Builtin.append_ #[22, 22] 22 #[.slice (some ⟨w.heap.size, 0, none⟩) 0 0, .slice p n c]).run Try.prog (w.alloc (.cells #[] 5)) = .ok v1 w1 ∧
      (Builtin.append_ #[22, 22] 22 #[v1, .slice q m d]).run Try.prog w1 = .ok v2 w2 ∧ (∃ p' k', v2 = .slice p' (n + m) k' ∧ n + m ≤ k' ∧ Byt w2 p' (n + m) (l ++ r)) ∧ Below w.heap.size w w2 := by
  obtain ⟨v1, w1, h1, ho1, hb1⟩ := run_cat (c := c) (own_empty (Nat.le_refl w.heap.size)) (by simp) (hl.alloc (o := .cells #[] 5)) (by omega)
  have hb1' : Below w.heap.size w w1 := ((Below.refl _ _).alloc (Nat.le_refl _) _).trans hb1
  obtain ⟨v2, w2, h2, ho2, hb2⟩ := run_cat (c := d) ho1 hb1'.size (hr.on hb1') (by omega)
  rw [List.nil_append, Nat.zero_add] at ho2
  obtain ⟨p', k', rfl, hk, hb⟩ := byt_own ho2 (by omega)
  exact ⟨v1, w1, _, w2, h1, h2, ⟨p', k', rfl, hk, hb⟩, hb1'.trans hb2⟩
set_option maxRecDepth 100000 in
theorem codecBack_walk (k : Int) (s : ByteArray) (q : Option Addr) (m d : Nat) (ls : List Int) (p : Option Addr) (n c : Nat) (l : List UInt8) (w : World) (k1 : -9223372036854775808 ≤ k) (k2 : k ≤ 9223372036854775807) (_ : s.size ≤ maxLen) (_ : m ≤ d) (hi : Ints w q m ls) (hf : ∀ x ∈ ls, Fits x) (_ : n ≤ c) (hb : Byt w p n l) :
    Calls Try.prog 5 #[.int .i64 k, .string s, .slice q m d, .slice p n c] w (Gives (.bool true) w) := by
  by_cases h3 : n ≤ 300 ∧ s.size ≤ 300 ∧ m ≤ 300
  · have HF := Lib.hid (fewB_yes h3)
    have HB := Lib.hid hb
    have HI := Lib.hid hi
    have HFI := Lib.hid hf
    have hm := hi.1
    have l1 := enc_len (n := k) ⟨k1, k2⟩
    have l2 := enc_len (n := (s.size : Int)) ⟨by omega, by omega⟩
    have l3 := enc_len (n := (ls.length : Int)) ⟨by omega, by omega⟩
    have l4 := encL_len hf
    have b2 : (encT s.data.toList).length ≤ 310 := by unfold encT; rw [List.length_append, bytes_len]; omega
    have b3 : (encI ls).length ≤ 3010 := by unfold encI; rw [List.length_append]; omega
    have D1 : dec (enc k ++ l) 0 0 = .good (numZ k) (enc k).length := dec_back ⟨k1, k2⟩ l
    have D2 : decT (encT s.data.toList ++ l) s.size = ⟨s.data.toList, (encT s.data.toList).length, 0⟩ := by
      have := decT_back (s := s.data.toList) (by rw [bytes_len]; omega) l
      rwa [bytes_len] at this
    have D3 : decI (encI ls ++ l) m = ⟨ls, (encI ls).length, 0⟩ := by
      have := decI_back hf (by omega) l
      rwa [hm] at this
    have D4 : decT (encT s.data.toList) ((s.size : Int) - 1) = ⟨[], 0, 6⟩ := by
      have := decT_over (s := s.data.toList) (by rw [bytes_len]; omega)
      rwa [bytes_len] at this
    have D5 : decI (encI ls) ((m : Int) - 1) = ⟨[], 0, 6⟩ := by
      have := decI_over (l := ls) (by omega)
      rwa [hm] at this
    have A1 := Lib.hid fun w' => putint_any none 0 0 [] k w' byt_nil (Lib.hid (by omega)) (Nat.le_refl _) k1 k2
    have A2 := Lib.hid fun w' => puttext_any none 0 0 [] s w' byt_nil (Lib.hid (by omega)) (Nat.le_refl _)
    have A3 := Lib.hid fun w' (hi : Ints w' q m ls) => putints_any none 0 0 [] q m d ls w' byt_nil hi (Lib.hid (by omega)) (Nat.le_refl _) HFI
    rw [List.nil_append] at A1 A2 A3
    obtain ⟨LA, hLA⟩ : ∃ L, enc k = L := ⟨_, rfl⟩
    obtain ⟨LB, hLB⟩ : ∃ L, encT s.data.toList = L := ⟨_, rfl⟩
    obtain ⟨LC, hLC⟩ : ∃ L, encI ls = L := ⟨_, rfl⟩
    rw [hLA] at A1 D1 l1
    rw [hLB] at A2 D2 D4 b2
    rw [hLC] at A3 D3 D5 b3
    obtain ⟨NA, hNA⟩ : ∃ L, LA.length = L := ⟨_, rfl⟩
    obtain ⟨NB, hNB⟩ : ∃ L, LB.length = L := ⟨_, rfl⟩
    obtain ⟨NC, hNC⟩ : ∃ L, LC.length = L := ⟨_, rfl⟩
    rw [hNA] at D1 l1
    rw [hNB] at D2 b2
    rw [hNC] at D3 b3
    have I1 : Hid (∀ p n c w, Byt w p n (LA ++ l) → Calls Try.prog 18 #[.slice p n c] w (Gives (.tuple #[.int .i64 k, .int .i64 (NA : Nat), .int .i64 0]) w)) := Lib.hid fun p n c w hb => by
      have := int_any p n c _ _ w hb (Lib.hid D1)
      change Calls _ _ _ _ (Gives (.tuple #[.int .i64 (intZ (numZ k)), .int .i64 (NA : Nat), .int .i64 0]) w) at this
      rwa [intZ_numZ] at this
    have I2 : Hid (∀ p n c w, Byt w p n (LB ++ l) → n ≤ c → Calls Try.prog 20 #[.slice p n c, .int .i64 (s.size : Nat)] w (Gives (.tuple #[.string s, .int .i64 (NB : Nat), .int .i64 0]) w)) := Lib.hid fun p n c w hb hc => by
      have := text_any p n c _ s.size w hb hc
      rw [D2] at this
      change Calls _ _ _ _ (Gives (.tuple #[str s.data.toList, .int .i64 (NB : Nat), .int .i64 0]) w) at this
      rwa [str_of] at this
    have I3 : Hid (∀ p n c w, Byt w p n (LC ++ l) → n ≤ c → Hid (n < 1000000) → Calls Try.prog 22 #[.slice p n c, .int .i64 (m : Nat)] w (ListOut ⟨ls, NC, 0⟩ w)) := Lib.hid fun p n c w hb hc hs => by
      have := ints_any p n c _ m w hb hc hs
      rwa [D3] at this
    have I4 : Hid (∀ p n c w, Byt w p n LB → n ≤ c → Calls Try.prog 20 #[.slice p n c, .int .i64 ((s.size : Int) - 1)] w (Gives (.tuple #[.string ⟨#[]⟩, .int .i64 0, .int .i64 6]) w)) := Lib.hid fun p n c w hb hc => by
      have := text_any p n c _ ((s.size : Int) - 1) w hb hc
      rw [D4] at this
      exact this
    have I5 : Hid (∀ p n c w, Byt w p n LC → n ≤ c → Hid (n < 1000000) → Calls Try.prog 22 #[.slice p n c, .int .i64 ((m : Int) - 1)] w (ListOut ⟨[], 0, 6⟩ w)) := Lib.hid fun p n c w hb hc hs => by
      have := ints_any p n c _ ((m : Int) - 1) w hb hc hs
      rwa [D5] at this
    have t1 : decide ((NA : Int) < 1) = false := decide_eq_false (by omega)
    have t2 : decide ((10 : Int) < (NA : Int)) = false := decide_eq_false (by omega)
    have t3 : (NA : Int) ≤ 10 := by omega
    have t4 : (s.size : Int) ≤ 300 := by omega
    have t5 : (m : Int) ≤ 300 := by omega
    have t6 : (0 : Int) ≤ (m : Int) := by omega
    have t7 : (0 : Int) ≤ (s.size : Int) := by omega
    have HN := Lib.hid h3
    have HM := Lib.hid hm
    have HLB := Lib.hid b2
    have HLC := Lib.hid b3
    have HLA := Lib.hid l1
    clear hb hi hf h3 hm l1 l2 l3 l4 b2 b3 D1 D2 D3 D4 D5 hLA hLB hLC
    go_enter Try.func5, Try.ntmps5
    go_wp2_with fail
    refine (few_any p n c s q m d _).mono ?_
    rintro e w0 ⟨rfl, rfl⟩
    rw [HF.out]
    clear HF
    go_wp2_with fail
    refine (A1.out _).mono ?_
    rintro e w1 ⟨v1, rfl, ho1, hb1⟩
    rw [hNA] at ho1
    obtain ⟨p1, d1, rfl, hd1, hq1⟩ := byt_own ho1 (by have := HLA.out; omega)
    have HB1 := Lib.hid hb1
    have HQ1 := Lib.hid hq1
    have HD1 := Lib.hid hd1
    clear hb1 ho1 hq1 hNA hd1
    go_wp2_with fail
    refine (A2.out _).mono ?_
    rintro e w2 ⟨v2, rfl, ho2, hb2⟩
    rw [hNB] at ho2
    obtain ⟨p2, d2, rfl, hd2, hq2⟩ := byt_own ho2 (by have := HLB.out; omega)
    have HB2 := Lib.hid (bl_call HB1.out hb2)
    have HQ2 := Lib.hid hq2
    have HQ12 := Lib.hid (HQ1.out.on hb2)
    have HD2 := Lib.hid hd2
    clear hb2 ho2 hq2 HB1 HQ1 hNB hd2
    go_wp2_with fail
    refine (A3.out _ (HI.out.on HB2.out)).mono ?_
    rintro e w3 ⟨v3, rfl, ho3, hb3⟩
    rw [hNC] at ho3
    obtain ⟨p3, d3, rfl, hd3, hq3⟩ := byt_own ho3 (by have := HLC.out; omega)
    have HB3 := Lib.hid (bl_call HB2.out hb3)
    have HQ3 := Lib.hid hq3
    have HQ22 := Lib.hid (HQ2.out.on hb3)
    have HQ13 := Lib.hid (HQ12.out.on hb3)
    have HD3 := Lib.hid hd3
    clear hb3 ho3 hq3 HB2 HQ2 HQ12 hNC hd3
    obtain ⟨u1, x1, u2, x2, r1, r2, ⟨p4, d4, rfl, hd4, hq4⟩, hx2⟩ := run_two (c := d1) (d := c) HQ13.out (HB.out.on HB3.out) (by have := HN.out; have := HLA.out; omega)
    have HB4 := Lib.hid (bl_call HB3.out hx2)
    have HQ4 := Lib.hid hq4
    have HQ24 := Lib.hid (HQ22.out.on hx2)
    have HQ34 := Lib.hid (HQ3.out.on hx2)
    clear hx2 hq4 HQ13 HQ22 HQ3 hd4 HB3
    go_wp2_with (first | (at_builtin; refine Lib.wpList_append_run _ rfl (.tmp 40) (.tmp 41) _ _ rfl _ _ rfl rfl _ _ r1 ?_) | (at_builtin; refine Lib.wpList_append_run _ rfl (.tmp 42) (.tmp 43) _ _ rfl _ _ rfl rfl _ _ r2 ?_))
    refine (I1.out _ _ _ _ HQ4.out).mono ?_
    rintro e w4 ⟨rfl, hb4⟩
    have HB5 := Lib.hid (bl_call HB4.out hb4)
    have HQ25 := Lib.hid (HQ24.out.on hb4)
    have HQ35 := Lib.hid (HQ34.out.on hb4)
    clear hb4 r1 r2 HB4 HQ4 HQ24 HQ34
    obtain ⟨u1, x1, u2, x2, r1, r2, ⟨p5, d5, rfl, hd5, hq5⟩, hx2⟩ := run_two (c := d2) (d := c) HQ25.out (HB.out.on HB5.out) (by have := HN.out; have := HLB.out; omega)
    have HB6 := Lib.hid (bl_call HB5.out hx2)
    have HQ5 := Lib.hid hq5
    have HQ26 := Lib.hid (HQ25.out.on hx2)
    have HQ36 := Lib.hid (HQ35.out.on hx2)
    have HD5 := Lib.hid hd5
    clear hx2 hq5 HQ25 HQ35 hd5 HB5
    go_wp2_with (first | (at_builtin; refine Lib.wpList_append_run _ rfl (.tmp 71) (.tmp 72) _ _ rfl _ _ rfl rfl _ _ r1 ?_) | (at_builtin; refine Lib.wpList_append_run _ rfl (.tmp 73) (.tmp 74) _ _ rfl _ _ rfl rfl _ _ r2 ?_))
    refine (I2.out _ _ _ _ HQ5.out HD5.out).mono ?_
    rintro e w6 ⟨rfl, hb6⟩
    have HB7 := Lib.hid (bl_call HB6.out hb6)
    have HQ27 := Lib.hid (HQ26.out.on hb6)
    have HQ37 := Lib.hid (HQ36.out.on hb6)
    clear hb6 r1 r2 HB6 HQ5 HQ26 HQ36 HD5
    obtain ⟨u1, x1, u2, x2, r1, r2, ⟨p6, d6, rfl, hd6, hq6⟩, hx2⟩ := run_two (c := d3) (d := c) HQ37.out (HB.out.on HB7.out) (by have := HN.out; have := HLC.out; omega)
    have HB8 := Lib.hid (bl_call HB7.out hx2)
    have HQ6 := Lib.hid hq6
    have HQ28 := Lib.hid (HQ27.out.on hx2)
    have HQ38 := Lib.hid (HQ37.out.on hx2)
    have HD6 := Lib.hid hd6
    clear hx2 hq6 HQ27 HQ37 hd6 HB7
    go_wp2_with (first | (at_builtin; refine Lib.wpList_append_run _ rfl (.tmp 83) (.tmp 84) _ _ rfl _ _ rfl rfl _ _ r1 ?_) | (at_builtin; refine Lib.wpList_append_run _ rfl (.tmp 85) (.tmp 86) _ _ rfl _ _ rfl rfl _ _ r2 ?_))
    refine (I3.out _ _ _ _ HQ6.out HD6.out (Lib.hid (by have := HN.out; have := HLC.out; omega))).mono ?_
    rintro e w8 ⟨v8, rfl, ho8, hb8⟩
    obtain ⟨q8, d8, rfl, -, hq8⟩ := ints_own (n := m) (by rw [← HM.out]; exact ho8) (by have := HN.out; omega)
    have HB9 := Lib.hid (bl_call HB8.out hb8)
    have HQ29 := Lib.hid (HQ28.out.on hb8)
    have HQ39 := Lib.hid (HQ38.out.on hb8)
    have HQ8 := Lib.hid hq8
    have HI9 := Lib.hid (HI.out.on HB9.out)
    clear hb8 ho8 hq8 r1 r2 HB8 HQ6 HQ28 HQ38 HD6
    go_wp2_with fail
    have I9 := same_any q8 m d8 ls q m d ls w8 HQ8.out HI9.out
    rw [decide_eq_true rfl] at I9
    refine I9.mono ?_
    rintro e w9 ⟨rfl, hb9⟩
    have HB10 := Lib.hid (bl_call HB9.out hb9)
    have HQ210 := Lib.hid (HQ29.out.on hb9)
    have HQ310 := Lib.hid (HQ39.out.on hb9)
    clear hb9 I9 HQ29 HQ39 HQ8 HI9 HB9
    go_wp2_with fail
    refine (I4.out _ _ _ _ HQ210.out HD2.out).mono ?_
    rintro e w10 ⟨rfl, hb10⟩
    have HB11 := Lib.hid (bl_call HB10.out hb10)
    have HQ311 := Lib.hid (HQ310.out.on hb10)
    clear hb10 HQ310 HB10
    go_wp2_with fail
    refine (I5.out _ _ _ _ HQ311.out HD3.out (Lib.hid (by have := HLC.out; omega))).mono ?_
    rintro e w11 ⟨v11, rfl, -, hb11⟩
    have HB12 := Lib.hid (bl_call HB11.out hb11)
    clear hb11 HB11
    go_wp2_with fail
    refine (awake_any _).mono ?_
    rintro e w12 ⟨rfl, hb12⟩
    go_wp2_with fail
    go_ret
    exact ⟨rfl, bl_call HB12.out hb12⟩
  · have HF := Lib.hid (fewB_no h3)
    clear h3 hb hi
    go_enter Try.func5, Try.ntmps5
    go_wp2_with fail
    refine (few_any p n c s q m d _).mono ?_
    rintro e w0 ⟨rfl, rfl⟩
    rw [HF.out]
    go_wp2_with fail
    refine (awake_any _).mono ?_
    rintro e w8 ⟨rfl, hb8⟩
    go_wp2_with fail
    go_ret
    exact ⟨rfl, hb8⟩
end Go.Proofs.Ytnfddeoddjmpkaa.Co
