/-
  Several parts of this proof in one text.
-/
import Derived.Test.YtonlmnlpofgccaaGreatNmFind
import Derived.Test.YtonlmnlpofgccaaGreatNmCheck
/-
  The contract of the reference's Keyword.
-/
namespace Go.Proofs.YtonlmnlpofgccaaGreat.Na
open Go.RowKit
set_option maxHeartbeats 2000000
def sv (l : List ByteArray) : List Value := l.map Value.string
theorem sv_get {l : List ByteArray} {i : Nat} (h : i < l.length) : (sv l)[i]? = some (.string (l[i])) := by unfold sv; simp [h]
theorem strs_lit {w : World} {l : List ByteArray} {cs : Array Value} (h : (sv l).toArray = cs) (hl : l.length ≤ 9223372036854775807) : Strs (w.alloc (.cells cs 9)) (some ⟨w.heap.size, 0, none⟩) l.length l := by
  subst h
  refine ⟨rfl, hl, .inr ⟨_, _, rfl, by simp, Lib.hid fun i hi => ?_⟩⟩
  rw [World.cell?_alloc_mark, Nat.zero_add, List.getElem?_toArray]
  exact sv_get hi
def mkS (l : List UInt8) : ByteArray := ⟨l.toArray⟩
theorem bs_mk (l : List UInt8) : bs (mkS l) = l := rfl
def kwS : List ByteArray := kwl.map mkS
theorem fst_has (s : ByteArray) : ∀ L : List (List UInt8), decide (0 ≤ fst (L.map mkS) s) = L.contains (bs s)
  | [] => rfl
  | x :: t => by
    have ih := fst_has s t
    have h0 : (fst ((x :: t).map mkS) s) = if x = bs s then 0 else if fst (t.map mkS) s = -1 then -1 else fst (t.map mkS) s + 1 := rfl
    rw [h0, List.contains_cons, ← ih]
    by_cases h : x = bs s
    · rw [if_pos h, h]; simp
    · rw [if_neg h]
      have hb : (bs s == x) = false := beq_eq_false_iff_ne.2 fun g => h g.symm
      rw [hb, Bool.false_or]
      have := fst_ge s (t.map mkS)
      by_cases h2 : fst (t.map mkS) s = -1
      · rw [if_pos h2, h2]
      · rw [if_neg h2]
        rw [decide_eq_decide]
        omega
theorem fst_kw (s : ByteArray) : decide (0 ≤ fst kwS s) = isKw (bs s) := fst_has s kwl
set_option maxRecDepth 100000 in
theorem keywords_any (w : World) : Calls Tryz.prog 95 #[] w fun e w' => e = .returned (.slice (some ⟨w.heap.size, 0, none⟩) 73 73) ∧ Strs w' (some ⟨w.heap.size, 0, none⟩) 73 kwS ∧ Below w.heap.size w w' := by
  go_enter Tryz.func95, Tryz.ntmps95
  go_wp2_with fail
  go_ret
  exact ⟨rfl, strs_lit (l := kwS) (by kernel_rfl) (by decide), bl_alloc (Below.refl _ _)⟩
theorem rkeyword_any (s : ByteArray) (w : World) : Calls Tryz.prog 78 #[.string s] w (Gives (.bool (isKw (bs s))) w) := by
  have HR := Lib.hid (fst_kw s)
  go_enter Tryz.func78, Tryz.ntmps78
  go_wp2_with fail
  refine (keywords_any w).mono ?_
  rintro e w1 ⟨rfl, hs, hb1⟩
  have I1 := rfind_any (some ⟨w.heap.size, 0, none⟩) 73 73 kwS s w1 hs
  obtain ⟨x, hx⟩ : ∃ x, fst kwS s = x := ⟨_, rfl⟩
  rw [hx] at I1 HR
  clear hs hx
  go_wp2_with fail
  refine I1.mono ?_
  rintro e w2 ⟨rfl, rfl⟩
  clear I1
  by_cases h : 0 ≤ x
  · have t : decide (0 ≤ x) = true := decide_eq_true h
    rw [t] at HR
    go_wp2_with fail
    go_ret
    exact ⟨ret_bool HR.out, hb1⟩
  · have t : decide (0 ≤ x) = false := decide_eq_false h
    rw [t] at HR
    go_wp2_with fail
    go_ret
    exact ⟨ret_bool HR.out, hb1⟩
end Go.Proofs.YtonlmnlpofgccaaGreat.Na

/-
  The contract of the reference's Check.
-/
namespace Go.Proofs.YtonlmnlpofgccaaGreat.Na
open Go.RowKit
set_option maxHeartbeats 2000000
theorem rkeyword_at {s : ByteArray} {b : Bool} (h : isKw (bs s) = b) (w : World) : Calls Tryz.prog 78 #[.string s] w (Gives (.bool b) w) := by rw [← h]; exact rkeyword_any s w
theorem dig_yes {x : Int} (h1 : ¬ x < 48) (h2 : ¬ 57 < x) : digI x = true := by unfold digI; simp; omega
theorem dig_no {x : Int} (h : x < 48 ∨ 57 < x) : digI x = false := by unfold digI; simp; omega
set_option maxRecDepth 100000 in
theorem rcheck_any (s : ByteArray) (w : World) (hs : s.size ≤ 9223372036854775807) : Calls Tryz.prog 54 #[.string s] w (Gives (.int .i64 (chk (bs s))) w) := by
  have hs' : (s.size : Int) ≤ 9223372036854775807 := by omega
  by_cases h1 : s.size < 1
  · have t1 : decide ((s.size : Int) < 1) = true := decide_eq_true (by omega)
    have HR := Lib.hid (bad_short (l := bs s) (by rw [bs_len]; exact h1))
    go_enter Tryz.func54, Tryz.ntmps54
    go_wp2_with fail
    go_ret
    exact ⟨ret_int HR.out.symm, Below.refl _ _⟩
  have t1 : decide ((s.size : Int) < 1) = false := decide_eq_false (by omega)
  by_cases h2 : 24 < s.size
  · have t2 : decide (24 < (s.size : Int)) = true := decide_eq_true (by omega)
    have HR := Lib.hid (bad_long (l := bs s) (by rw [bs_len]; exact h2))
    go_enter Tryz.func54, Tryz.ntmps54
    go_wp2_with fail
    go_ret
    exact ⟨ret_int HR.out.symm, Below.refl _ _⟩
  have t2 : decide (24 < (s.size : Int)) = false := decide_eq_false (by omega)
  have c0 : (0 : Int) < (s.size : Int) := by omega
  have hs0 : 0 < s.size := by omega
  by_cases h3 : ltrI ((s[0]).toNat : Int) = true
  · by_cases h4 : isKw (bs s) = true
    · have HR := Lib.hid (bad_kw h4)
      go_enter Tryz.func54, Tryz.ntmps54
      go_wp2_with fail
      refine (rletter_at h3 w).mono ?_
      rintro e w1 ⟨rfl, rfl⟩
      go_wp2_with fail
      refine (rkeyword_at h4 w1).mono ?_
      rintro e w2 ⟨rfl, hb2⟩
      go_wp2_with fail
      go_ret
      exact ⟨ret_int HR.out.symm, hb2⟩
    · have h4' : isKw (bs s) = false := by simpa using h4
      have HL : Hid (1 ≤ (bs s).length ∧ (bs s).length ≤ 24) := Lib.hid (by rw [bs_len]; omega)
      have HC := Lib.hid (show ltrC (bs s)[0] = true from h3)
      have HK := Lib.hid h4'
      have HLs := Lib.hid (bs_len s)
      go_enter Tryz.func54, Tryz.ntmps54
      go_wp2_with fail
      refine (rletter_at h3 w).mono ?_
      rintro e w1 ⟨rfl, rfl⟩
      go_wp2_with fail
      refine (rkeyword_at h4' w1).mono ?_
      rintro e w2 ⟨rfl, hb2⟩
      go_wp2_with fail
      go_loop [3] (fun i => ∃ k : Nat, k ≤ s.size ∧ i = .int .i64 (k : Nat) ∧ Hid (Good (bs s) k)) (fun i => s.size - (intOf i).toNat)
      case atStart => exact ⟨0, Nat.zero_le _, rfl, Lib.hid good_zero⟩
      case round =>
        obtain ⟨k, hk, rfl, HG⟩ := hrel
        have d1 : (0 : Int) ≤ (k : Int) := by omega
        rcases Nat.lt_or_ge k s.size with h | h
        · have hks : k < (bs s).length := by rw [HLs.out]; exact h
          have d2 : (k : Int) < (s.size : Int) := by omega
          have HY : Hid (goodI ((s[k]).toNat : Int) = true → Good (bs s) (k + 1)) := Lib.hid (fun h => good_step hks HG.out h)
          have HN : Hid (goodI ((s[k]).toNat : Int) = false → chk (bs s) = 3) := Lib.hid (fun h => bad_at hks h)
          by_cases g1 : ltrI ((s[k]).toNat : Int) = true
          · have HY2 := Lib.hid (HY.out (good_let g1))
            clear HY HN
            go_wp2_with fail
            refine (rletter_at g1 w2).mono ?_
            rintro e w3 ⟨rfl, rfl⟩
            go_wp2_with fail
            go_round
            case rel => exact ⟨k + 1, by omega, by go_num, HY2⟩
            case measure => simp [intOf]; omega
          have g1' : ltrI ((s[k]).toNat : Int) = false := by simpa using g1
          by_cases g3 : ((s[k]).toNat : Int) = 95
          · have HY2 := Lib.hid (HY.out (good_low g3))
            have q3 : (((s[k]).toNat : Int) == 95) = true := beq_iff_eq.2 g3
            have q3b : (((s[k]).toNat : Int) != 95) = false := by simp [g3]
            clear HY HN g1
            go_wp2_with fail
            refine (rletter_at (x := 95) (b := false) (by decide) w2).mono ?_
            rintro e w3 ⟨rfl, rfl⟩
            go_wp2_with fail
            go_round
            case rel => exact ⟨k + 1, by omega, by go_num, HY2⟩
            case measure => simp [intOf]; omega
          have q3 : (((s[k]).toNat : Int) == 95) = false := beq_eq_false_iff_ne.2 g3
          have q3b : (((s[k]).toNat : Int) != 95) = true := by simp only [bne, q3]; rfl
          by_cases g4 : ((s[k]).toNat : Int) < 48
          · have HR := Lib.hid (HN.out (good_not g1' (dig_no (.inl g4)) g3))
            have q4 : decide (((s[k]).toNat : Int) < 48) = true := decide_eq_true g4
            clear HY HN g1
            go_wp2_with fail
            refine (rletter_at g1' w2).mono ?_
            rintro e w3 ⟨rfl, rfl⟩
            go_wp2_with fail
            go_ret
            exact ⟨ret_int HR.out.symm, hb2⟩
          have q4 : decide (((s[k]).toNat : Int) < 48) = false := decide_eq_false g4
          by_cases g5 : 57 < ((s[k]).toNat : Int)
          · have HR := Lib.hid (HN.out (good_not g1' (dig_no (.inr g5)) g3))
            have q5 : decide (57 < ((s[k]).toNat : Int)) = true := decide_eq_true g5
            clear HY HN g1
            go_wp2_with fail
            refine (rletter_at g1' w2).mono ?_
            rintro e w3 ⟨rfl, rfl⟩
            go_wp2_with fail
            go_ret
            exact ⟨ret_int HR.out.symm, hb2⟩
          · have HY2 := Lib.hid (HY.out (good_dig (dig_yes g4 g5)))
            have q5 : decide (57 < ((s[k]).toNat : Int)) = false := decide_eq_false g5
            clear HY HN g1
            go_wp2_with fail
            refine (rletter_at g1' w2).mono ?_
            rintro e w3 ⟨rfl, rfl⟩
            go_wp2_with fail
            go_round
            case rel => exact ⟨k + 1, by omega, by go_num, HY2⟩
            case measure => simp [intOf]; omega
        · have hk' : k = s.size := by omega
          have HR := Lib.hid (good_end HG.out (by rw [HLs.out, hk']) HL.out.1 HL.out.2 HC.out HK.out)
          have q : decide ((k : Int) < (s.size : Int)) = false := decide_eq_false (by omega)
          clear hk'
          go_wp2_with fail
          go_ret
          exact ⟨ret_int HR.out.symm, hb2⟩
  · have h3' : ltrI ((s[0]).toNat : Int) = false := by simpa using h3
    have HR := Lib.hid (bad_head (l := bs s) (by rw [bs_len]; exact hs0) h3')
    go_enter Tryz.func54, Tryz.ntmps54
    go_wp2_with fail
    refine (rletter_at h3' w).mono ?_
    rintro e w1 ⟨rfl, rfl⟩
    go_wp2_with fail
    go_ret
    exact ⟨ret_int HR.out.symm, Below.refl _ _⟩
end Go.Proofs.YtonlmnlpofgccaaGreat.Na
