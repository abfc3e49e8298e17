/-
  The laws of paths, walked.
-/
import Derived.Test.YtgepgdndhnoanaaNmPath
namespace Go.Proofs.Ytgepgdndhnoanaa.Na
open Go.RowKit
set_option maxHeartbeats 4000000
theorem rsplit_at {s : ByteArray} {v : Value} (h : spV s = v) (hs : s.size ≤ 9223372036854775807) (w : World) : Calls Try.prog 19 #[.string s] w (Gives v w) := by rw [← h]; exact rsplit_any s w hs
set_option maxRecDepth 100000 in
theorem namesSplits_walk (s : ByteArray) (w : World) (hs : s.size ≤ 9223372036854775807) : Calls Try.prog 8 #[.string s] w (Gives (.bool true) w) := by
  rcases Bool.eq_false_or_eq_true (spO s) with h | h
  · obtain ⟨hj, hz⟩ := join_split h
    have hV : spV s = .tuple #[.string (spA s), .string (spB s), .bool true] := by unfold spV; rw [h]
    obtain ⟨A, eA⟩ : ∃ A, spA s = A := ⟨_, rfl⟩
    obtain ⟨B, eB⟩ : ∃ B, spB s = B := ⟨_, rfl⟩
    rw [eA, eB] at hV hj hz
    have t1 : (A.toList == A.toList) = true := by simp
    have t2 : (B.toList == B.toList) = true := by simp
    have t3 : (s.toList == s.toList) = true := by simp
    clear eA eB h
    go_enter Try.func8, Try.ntmps8
    go_wp2_with fail
    refine (split_at hV hs w).mono ?_
    rintro e w1 ⟨rfl, hb1⟩
    go_wp2_with fail
    refine (rsplit_at hV hs w1).mono ?_
    rintro e w2 ⟨rfl, hb2⟩
    go_wp2_with fail
    refine (join_at hj hz w2).mono ?_
    rintro e w2 ⟨rfl, rfl⟩
    go_wp2_with fail
    refine (awake_any w2).mono ?_
    rintro e w3 ⟨rfl, hb3⟩
    go_wp2_with fail
    go_ret
    exact ⟨rfl, by (repeat (first | (with_reducible exact Below.refl _ _) | (with_reducible assumption) | (with_reducible apply bl_alloc) | (with_reducible apply bl_drewN) | (with_reducible apply bl_drew) | (with_reducible refine bl_set ?_ (by first | (simp; done) | (simp; omega)) _) | (with_reducible refine bl_call ?_ (by assumption))))⟩
  · have hV : spV s = .tuple #[.string (spA s), .string (spB s), .bool false] := by unfold spV; rw [h]
    obtain ⟨A, eA⟩ : ∃ A, spA s = A := ⟨_, rfl⟩
    obtain ⟨B, eB⟩ : ∃ B, spB s = B := ⟨_, rfl⟩
    rw [eA, eB] at hV
    have t1 : (A.toList == A.toList) = true := by simp
    have t2 : (B.toList == B.toList) = true := by simp
    clear eA eB h
    go_enter Try.func8, Try.ntmps8
    go_wp2_with fail
    refine (split_at hV hs w).mono ?_
    rintro e w1 ⟨rfl, hb1⟩
    go_wp2_with fail
    refine (rsplit_at hV hs w1).mono ?_
    rintro e w2 ⟨rfl, hb2⟩
    go_wp2_with fail
    refine (awake_any w2).mono ?_
    rintro e w3 ⟨rfl, hb3⟩
    go_wp2_with fail
    go_ret
    exact ⟨rfl, by (repeat (first | (with_reducible exact Below.refl _ _) | (with_reducible assumption) | (with_reducible apply bl_alloc) | (with_reducible apply bl_drewN) | (with_reducible apply bl_drew) | (with_reducible refine bl_set ?_ (by first | (simp; done) | (simp; omega)) _) | (with_reducible refine bl_call ?_ (by assumption))))⟩
theorem path_yes {a b : ByteArray} (h1 : chk (bs a) = 0) (h2 : chk (bs b) = 0) : spV (joinS a b) = .tuple #[.string a, .string b, .bool true] := by
  obtain ⟨e, f⟩ := split_join a b
  rw [chk_ok.1 h1, chk_ok.1 h2] at e
  obtain ⟨f1, f2⟩ := f e
  unfold spV
  rw [e, f1, f2]
  rfl
theorem not_name {l : List UInt8} (h : chk l = 3) : nameB l = false := by rw [← Bool.not_eq_true, ← chk_ok, h]; decide
theorem path_no {a b : ByteArray} (h : (nameB (bs a) && nameB (bs b)) = false) : spV (joinS a b) = .tuple #[.string ⟨#[]⟩, .string ⟨#[]⟩, .bool false] := by
  obtain ⟨e, -⟩ := split_join a b
  rw [h] at e
  obtain ⟨f1, f2⟩ := spO_false e
  unfold spV
  rw [e, f1, f2]
  rfl
set_option maxRecDepth 100000 in
theorem namesPaths_walk (a b : ByteArray) (w : World) (ha : a.size ≤ 9223372036854775807) (hb : b.size ≤ 9223372036854775807) (hz : a.size + 1 + b.size ≤ 9223372036854775807) : Calls Try.prog 7 #[.string a, .string b] w (Gives (.bool true) w) := by
  have h1 : (a.size : Int) + 1 ≤ 9223372036854775807 := by omega
  have h2 : (a.size : Int) + 1 + (b.size : Int) ≤ 9223372036854775807 := by omega
  obtain ⟨S, hS⟩ : ∃ S, joinS a b = S := ⟨_, rfl⟩
  have hS2 : bs S = bs (a ++ ⟨#[46]⟩ ++ b) := by rw [← hS]; rfl
  have q1 : (S.toList == (a ++ ⟨#[46]⟩ ++ b).toList) = true := eq_yes hS2
  have q2 : (S.toList != (a ++ ⟨#[46]⟩ ++ b).toList) = false := by simp only [bne, q1]; rfl
  have hsz : S.size ≤ 9223372036854775807 := by rw [← hS, join_size]; exact hz
  have HS := Lib.hid hS
  have t1 : (a.toList == a.toList) = true := by simp
  have t2 : (b.toList == b.toList) = true := by simp
  rcases chk_cases (bs a) with g1 | g1
  · rcases chk_cases (bs b) with g2 | g2
    · have hV := path_yes g1 g2
      rw [hS] at hV
      clear hS2
      go_enter Try.func7, Try.ntmps7
      go_wp2_with fail
      refine (join_at hS hz w).mono ?_
      rintro e w1 ⟨rfl, rfl⟩
      clear hS
      go_wp2_with fail
      refine (split_at hV hsz w1).mono ?_
      rintro e w2 ⟨rfl, hb2⟩
      go_wp2_with fail
      refine (check_at g1 ha w2).mono ?_
      rintro e w3 ⟨rfl, hb3⟩
      go_wp2_with fail
      refine (check_at g2 hb w3).mono ?_
      rintro e w4 ⟨rfl, hb4⟩
      go_wp2_with fail
      refine (awake_any w4).mono ?_
      rintro e w5 ⟨rfl, hb5⟩
      go_wp2_with fail
      go_ret
      exact ⟨rfl, by (repeat (first | (with_reducible exact Below.refl _ _) | (with_reducible assumption) | (with_reducible apply bl_alloc) | (with_reducible apply bl_drewN) | (with_reducible apply bl_drew) | (with_reducible refine bl_set ?_ (by first | (simp; done) | (simp; omega)) _) | (with_reducible refine bl_call ?_ (by assumption))))⟩
    · have hV := path_no (a := a) (b := b) (by rw [not_name g2, Bool.and_false])
      rw [hS] at hV
      clear hS2
      go_enter Try.func7, Try.ntmps7
      go_wp2_with fail
      refine (join_at hS hz w).mono ?_
      rintro e w1 ⟨rfl, rfl⟩
      clear hS
      go_wp2_with fail
      refine (split_at hV hsz w1).mono ?_
      rintro e w2 ⟨rfl, hb2⟩
      go_wp2_with fail
      refine (check_at g1 ha w2).mono ?_
      rintro e w3 ⟨rfl, hb3⟩
      go_wp2_with fail
      refine (check_at g2 hb w3).mono ?_
      rintro e w4 ⟨rfl, hb4⟩
      go_wp2_with fail
      refine (awake_any w4).mono ?_
      rintro e w5 ⟨rfl, hb5⟩
      go_wp2_with fail
      go_ret
      exact ⟨rfl, by (repeat (first | (with_reducible exact Below.refl _ _) | (with_reducible assumption) | (with_reducible apply bl_alloc) | (with_reducible apply bl_drewN) | (with_reducible apply bl_drew) | (with_reducible refine bl_set ?_ (by first | (simp; done) | (simp; omega)) _) | (with_reducible refine bl_call ?_ (by assumption))))⟩
  · have hV := path_no (a := a) (b := b) (by rw [not_name g1, Bool.false_and])
    rw [hS] at hV
    clear hS2
    go_enter Try.func7, Try.ntmps7
    go_wp2_with fail
    refine (join_at hS hz w).mono ?_
    rintro e w1 ⟨rfl, rfl⟩
    clear hS
    go_wp2_with fail
    refine (split_at hV hsz w1).mono ?_
    rintro e w2 ⟨rfl, hb2⟩
    go_wp2_with fail
    refine (check_at g1 ha w2).mono ?_
    rintro e w3 ⟨rfl, hb3⟩
    go_wp2_with fail
    refine (awake_any w3).mono ?_
    rintro e w5 ⟨rfl, hb5⟩
    go_wp2_with fail
    go_ret
    exact ⟨rfl, by (repeat (first | (with_reducible exact Below.refl _ _) | (with_reducible assumption) | (with_reducible apply bl_alloc) | (with_reducible apply bl_drewN) | (with_reducible apply bl_drew) | (with_reducible refine bl_set ?_ (by first | (simp; done) | (simp; omega)) _) | (with_reducible refine bl_call ?_ (by assumption))))⟩
end Go.Proofs.Ytgepgdndhnoanaa.Na
