/-
  The contracts of Join and Split, of the library and of the reference.
-/
import Derived.Test.YtgepgdndhnoanaaNmCut
import Derived.Test.YtgepgdndhnoanaaNmRCheck
namespace Go.Proofs.Ytgepgdndhnoanaa.Na
open Go.RowKit
set_option maxHeartbeats 2000000
theorem check_at {s : ByteArray} {x : Int} (h : chk (bs s) = x) (hs : s.size ≤ 9223372036854775807) (w : World) : Calls Try.prog 11 #[.string s] w (Gives (.int .i64 x) w) := by rw [← h]; exact check_any s w hs
theorem rcheck_at {s : ByteArray} {x : Int} (h : chk (bs s) = x) (hs : s.size ≤ 9223372036854775807) (w : World) : Calls Try.prog 12 #[.string s] w (Gives (.int .i64 x) w) := by rw [← h]; exact rcheck_any s w hs
theorem chk_cases (l : List UInt8) : chk l = 0 ∨ chk l = 3 := by unfold chk; split <;> simp
def cutA (s : ByteArray) : ByteArray := if dot s = -1 then s else s.extract 0 (dot s).toNat
def cutB (s : ByteArray) : ByteArray := if dot s = -1 then mt else s.extract ((dot s).toNat + 1) s.size
def spO (s : ByteArray) : Bool := nameB (bs (cutA s)) && nameB (bs (cutB s))
def spA (s : ByteArray) : ByteArray := if spO s = true then cutA s else mt
def spB (s : ByteArray) : ByteArray := if spO s = true then cutB s else mt
/-- What Split returns. -/
def spV (s : ByteArray) : Value := .tuple #[.string (spA s), .string (spB s), .bool (spO s)]
theorem spV_no1 {s : ByteArray} (h : chk (bs (cutA s)) = 3) : spV s = .tuple #[.string mt, .string mt, .bool false] := by
  have h1 : nameB (bs (cutA s)) = false := by rw [← Bool.not_eq_true, ← chk_ok, h]; decide
  have e : spO s = false := by unfold spO; rw [h1]; rfl
  unfold spV spA spB
  rw [e]; rfl
theorem spV_no2 {s : ByteArray} (h : chk (bs (cutB s)) = 3) : spV s = .tuple #[.string mt, .string mt, .bool false] := by
  have h1 : nameB (bs (cutB s)) = false := by rw [← Bool.not_eq_true, ← chk_ok, h]; decide
  have e : spO s = false := by unfold spO; rw [h1, Bool.and_false]
  unfold spV spA spB
  rw [e]; rfl
theorem spV_yes {s : ByteArray} (h : chk (bs (cutA s)) = 0) (g : chk (bs (cutB s)) = 0) : spV s = .tuple #[.string (cutA s), .string (cutB s), .bool true] := by
  have e : spO s = true := by unfold spO; rw [chk_ok.1 h, chk_ok.1 g]; rfl
  unfold spV spA spB
  rw [e]; rfl
theorem cutV_eq (s : ByteArray) : ∃ o, cutV s = .tuple #[.string (cutA s), .string (cutB s), .bool o] := by
  unfold cutV cutA cutB
  by_cases h : dot s = -1
  · exact ⟨false, by rw [if_pos h, if_pos h, if_pos h]⟩
  · exact ⟨true, by rw [if_neg h, if_neg h, if_neg h]⟩
theorem cutA_size (s : ByteArray) : (cutA s).size ≤ s.size := by
  unfold cutA
  split
  · exact Nat.le_refl _
  · rw [ByteArray.size_extract]; omega
theorem cutB_size (s : ByteArray) : (cutB s).size ≤ s.size := by
  unfold cutB
  split
  · exact Nat.zero_le _
  · rw [ByteArray.size_extract]; omega
theorem gives_eq {v u : Value} {w w1 : World} (h : u = v) (hb : Below w.heap.size w w1) : Gives u w (.returned v) w1 := ⟨by rw [h], hb⟩
theorem split_any (s : ByteArray) (w : World) (hs : s.size ≤ 9223372036854775807) : Calls Try.prog 18 #[.string s] w (Gives (spV s) w) := by
  obtain ⟨a, b, o, e, I1⟩ := cut_any s w hs
  obtain ⟨o', e'⟩ := cutV_eq s
  rw [e'] at e
  simp only [Value.tuple.injEq, Array.mk.injEq, List.cons.injEq, Value.string.injEq, Value.bool.injEq, and_true] at e
  obtain ⟨rfl, rfl, rfl⟩ := e
  have ha := Nat.le_trans (cutA_size s) hs
  have hb := Nat.le_trans (cutB_size s) hs
  rcases chk_cases (bs (cutA s)) with h1 | h1
  · rcases chk_cases (bs (cutB s)) with h2 | h2
    · have HV := Lib.hid (spV_yes h1 h2)
      obtain ⟨A, eA⟩ : ∃ A, cutA s = A := ⟨_, rfl⟩
      obtain ⟨B, eB⟩ : ∃ B, cutB s = B := ⟨_, rfl⟩
      rw [eA, eB] at HV I1
      rw [eA] at ha h1
      rw [eB] at hb h2
      clear eA eB e'
      go_enter Try.func18, Try.ntmps18
      go_wp2_with fail
      refine I1.mono ?_
      rintro e w1 ⟨rfl, hb1⟩
      go_wp2_with fail
      refine (check_at h1 ha w1).mono ?_
      rintro e w2 ⟨rfl, hb2⟩
      go_wp2_with fail
      refine (check_at h2 hb w2).mono ?_
      rintro e w3 ⟨rfl, hb3⟩
      go_wp2_with fail
      go_ret3
      exact gives_eq HV.out (by (repeat (first | (with_reducible exact Below.refl _ _) | (with_reducible assumption) | (with_reducible apply bl_alloc) | (with_reducible apply bl_drewN) | (with_reducible apply bl_drew) | (with_reducible refine bl_set ?_ (by first | (simp; done) | (simp; omega)) _) | (with_reducible refine bl_call ?_ (by assumption)))))
    · have HV := Lib.hid (spV_no2 h2)
      obtain ⟨A, eA⟩ : ∃ A, cutA s = A := ⟨_, rfl⟩
      obtain ⟨B, eB⟩ : ∃ B, cutB s = B := ⟨_, rfl⟩
      rw [eA, eB] at I1
      rw [eA] at ha h1
      rw [eB] at hb h2
      clear eA eB e'
      go_enter Try.func18, Try.ntmps18
      go_wp2_with fail
      refine I1.mono ?_
      rintro e w1 ⟨rfl, hb1⟩
      go_wp2_with fail
      refine (check_at h1 ha w1).mono ?_
      rintro e w2 ⟨rfl, hb2⟩
      go_wp2_with fail
      refine (check_at h2 hb w2).mono ?_
      rintro e w3 ⟨rfl, hb3⟩
      go_wp2_with fail
      go_ret3
      exact gives_eq HV.out (by (repeat (first | (with_reducible exact Below.refl _ _) | (with_reducible assumption) | (with_reducible apply bl_alloc) | (with_reducible apply bl_drewN) | (with_reducible apply bl_drew) | (with_reducible refine bl_set ?_ (by first | (simp; done) | (simp; omega)) _) | (with_reducible refine bl_call ?_ (by assumption)))))
  · have HV := Lib.hid (spV_no1 h1)
    obtain ⟨A, eA⟩ : ∃ A, cutA s = A := ⟨_, rfl⟩
    obtain ⟨B, eB⟩ : ∃ B, cutB s = B := ⟨_, rfl⟩
    rw [eA, eB] at I1
    rw [eA] at ha h1
    clear eA eB e' hb
    go_enter Try.func18, Try.ntmps18
    go_wp2_with fail
    refine I1.mono ?_
    rintro e w1 ⟨rfl, hb1⟩
    go_wp2_with fail
    refine (check_at h1 ha w1).mono ?_
    rintro e w2 ⟨rfl, hb2⟩
    go_wp2_with fail
    go_ret3
    exact gives_eq HV.out (by (repeat (first | (with_reducible exact Below.refl _ _) | (with_reducible assumption) | (with_reducible apply bl_alloc) | (with_reducible apply bl_drewN) | (with_reducible apply bl_drew) | (with_reducible refine bl_set ?_ (by first | (simp; done) | (simp; omega)) _) | (with_reducible refine bl_call ?_ (by assumption)))))
def joinS (a b : ByteArray) : ByteArray := a ++ pt ++ b
theorem join_any (a b : ByteArray) (w : World) (h : a.size + 1 + b.size ≤ 9223372036854775807) : Calls Try.prog 17 #[.string a, .string b] w fun e w' => e = .returned (.string (joinS a b)) ∧ w' = w := by
  have HJ : Hid (joinS a b = a ++ ⟨#[46]⟩ ++ b) := Lib.hid rfl
  have h1 : (a.size : Int) + 1 ≤ 9223372036854775807 := by omega
  have h2 : (a.size : Int) + 1 + (b.size : Int) ≤ 9223372036854775807 := by omega
  go_enter Try.func17, Try.ntmps17
  go_wp2_with fail
  go_ret
  exact ⟨by rw [HJ.out]; rfl, rfl⟩
/-- No point among the first k bytes. -/
def NoDot (l : List UInt8) (k : Nat) : Prop := ∀ j, j < k → (h : j < l.length) → ¬ l[j] = 46
theorem ib_hit {c : UInt8} : ∀ {l : List UInt8} {k : Nat} (hk : k < l.length), (∀ j, j < k → (h : j < l.length) → ¬ l[j] = c) → l[k] = c → Lib.indexByte l c = (k : Int)
  | [], k, hk, _, _ => absurd hk (Nat.not_lt_zero _)
  | x :: t, 0, hk, _, e => by
    have e : x = c := e
    unfold Lib.indexByte
    rw [if_pos (by simp [e])]
    rfl
  | x :: t, k + 1, hk, h, e => by
    have h0 : ¬ x = c := h 0 (Nat.succ_pos _) (by simp)
    have hk' : k < t.length := by simp at hk; omega
    have ih := ib_hit (c := c) (l := t) (k := k) hk' (fun j hj hl => h (j + 1) (by omega) (by simp; omega)) e
    unfold Lib.indexByte
    rw [if_neg (by simp [h0]), ih, if_neg (by simp)]
    omega
theorem ib_miss {c : UInt8} : ∀ {l : List UInt8}, (∀ j, (h : j < l.length) → ¬ l[j] = c) → Lib.indexByte l c = -1
  | [], _ => rfl
  | x :: t, h => by
    have h0 : ¬ x = c := h 0 (by simp)
    have ih := ib_miss (c := c) (l := t) (fun j hl => h (j + 1) (by simp; omega))
    unfold Lib.indexByte
    rw [if_neg (by simp [h0]), ih]
    rfl
theorem dot_hit {s : ByteArray} {k : Nat} (hk : k < s.size) (h : NoDot (bs s) k) (e : (bs s)[k]'(by rw [bs_len]; exact hk) = 46) : dot s = (k : Int) := ib_hit _ h e
theorem dot_miss {s : ByteArray} {k : Nat} (h : NoDot (bs s) k) (hk : s.size ≤ k) : dot s = -1 := ib_miss fun j hj => h j (by rw [bs_len] at hj; omega) hj
theorem cut_hit {s : ByteArray} {k : Nat} (h : dot s = (k : Int)) : cutA s = s.extract 0 k ∧ cutB s = s.extract (k + 1) s.size := by
  unfold cutA cutB
  rw [h, if_neg (by omega), if_neg (by omega), Int.toNat_natCast]
  exact ⟨rfl, rfl⟩
theorem spV_miss {s : ByteArray} (h : dot s = -1) : spV s = .tuple #[.string mt, .string mt, .bool false] := by
  apply spV_no2
  unfold cutB
  rw [if_pos h]
  decide
theorem nodot_step {l : List UInt8} {k : Nat} (hk : k < l.length) (h : NoDot l k) (e : ¬ l[k] = 46) : NoDot l (k + 1) := by
  intro j hj hl
  rcases Nat.lt_or_ge j k with h1 | h1
  · exact h j h1 hl
  · obtain rfl : j = k := by omega
    exact e
theorem byte_is {c : UInt8} {n : Nat} (hn : n < 256) : (c = UInt8.ofNat n) ↔ ((c.toNat : Int) = (n : Int)) := by
  constructor
  · rintro rfl
    rw [UInt8.toNat_ofNat']
    omega
  · intro h
    apply UInt8.toNat_inj.1
    rw [UInt8.toNat_ofNat']
    omega
set_option maxRecDepth 100000 in
theorem rsplit_any (s : ByteArray) (w : World) (hs : s.size ≤ 9223372036854775807) : Calls Try.prog 19 #[.string s] w (Gives (spV s) w) := by
  have hs' : (s.size : Int) ≤ 9223372036854775807 := by omega
  go_enter Try.func19, Try.ntmps19
  go_wp2_with fail
  go_loop [5] (fun i => ∃ k : Nat, k ≤ s.size ∧ i = .int .i64 (k : Nat) ∧ Hid (NoDot (bs s) k)) (fun i => s.size - (intOf i).toNat)
  case atStart => exact ⟨0, Nat.zero_le _, rfl, Lib.hid fun _ hj => absurd hj (Nat.not_lt_zero _)⟩
  case round =>
    obtain ⟨k, hk, rfl, HG⟩ := hrel
    have d1 : (0 : Int) ≤ (k : Int) := by omega
    rcases Nat.lt_or_ge k s.size with h | h
    · have hks : k < (bs s).length := by rw [bs_len]; exact h
      have d2 : (k : Int) < (s.size : Int) := by omega
      have c3 : (0 : Int) ≤ (k : Int) + 1 := by omega
      have c4 : (k : Int) + 1 ≤ (s.size : Int) := by omega
      by_cases g : (bs s)[k] = 46
      · have HD := dot_hit h HG.out g
        have q : (((s[k]).toNat : Int) == 46) = true := beq_iff_eq.2 ((byte_is (n := 46) (by decide)).1 g)
        obtain ⟨eA, eB⟩ := cut_hit HD
        have ha : (s.extract 0 k).size ≤ 9223372036854775807 := by rw [← eA]; exact Nat.le_trans (cutA_size s) hs
        have hb : (s.extract (k + 1) s.size).size ≤ 9223372036854775807 := by rw [← eB]; exact Nat.le_trans (cutB_size s) hs
        rcases chk_cases (bs (cutA s)) with h1 | h1
        · rcases chk_cases (bs (cutB s)) with h2 | h2
          · have HV := Lib.hid (spV_yes h1 h2)
            rw [eA, eB] at HV
            rw [eA] at h1
            rw [eB] at h2
            clear eA eB HD g
            go_wp2_with fail
            refine (rcheck_at h1 ha w).mono ?_
            rintro e w1 ⟨rfl, hb1⟩
            go_wp2_with fail
            refine (rcheck_at h2 hb w1).mono ?_
            rintro e w2 ⟨rfl, hb2⟩
            go_wp2_with fail
            go_region
            all_goals
              go_wp2_with fail
              go_ret3
              exact gives_eq HV.out (by (repeat (first | (with_reducible exact Below.refl _ _) | (with_reducible assumption) | (with_reducible apply bl_alloc) | (with_reducible apply bl_drewN) | (with_reducible apply bl_drew) | (with_reducible refine bl_set ?_ (by first | (simp; done) | (simp; omega)) _) | (with_reducible refine bl_call ?_ (by assumption)))))
          · have HV := Lib.hid (spV_no2 h2)
            rw [eA] at h1
            rw [eB] at h2
            clear eA eB HD g
            go_wp2_with fail
            refine (rcheck_at h1 ha w).mono ?_
            rintro e w1 ⟨rfl, hb1⟩
            go_wp2_with fail
            refine (rcheck_at h2 hb w1).mono ?_
            rintro e w2 ⟨rfl, hb2⟩
            go_wp2_with fail
            go_ret3
            exact gives_eq HV.out (by (repeat (first | (with_reducible exact Below.refl _ _) | (with_reducible assumption) | (with_reducible apply bl_alloc) | (with_reducible apply bl_drewN) | (with_reducible apply bl_drew) | (with_reducible refine bl_set ?_ (by first | (simp; done) | (simp; omega)) _) | (with_reducible refine bl_call ?_ (by assumption)))))
        · have HV := Lib.hid (spV_no1 h1)
          rw [eA] at h1
          clear eA eB HD g hb
          go_wp2_with fail
          refine (rcheck_at h1 ha w).mono ?_
          rintro e w1 ⟨rfl, hb1⟩
          go_wp2_with fail
          go_ret3
          exact gives_eq HV.out (by (repeat (first | (with_reducible exact Below.refl _ _) | (with_reducible assumption) | (with_reducible apply bl_alloc) | (with_reducible apply bl_drewN) | (with_reducible apply bl_drew) | (with_reducible refine bl_set ?_ (by first | (simp; done) | (simp; omega)) _) | (with_reducible refine bl_call ?_ (by assumption)))))
      · have HG2 := Lib.hid (nodot_step hks HG.out g)
        have q : (((s[k]).toNat : Int) == 46) = false := beq_eq_false_iff_ne.2 fun e => g ((byte_is (n := 46) (by decide)).2 e)
        clear g
        go_wp2_with fail
        go_round
        case rel => exact ⟨k + 1, by omega, by go_num, HG2⟩
        case measure => simp [intOf]; omega
    · have HV := Lib.hid (spV_miss (dot_miss HG.out h))
      have q : decide ((k : Int) < (s.size : Int)) = false := decide_eq_false (by omega)
      go_wp2_with fail
      go_ret3
      exact gives_eq HV.out (Below.refl _ _)
end Go.Proofs.Ytgepgdndhnoanaa.Na
