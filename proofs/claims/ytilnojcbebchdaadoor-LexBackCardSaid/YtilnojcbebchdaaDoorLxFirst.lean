/-
  The contracts of sign, wordSize, signSize, Number and first.
-/
import Derived.Test.YtilnojcbebchdaaDoorLxSpan
import Derived.Test.YtilnojcbebchdaaDoorLxNum
import Derived.Test.YtilnojcbebchdaaDoorText
namespace Go.Proofs.YtilnojcbebchdaaDoor.Lx
open Go.RowKit
set_option maxHeartbeats 2000000
set_option linter.unusedVariables false
theorem sg_yes {s : ByteArray} {c : List UInt8} (h : (s.toList == c) = true) (hc : sgl.contains c = true) : true = isSg (bs s) := by
  have e : bs s = c := by
    have g := eq_of_beq h
    rw [Lib.toList_data] at g
    exact g
  unfold isSg
  rw [e, hc]
theorem sg_any (s : ByteArray) : isSg (bs s) = sgl.any fun c => s.toList == c := by
  unfold isSg
  simp only [Lib.toList_data]
  rw [List.contains_eq_any_beq]
set_option maxRecDepth 100000 in
theorem sign_any (s : ByteArray) (w : World) : Calls Tryd.prog 57 #[.string s] w fun e w' => e = .returned (.bool (isSg (bs s))) ∧ w' = w := by
  go_enter Tryd.func57, Tryd.ntmps57
  go_wp2_with fail
  all_goals first
    | exact (clash (by assumption) (by assumption)).elim
    | (go_ret; exact ⟨ret_bool (sg_yes (by assumption) (by decide)), rfl⟩)
    | (go_ret; exact ⟨ret_bool (by rw [sg_any]; simp only [sgl, List.any_cons, List.any_nil, Bool.or_false, *]), rfl⟩)
theorem sign_at {s : ByteArray} {b : Bool} (h : isSg (bs s) = b) (w : World) : Calls Tryd.prog 57 #[.string s] w fun e w' => e = .returned (.bool b) ∧ w' = w := by rw [← h]; exact sign_any s w
/-- The size of the word at the beginning, or 0. -/
def wdN (l : List UInt8) : Nat := if spn ltrC l = 0 then 0 else spn wrdC l
theorem wordsize_any (s : ByteArray) (w : World) (hs : s.size ≤ 9223372036854775807) : Calls Tryd.prog 54 #[.string s] w (Gives (.int .i64 ((wdN (bs s) : Nat) : Int)) w) := by
  have I1 := span_ltr s w hs
  have I2 := fun w1 => span_wrd s w1 hs
  have HV : Hid (wdN (bs s) = if spn ltrC (bs s) = 0 then 0 else spn wrdC (bs s)) := Lib.hid rfl
  obtain ⟨K, hK⟩ : ∃ K, spn ltrC (bs s) = K := ⟨_, rfl⟩
  obtain ⟨M, hM⟩ : ∃ M, spn wrdC (bs s) = M := ⟨_, rfl⟩
  rw [hK] at I1
  simp only [hM] at I2
  rw [hK, hM] at HV
  clear hK hM
  by_cases h : K = 0
  · have HV2 := Lib.hid (HV.out.trans (if_pos h))
    subst h
    clear HV
    go_enter Tryd.func54, Tryd.ntmps54
    go_wp2_with fail
    refine I1.mono ?_
    rintro e w1 ⟨rfl, hb1⟩
    go_wp2_with fail
    go_ret
    exact gives_eq (by rw [HV2.out]; rfl) (by (repeat (first | (with_reducible exact Below.refl _ _) | (with_reducible assumption) | (with_reducible apply bl_alloc) | (with_reducible apply bl_drewN) | (with_reducible apply bl_drew) | (with_reducible refine bl_set ?_ (by first | (simp; done) | (simp; omega)) _) | (with_reducible refine bl_call ?_ (by assumption)))))
  · have HV2 := Lib.hid (HV.out.trans (if_neg h))
    have q : ((K : Int) == 0) = false := by rw [beq_eq_false_iff_ne]; omega
    clear HV
    go_enter Tryd.func54, Tryd.ntmps54
    go_wp2_with fail
    refine I1.mono ?_
    rintro e w1 ⟨rfl, hb1⟩
    go_wp2_with fail
    refine (I2 w1).mono ?_
    rintro e w2 ⟨rfl, hb2⟩
    go_wp2_with fail
    go_ret
    exact gives_eq (by rw [HV2.out]; rfl) (by (repeat (first | (with_reducible exact Below.refl _ _) | (with_reducible assumption) | (with_reducible apply bl_alloc) | (with_reducible apply bl_drewN) | (with_reducible apply bl_drew) | (with_reducible refine bl_set ?_ (by first | (simp; done) | (simp; omega)) _) | (with_reducible refine bl_call ?_ (by assumption)))))
theorem wordsize_at {s : ByteArray} {k : Nat} (h : wdN (bs s) = k) (hs : s.size ≤ 9223372036854775807) (w : World) : Calls Tryd.prog 54 #[.string s] w (Gives (.int .i64 (k : Int)) w) := by rw [← h]; exact wordsize_any s w hs
/-- The size of the sign at the beginning, or 0. -/
def sgN (l : List UInt8) : Nat := if 2 ≤ l.length ∧ isSg (l.take 2) = true then 2 else if isSg (l.take 1) = true then 1 else 0
theorem sg_nil : isSg [] = false := by decide
/-- No sign of more than k bytes. -/
def NoSg (l : List UInt8) (k m : Nat) : Prop := ∀ j, k < j → j ≤ m → isSg (l.take j) = false
theorem sgN_hit {l : List UInt8} {k : Nat} (h0 : 0 < k) (hk : k ≤ min 2 l.length) (h : NoSg l k (min 2 l.length)) (e : isSg (l.take k) = true) : sgN l = k := by
  unfold sgN
  by_cases h2 : k = 2
  · subst h2; rw [if_pos ⟨by omega, e⟩]
  · obtain rfl : k = 1 := by omega
    rw [if_neg, if_pos e]
    rintro ⟨g1, g2⟩
    rw [h 2 (by omega) (by omega)] at g2
    cases g2
theorem sgN_miss {l : List UInt8} (h : NoSg l 0 (min 2 l.length)) : sgN l = 0 := by
  unfold sgN
  rw [if_neg, if_neg]
  · intro g
    by_cases h1 : l.length = 0
    · have : l = [] := List.length_eq_zero_iff.1 h1
      subst this
      cases (by simpa using g : isSg [] = true)
    · rw [h 1 (by omega) (by omega)] at g; cases g
  · rintro ⟨g1, g2⟩
    rw [h 2 (by omega) (by omega)] at g2
    cases g2
theorem noSg_step {l : List UInt8} {k m : Nat} (h : NoSg l (k + 1) m) (e : isSg (l.take (k + 1)) = false) : NoSg l k m := by
  intro j h1 h2
  by_cases g : j = k + 1
  · subst g; exact e
  · exact h j (by omega) h2
theorem signsize_any (s : ByteArray) (w : World) (hs : s.size ≤ 9223372036854775807) : Calls Tryd.prog 56 #[.string s] w (Gives (.int .i64 ((sgN (bs s) : Nat) : Int)) w) := by
  have hs' : (s.size : Int) ≤ 9223372036854775807 := by omega
  obtain ⟨M, hM⟩ : ∃ M, min 2 s.size = M := ⟨_, rfl⟩
  have hM2 : M ≤ 2 := by omega
  have hMs : (M : Int) ≤ (s.size : Int) := by omega
  have hmin : ∀ (ts : Array TypeId) (t : TypeId) (W : World), (Builtin.min_ ts t #[.int .i64 2, .int .i64 (s.size : Int)]).run Tryd.prog W = .ok (.int .i64 (M : Int)) W := fun ts t W => by
    rw [run_min_int2]
    congr 2
    split <;> omega
  have HM : Hid (min 2 (bs s).length = M) := Lib.hid (by rw [bs_len]; exact hM)
  clear hM
  go_enter Tryd.func56, Tryd.ntmps56
  go_wp2_with fail
  go_loop [3] (fun i => ∃ k : Nat, k ≤ M ∧ i = .int .i64 (k : Nat) ∧ Hid (NoSg (bs s) k M)) (fun i => (intOf i).toNat)
  case atStart => exact ⟨M, Nat.le_refl _, rfl, Lib.hid fun j h1 h2 => by omega⟩
  case round =>
    obtain ⟨k, hk, rfl, HN⟩ := hrel
    cases k with
    | zero =>
      have HR := Lib.hid (sgN_miss (by rw [HM.out]; exact HN.out))
      go_wp2_with fail
      go_ret
      exact gives_eq (by rw [HR.out]; rfl) (by (repeat (first | (with_reducible exact Below.refl _ _) | (with_reducible assumption) | (with_reducible apply bl_alloc) | (with_reducible apply bl_drewN) | (with_reducible apply bl_drew) | (with_reducible refine bl_set ?_ (by first | (simp; done) | (simp; omega)) _) | (with_reducible refine bl_call ?_ (by assumption)))))
    | succ k =>
      have c1 : (0 : Int) < ((k + 1 : Nat) : Int) := by omega
      have c2 : ((k + 1 : Nat) : Int) ≤ (s.size : Int) := by omega
      have c3 : ((k + 1 : Nat) : Int) - 1 = (k : Int) := by omega
      have hx := head_mk s (k + 1)
      have HY := Lib.hid (fun e => sgN_hit (k := k + 1) (Nat.succ_pos k) (by rw [HM.out]; exact hk) (by rw [HM.out]; exact HN.out) e)
      have HZ := Lib.hid (fun e => noSg_step HN.out e)
      obtain ⟨K, hK⟩ : ∃ K : Nat, k + 1 = K := ⟨_, rfl⟩
      have I1 := sign_any (s.extract 0 K) w
      rw [hK] at c1 c2 c3 hx HY HZ hk
      rw [hK]
      rw [hx, bs_mk, ← hx] at I1
      have hK1 : (K : Int) - 1 = (k : Int) := c3
      obtain ⟨b, hb⟩ : ∃ b, isSg ((bs s).take K) = b := ⟨_, rfl⟩
      rw [hb] at I1 HY HZ
      clear hx hb HN
      cases b with
      | true =>
        have HR := Lib.hid (HY.out rfl)
        clear HY HZ
        go_wp2_with fail
        refine I1.mono ?_
        rintro e w1 ⟨rfl, rfl⟩
        go_wp2_with fail
        go_ret
        exact gives_eq (by rw [HR.out]; rfl) (by (repeat (first | (with_reducible exact Below.refl _ _) | (with_reducible assumption) | (with_reducible apply bl_alloc) | (with_reducible apply bl_drewN) | (with_reducible apply bl_drew) | (with_reducible refine bl_set ?_ (by first | (simp; done) | (simp; omega)) _) | (with_reducible refine bl_call ?_ (by assumption)))))
      | false =>
        have HN2 := Lib.hid (HZ.out rfl)
        clear HY HZ
        go_wp2_with fail
        refine I1.mono ?_
        rintro e w1 ⟨rfl, rfl⟩
        go_wp2_with fail
        go_round
        case rel => exact ⟨k, by omega, by go_num, HN2⟩
        case measure => simp [intOf]; omega
/-- What the number of a text is, for the walks. -/
theorem num_eq {s : ByteArray} {v : Int} : num v = s ↔ bs s = Lib.itoa v := by
  constructor
  · rintro rfl; rfl
  · intro h; exact (bs_inj (a := s) (b := num v) h).symm
theorem number_yes {s : ByteArray} {v : Int} (h : numO (bs s) = some v) (w : World) (hE : Env w) : Calls Tryd.prog 20 #[.string s] w (Gives (.tuple #[.int .i64 v, .bool true]) w) := by
  obtain ⟨h0, h1, h2⟩ := numO_some.1 h
  have e := num_eq.2 h2
  have I1 := parse_yes v (by omega) h1 w hE
  rw [e] at I1
  have c : decide (v < 0) = false := decide_eq_false (by omega)
  clear h h2 e hE
  go_enter Tryd.func20, Tryd.ntmps20
  go_wp2_with fail
  refine I1.mono ?_
  rintro e w1 ⟨rfl, hb1⟩
  go_wp2_with fail
  go_ret2
  exact ⟨rfl, hb1⟩
theorem number_no {s : ByteArray} (h : numO (bs s) = none) (hs : s.size ≤ 140737488355328) (w : World) (hE : Env w) : Calls Tryd.prog 20 #[.string s] w (Gives (.tuple #[.int .i64 0, .bool false]) w) := by
  by_cases hv : ∃ v, inB v = true ∧ num v = s
  · obtain ⟨v, hv, e⟩ := hv
    obtain ⟨h0, h1⟩ := inB_true hv
    have hneg : v < 0 := by
      rcases Int.lt_or_le v 0 with g | g
      · exact g
      · exact absurd (num_eq.1 e) (numO_none.1 h v g h1)
    have I1 := parse_yes v h0 h1 w hE
    rw [e] at I1
    have c : decide (v < 0) = true := decide_eq_true hneg
    clear h e hE hv
    go_enter Tryd.func20, Tryd.ntmps20
    go_wp2_with fail
    refine I1.mono ?_
    rintro e w1 ⟨rfl, hb1⟩
    go_wp2_with fail
    go_ret2
    exact ⟨rfl, hb1⟩
  · have I1 := parse_no s hs (fun v hi e => hv ⟨v, hi, e⟩) w hE
    clear h hE hv
    go_enter Tryd.func20, Tryd.ntmps20
    go_wp2_with fail
    refine I1.mono ?_
    rintro e w1 ⟨rfl, hb1⟩
    go_wp2_with fail
    go_ret2
    exact ⟨rfl, hb1⟩
theorem fst_word {l : List UInt8} {k : Nat} (h : wdN l = k) (hk : 0 < k) : fstO l = some (⟨1, mkS (l.take k), 0, 0⟩, k) := by
  unfold wdN at h
  unfold fstO
  by_cases h1 : spn ltrC l = 0
  · rw [if_pos h1] at h; omega
  · rw [if_neg h1] at h ⊢; rw [h]
theorem wd_zero {l : List UInt8} (h : wdN l = 0) : spn ltrC l = 0 := by
  unfold wdN at h
  by_cases h1 : spn ltrC l = 0
  · exact h1
  · rw [if_neg h1] at h
    obtain ⟨c, t, rfl, hc⟩ := spn_pos h1
    have := spn_one (p := wrdC) (t := t) (wrd_ltr hc)
    omega
theorem fst_num {l : List UInt8} {k : Nat} {v : Int} (h : wdN l = 0) (h2 : spn digC l = k) (hk : 0 < k) (e : numO (l.take k) = some v) : fstO l = some (⟨2, mt, v, 0⟩, k) := by
  unfold fstO
  rw [if_pos (wd_zero h), h2, if_neg (by omega), e]
theorem fst_numno {l : List UInt8} {k : Nat} (h : wdN l = 0) (h2 : spn digC l = k) (hk : 0 < k) (e : numO (l.take k) = none) : fstO l = none := by
  unfold fstO
  rw [if_pos (wd_zero h), h2, if_neg (by omega), e]
theorem fst_sign {l : List UInt8} {k : Nat} (h : wdN l = 0) (h2 : spn digC l = 0) (h3 : sgN l = k) : fstO l = if k = 0 then none else some (⟨3, mkS (l.take k), 0, 0⟩, k) := by
  unfold fstO
  rw [if_pos (wd_zero h), if_pos h2]
  unfold sgN at h3
  by_cases g1 : 2 ≤ l.length ∧ isSg (l.take 2) = true
  · rw [if_pos g1] at h3 ⊢
    subst h3
    rw [if_neg (by decide)]
  · rw [if_neg g1] at h3 ⊢
    by_cases g2 : isSg (l.take 1) = true
    · rw [if_pos g2] at h3 ⊢
      subst h3
      rw [if_neg (by decide)]
    · rw [if_neg g2] at h3 ⊢
      subst h3
      rw [if_pos rfl]
/-- What first returns: the token and its size, or 0. -/
def Fst (o : Option (Tk × Nat)) (w : World) (e : Ending) (w' : World) : Prop :=
  ∃ (x : Tk) (k : Nat), e = .returned (.tuple #[.agg #[.int .i64 x.k, .string x.t, .int .i64 x.n, .int .i64 x.l], .int .i64 (k : Int)]) ∧ Below w.heap.size w w' ∧ ((o = some (x, k) ∧ 0 < k) ∨ (o = none ∧ k = 0))
theorem fst_mk {o : Option (Tk × Nat)} {w w' : World} {e : Ending} (a : Int) (b : ByteArray) (c : Int) (d : Int) (k : Nat) (he : e = .returned (.tuple #[.agg #[.int .i64 a, .string b, .int .i64 c, .int .i64 d], .int .i64 (k : Int)])) (hb : Below w.heap.size w w') (h : (o = some (⟨a, b, c, d⟩, k) ∧ 0 < k) ∨ (o = none ∧ k = 0)) : Fst o w e w' := ⟨⟨a, b, c, d⟩, k, he, hb, h⟩
/-- The block of a token that is still zero, and may be written. -/
def zb (w : World) (g : Nat) : Prop := w.cell? ⟨g, 0, none⟩ = some (.int .i64 0) ∧ w.cell? ⟨g, 1, none⟩ = some (.string ⟨#[]⟩) ∧ w.cell? ⟨g, 2, none⟩ = some (.int .i64 0) ∧ w.cell? ⟨g, 3, none⟩ = some (.int .i64 0) ∧ (∀ o, w.frozen? ⟨g, o, none⟩ = false) ∧ g < w.heap.size
theorem zb.new {w : World} : zb (w.alloc (.cells #[.int .i64 0, .string ⟨#[]⟩, .int .i64 0, .int .i64 0] 31)) w.heap.size := by
  have h := new4 (w := w) (x := ⟨0, ⟨#[]⟩, 0, 0⟩) (t := 31)
  exact ⟨h.1, h.2.1, h.2.2.1, h.2.2.2, fun o => frozen_of_row _ _ o _ _ (heap_alloc_new w _), by simp⟩
theorem zb.on {w w2 : World} {g : Nat} (hb : Below w.heap.size w w2) (h : zb w g) : zb w2 g := by
  obtain ⟨h0, h1, h2, h3, h4, h5⟩ := h
  exact ⟨(hb.cell (p := ⟨g, 0, none⟩) h5).trans h0, (hb.cell (p := ⟨g, 1, none⟩) h5).trans h1, (hb.cell (p := ⟨g, 2, none⟩) h5).trans h2, (hb.cell (p := ⟨g, 3, none⟩) h5).trans h3, fun o => (hb.frozen (p := ⟨g, o, none⟩) h5).trans (h4 o), Nat.lt_of_lt_of_le h5 hb.size⟩
set_option maxRecDepth 100000 in
theorem first_any (s : ByteArray) (w : World) (hs : s.size ≤ 140737488355328) (hE : Env w) : Calls Tryd.prog 41 #[.string s] w (Fst (fstO (bs s)) w) := by
  have hs1 : s.size ≤ 9223372036854775807 := by omega
  have hs' : (s.size : Int) ≤ 140737488355328 := by omega
  obtain ⟨K, hK⟩ : ∃ K, wdN (bs s) = K := ⟨_, rfl⟩
  have hKs : K ≤ s.size := by
    rw [← hK, ← bs_len]
    unfold wdN
    split
    · exact Nat.zero_le _
    · exact spn_le _ _
  have I1 := wordsize_at hK hs1 (w.alloc (.cells #[.int .i64 0, .string ⟨#[]⟩, .int .i64 0, .int .i64 0] 31))
  have Z := zb.new (w := w)
  have hB0 : Below w.heap.size w (w.alloc (.cells #[.int .i64 0, .string ⟨#[]⟩, .int .i64 0, .int .i64 0] 31)) := bl_alloc (Below.refl _ _)
  have q0 : (0 : Int) ≤ (K : Int) := by omega
  have q1 : (K : Int) ≤ (s.size : Int) := by omega
  by_cases h : 0 < K
  · have HF := Lib.hid (fst_word hK h)
    have hx := head_mk s K
    rw [← hx] at HF
    have q2 : decide ((0 : Int) < (K : Int)) = true := decide_eq_true (by omega)
    have HP : Hid (0 < K) := Lib.hid h
    clear hK hx h hKs hE
    go_enter Tryd.func41, Tryd.ntmps41
    go_wp2_with fail
    refine I1.mono ?_
    rintro e w1 ⟨rfl, hb1⟩
    have Z1 := zb.on hb1 Z
    obtain ⟨z0, z1, z2, z3, z4, z5⟩ := Z1
    clear Z
    go_wp2_with fail
    exact bodyPost_ret (v := .tuple #[.agg #[.int .i64 1, .string (s.extract 0 K), .int .i64 0, .int .i64 0], .int .i64 (K : Int)]) (by simp [results, Tryd.results41, go_sem, *]) rfl (fst_mk _ _ _ _ K rfl (by (repeat (first | (with_reducible exact Below.refl _ _) | (with_reducible assumption) | (with_reducible apply bl_alloc) | (with_reducible apply bl_drewN) | (with_reducible apply bl_drew) | (with_reducible refine bl_set ?_ (by first | (simp; done) | (simp; omega)) _) | (with_reducible refine bl_call ?_ (by assumption))))) (.inl ⟨HF.out, HP.out⟩))
  · obtain rfl : K = 0 := by omega
    obtain ⟨D, hD⟩ : ∃ D, spn digC (bs s) = D := ⟨_, rfl⟩
    have hDs : D ≤ s.size := by rw [← hD, ← bs_len]; exact spn_le _ _
    have I2 := fun w1 => span_dig s w1 hs1
    simp only [hD] at I2
    have d0 : (0 : Int) ≤ (D : Int) := by omega
    have d1 : (D : Int) ≤ (s.size : Int) := by omega
    by_cases g : 0 < D
    · have d2 : decide ((0 : Int) < (D : Int)) = true := decide_eq_true (by omega)
      have hx := head_mk s D
      have hxs : (s.extract 0 D).size ≤ 140737488355328 := by rw [ByteArray.size_extract]; omega
      have hxb : bs (s.extract 0 D) = (bs s).take D := by rw [hx, bs_mk]
      cases hv : numO ((bs s).take D) with
      | some v =>
        have HF := Lib.hid (fst_num hK hD g hv)
        have HP := Lib.hid g
        have I3 := fun w1 hE => number_yes (s := s.extract 0 D) (v := v) (by rw [hxb]; exact hv) w1 hE
        clear hK hD hx hxs hxb hv h
        have I3' := Lib.hid fun w1 (hb : Below w.heap.size w w1) => I3 w1 (hE.below hb)
        clear I3 hE
        go_enter Tryd.func41, Tryd.ntmps41
        go_wp2_with fail
        refine I1.mono ?_
        rintro e w1 ⟨rfl, hb1⟩
        have Z1 := zb.on hb1 Z
        clear Z
        go_wp2_with fail
        refine (I2 w1).mono ?_
        rintro e w2 ⟨rfl, hb2⟩
        have Z2 := zb.on hb2 Z1
        clear Z1
        go_wp2_with fail
        refine (I3'.out w2 (by (repeat (first | (with_reducible exact Below.refl _ _) | (with_reducible assumption) | (with_reducible apply bl_alloc) | (with_reducible apply bl_drewN) | (with_reducible apply bl_drew) | (with_reducible refine bl_set ?_ (by first | (simp; done) | (simp; omega)) _) | (with_reducible refine bl_call ?_ (by assumption)))))).mono ?_
        rintro e w3 ⟨rfl, hb3⟩
        have Z3 := zb.on hb3 Z2
        clear Z2
        obtain ⟨z0, z1, z2, z3, z4, z5⟩ := Z3
        go_wp2_with fail
        exact bodyPost_ret (v := .tuple #[.agg #[.int .i64 2, .string (⟨#[]⟩), .int .i64 v, .int .i64 0], .int .i64 (D : Int)]) (by simp [results, Tryd.results41, go_sem, *]) rfl (fst_mk _ _ _ _ D rfl (by (repeat (first | (with_reducible exact Below.refl _ _) | (with_reducible assumption) | (with_reducible apply bl_alloc) | (with_reducible apply bl_drewN) | (with_reducible apply bl_drew) | (with_reducible refine bl_set ?_ (by first | (simp; done) | (simp; omega)) _) | (with_reducible refine bl_call ?_ (by assumption))))) (.inl ⟨HF.out, HP.out⟩))
      | none =>
        have HF := Lib.hid (fst_numno hK hD g hv)
        have I3 := fun w1 hE => number_no (s := s.extract 0 D) (by rw [hxb]; exact hv) hxs w1 hE
        clear hK hD hx hxs hxb hv h
        have I3' := Lib.hid fun w1 (hb : Below w.heap.size w w1) => I3 w1 (hE.below hb)
        clear I3 hE
        go_enter Tryd.func41, Tryd.ntmps41
        go_wp2_with fail
        refine I1.mono ?_
        rintro e w1 ⟨rfl, hb1⟩
        have Z1 := zb.on hb1 Z
        clear Z
        go_wp2_with fail
        refine (I2 w1).mono ?_
        rintro e w2 ⟨rfl, hb2⟩
        have Z2 := zb.on hb2 Z1
        clear Z1
        go_wp2_with fail
        refine (I3'.out w2 (by (repeat (first | (with_reducible exact Below.refl _ _) | (with_reducible assumption) | (with_reducible apply bl_alloc) | (with_reducible apply bl_drewN) | (with_reducible apply bl_drew) | (with_reducible refine bl_set ?_ (by first | (simp; done) | (simp; omega)) _) | (with_reducible refine bl_call ?_ (by assumption)))))).mono ?_
        rintro e w3 ⟨rfl, hb3⟩
        have Z3 := zb.on hb3 Z2
        clear Z2
        obtain ⟨z0, z1, z2, z3, z4, z5⟩ := Z3
        go_wp2_with fail
        exact bodyPost_ret (v := .tuple #[.agg #[.int .i64 0, .string (⟨#[]⟩), .int .i64 0, .int .i64 0], .int .i64 0]) (by simp [results, Tryd.results41, go_sem, *]) rfl (fst_mk _ _ _ _ 0 rfl (by (repeat (first | (with_reducible exact Below.refl _ _) | (with_reducible assumption) | (with_reducible apply bl_alloc) | (with_reducible apply bl_drewN) | (with_reducible apply bl_drew) | (with_reducible refine bl_set ?_ (by first | (simp; done) | (simp; omega)) _) | (with_reducible refine bl_call ?_ (by assumption))))) (.inr ⟨HF.out, rfl⟩))
    · obtain rfl : D = 0 := by omega
      obtain ⟨G, hG⟩ : ∃ G, sgN (bs s) = G := ⟨_, rfl⟩
      have hGs : G ≤ s.size := by
        rw [← hG, ← bs_len]
        unfold sgN
        split
        · omega
        · split
          · rename_i g2
            have := isSg_len g2
            rw [List.length_take] at this
            omega
          · omega
      have HF := fst_sign hK hD hG
      have hx := head_mk s G
      rw [← hx] at HF
      have HF' := Lib.hid HF
      have I3 := fun w1 => signsize_any s w1 hs1
      simp only [hG] at I3
      have g0 : (0 : Int) ≤ (G : Int) := by omega
      have g1 : (G : Int) ≤ (s.size : Int) := by omega
      clear hK hD hG hx HF g h hE hGs
      go_enter Tryd.func41, Tryd.ntmps41
      go_wp2_with fail
      refine I1.mono ?_
      rintro e w1 ⟨rfl, hb1⟩
      have Z1 := zb.on hb1 Z
      clear Z
      go_wp2_with fail
      refine (I2 w1).mono ?_
      rintro e w2 ⟨rfl, hb2⟩
      have Z2 := zb.on hb2 Z1
      clear Z1
      go_wp2_with fail
      refine (I3 w2).mono ?_
      rintro e w3 ⟨rfl, hb3⟩
      have Z3 := zb.on hb3 Z2
      clear Z2
      obtain ⟨z0, z1, z2, z3, z4, z5⟩ := Z3
      go_wp2_with fail
      exact bodyPost_ret (v := .tuple #[.agg #[.int .i64 3, .string (s.extract 0 G), .int .i64 0, .int .i64 0], .int .i64 (G : Int)]) (by simp [results, Tryd.results41, go_sem, *]) rfl (fst_mk _ _ _ _ G rfl (by (repeat (first | (with_reducible exact Below.refl _ _) | (with_reducible assumption) | (with_reducible apply bl_alloc) | (with_reducible apply bl_drewN) | (with_reducible apply bl_drew) | (with_reducible refine bl_set ?_ (by first | (simp; done) | (simp; omega)) _) | (with_reducible refine bl_call ?_ (by assumption))))) (by
        have h := HF'.out
        by_cases e : G = 0
        · rw [if_pos e] at h; exact .inr ⟨h, e⟩
        · rw [if_neg e] at h; exact .inl ⟨h, by omega⟩))
end Go.Proofs.YtilnojcbebchdaaDoor.Lx
