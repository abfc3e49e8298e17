/-
  What Check says of a list; the contracts of placed, inOrder and checkAt.
-/
import Derived.Test.YtilnojcbebchdaaDoorLxForm
namespace Go.Proofs.YtilnojcbebchdaaDoor.Lx
open Go.RowKit
set_option maxHeartbeats 2000000
set_option linter.unusedVariables false
theorem beq_dec (x y : Int) : (x == y) = decide (x = y) := by by_cases h : x = y <;> simp [h]
/-- Whether a kind can stand behind a token of another kind. -/
def plB (bk xk : Int) (last : Bool) : Bool := if xk = 4 then !decide (bk = 4) else if xk = 0 then decide (bk = 4) && last else true
/-- Whether a line agrees with the one before. -/
def orB (first : Bool) (bk bl xk xl : Int) : Bool := if first = true then decide (1 ≤ xl) else if ¬ bk = 4 then decide (xl = bl) else if xk = 0 then decide (bl ≤ xl) else decide (bl < xl)
/-- What Check says of a token x behind b. -/
def chkA (first : Bool) (b x : Tk) (last : Bool) : Int :=
  if x.k < 0 ∨ 4 < x.k then 1 else if (fmB x && plB b.k x.k last) = false then 8 else if orB first b.k b.l x.k x.l = false then 12 else 0
/-- The token before place k. -/
def bef (l : List Tk) (k : Nat) : Tk := if k = 0 then ⟨4, mt, 0, 0⟩ else l.getD (k - 1) ⟨4, mt, 0, 0⟩
theorem bef_zero (l : List Tk) : bef l 0 = ⟨4, mt, 0, 0⟩ := rfl
theorem bef_succ {l : List Tk} {j : Nat} (h : j < l.length) : bef l (j + 1) = l[j] := by
  unfold bef
  rw [if_neg (by omega), Nat.add_sub_cancel]
  simp [List.getD, List.getElem?_eq_getElem h]
def chkK (l : List Tk) (k : Nat) : Int := chkA (decide (k = 0)) (bef l k) (l.getD k ⟨4, mt, 0, 0⟩) (decide (k + 1 = l.length))
theorem getD_at {l : List Tk} {k : Nat} (h : k < l.length) : l.getD k ⟨4, mt, 0, 0⟩ = l[k] := by simp [List.getD, List.getElem?_eq_getElem h]
/-- The first that is not 0. -/
def orF (V : Nat → Int) : Nat → Int
  | 0 => 0
  | n + 1 => if orF V n = 0 then V n else orF V n
theorem orF_next {V : Nat → Int} {k : Nat} (h0 : orF V k = 0) (h1 : V k = 0) : orF V (k + 1) = 0 := by
  show (if orF V k = 0 then V k else orF V k) = 0
  rw [if_pos h0, h1]
theorem orF_stay {V : Nat → Int} {k : Nat} (h : orF V k ≠ 0) : ∀ n, k ≤ n → orF V n = orF V k
  | 0, hn => by
    obtain rfl : k = 0 := by omega
    rfl
  | n + 1, hn => by
    by_cases e : k = n + 1
    · subst e; rfl
    · show (if orF V n = 0 then V n else orF V n) = _
      have ih := orF_stay h n (by omega)
      rw [if_neg (by rw [ih]; exact h), ih]
theorem orF_hit {V : Nat → Int} {k n : Nat} (h0 : orF V k = 0) (h1 : V k ≠ 0) (hk : k < n) : orF V n = V k := by
  have e : orF V (k + 1) = V k := by
    show (if orF V k = 0 then V k else orF V k) = V k
    rw [if_pos h0]
  rw [orF_stay (k := k + 1) (by rw [e]; exact h1) n hk, e]
theorem orF_iff {V : Nat → Int} {n : Nat} : orF V n = 0 ↔ ∀ i, i < n → V i = 0 := by
  induction n with
  | zero => exact ⟨fun _ i hi => absurd hi (Nat.not_lt_zero _), fun _ => rfl⟩
  | succ m ih =>
    show (if orF V m = 0 then V m else orF V m) = 0 ↔ _
    constructor
    · intro h
      split at h
      · rename_i h0
        intro i hi
        by_cases e : i = m
        · subst e; exact h
        · exact ih.1 h0 i (by omega)
      · rename_i h0; exact absurd h h0
    · intro h
      rw [if_pos (ih.2 fun i hi => h i (by omega))]
      exact h m (by omega)
/-- What Check says of a list. -/
def chkL (l : List Tk) : Int := if orF (chkK l) l.length = 0 then (if (bef l l.length).k = 0 then 0 else 8) else orF (chkK l) l.length
set_option maxRecDepth 100000 in
theorem placed_first (b o n c : Nat) (K : Int) (w : World) (hn : 0 < n) (hc : n ≤ 9223372036854775807) (e1 : w.cell? ⟨b, o, none⟩ = some (.int .i64 K)) :
    Calls Tryd.prog 45 #[.slice (some ⟨b, o, none⟩) n c, .int .i64 0] w fun e w' => e = .returned (.bool (plB 4 K (decide (0 + 1 = n)))) ∧ w' = w := by
  have hn' : (0 : Int) < (n : Int) := by omega
  obtain ⟨m, rfl⟩ : ∃ m, n = m + 1 := ⟨n - 1, by omega⟩
  have c0 : ((m + 1 : Nat) : Int) - 1 = (m : Int) := by omega
  obtain ⟨N, hN⟩ : ∃ N, m + 1 = N := ⟨_, rfl⟩
  rw [hN] at c0 hn' hn hc ⊢
  have HB : Hid (decide (0 + 1 = N) = ((0 : Int) == (m : Int))) := Lib.hid (by
    rw [← hN]
    by_cases e : m = 0
    · subst e; rfl
    · rw [decide_eq_false (by omega)]
      symm
      rw [beq_eq_false_iff_ne]
      omega)
  rw [HB.out]
  clear HB hN
  go_enter Tryd.func45, Tryd.ntmps45
  go_wp2_with fail
  all_goals
    go_ret
    exact ⟨ret_bool (by first | (simp_all [plB]; done) | (simp_all [plB]; exact beq_dec _ _)), rfl⟩
set_option maxRecDepth 100000 in
theorem placed_next (b o n c k j : Nat) (B K : Int) (w : World) (hk : k < n) (hj : k = j + 1) (hc : n ≤ 9223372036854775807) (e0 : w.cell? ⟨b, o + j * 4, none⟩ = some (.int .i64 B)) (e1 : w.cell? ⟨b, o + k * 4, none⟩ = some (.int .i64 K)) :
    Calls Tryd.prog 45 #[.slice (some ⟨b, o, none⟩) n c, .int .i64 (k : Int)] w fun e w' => e = .returned (.bool (plB B K (decide (k + 1 = n)))) ∧ w' = w := by
  have hn' : (k : Int) < (n : Int) := by omega
  have hk0 : (0 : Int) ≤ (k : Int) := by omega
  have hj0 : (0 : Int) ≤ (j : Int) := by omega
  have hj1 : (j : Int) < (n : Int) := by omega
  have z : ((k : Int) == 0) = false := by rw [beq_eq_false_iff_ne]; omega
  have c1 : (k : Int) - 1 = (j : Int) := by omega
  obtain ⟨m, hm⟩ : ∃ m, n = m + 1 := ⟨n - 1, by omega⟩
  have c0 : (n : Int) - 1 = (m : Int) := by omega
  have HB : Hid (decide (k + 1 = n) = ((k : Int) == (m : Int))) := Lib.hid (by
    by_cases e : k = m
    · subst e; rw [decide_eq_true (by omega)]; simp
    · rw [decide_eq_false (by omega)]
      symm
      rw [beq_eq_false_iff_ne]
      omega)
  rw [HB.out]
  clear HB hm hj
  go_enter Tryd.func45, Tryd.ntmps45
  go_wp2_with fail
  all_goals
    go_ret
    exact ⟨ret_bool (by first | (simp_all [plB]; done) | (simp_all [plB]; exact beq_dec _ _)), rfl⟩
set_option maxRecDepth 100000 in
theorem order_first (b o n c : Nat) (K L : Int) (w : World) (hn : 0 < n) (hc : n ≤ 9223372036854775807) (e1 : w.cell? ⟨b, o, none⟩ = some (.int .i64 K)) (e2 : w.cell? ⟨b, o + 3, none⟩ = some (.int .i64 L)) :
    Calls Tryd.prog 46 #[.slice (some ⟨b, o, none⟩) n c, .int .i64 0] w fun e w' => e = .returned (.bool (orB true 4 0 K L)) ∧ w' = w := by
  have hn' : (0 : Int) < (n : Int) := by omega
  go_enter Tryd.func46, Tryd.ntmps46
  go_wp2_with fail
  all_goals
    go_ret
    exact ⟨ret_bool (by first | (simp_all [orB]; done) | (simp_all [orB]; exact beq_dec _ _)), rfl⟩
set_option maxRecDepth 100000 in
theorem order_next (b o n c k j : Nat) (B M K L : Int) (w : World) (hk : k < n) (hj : k = j + 1) (hc : n ≤ 9223372036854775807) (e0 : w.cell? ⟨b, o + j * 4, none⟩ = some (.int .i64 B)) (e3 : w.cell? ⟨b, o + j * 4 + 3, none⟩ = some (.int .i64 M)) (e1 : w.cell? ⟨b, o + k * 4, none⟩ = some (.int .i64 K)) (e2 : w.cell? ⟨b, o + k * 4 + 3, none⟩ = some (.int .i64 L)) :
    Calls Tryd.prog 46 #[.slice (some ⟨b, o, none⟩) n c, .int .i64 (k : Int)] w fun e w' => e = .returned (.bool (orB false B M K L)) ∧ w' = w := by
  have hn' : (k : Int) < (n : Int) := by omega
  have hk0 : (0 : Int) ≤ (k : Int) := by omega
  have hj0 : (0 : Int) ≤ (j : Int) := by omega
  have hj1 : (j : Int) < (n : Int) := by omega
  have z : ((k : Int) == 0) = false := by rw [beq_eq_false_iff_ne]; omega
  have c1 : (k : Int) - 1 = (j : Int) := by omega
  clear hj
  go_enter Tryd.func46, Tryd.ntmps46
  go_wp2_with fail
  all_goals
    go_ret
    exact ⟨ret_bool (by first | (simp_all [orB]; done) | (simp_all [orB]; exact beq_dec _ _)), rfl⟩
/-- What the walks read of a list at place k. -/
theorem toks_at {w : World} {p : Option Addr} {n : Nat} {l : List Tk} (h : Toks w p n l) {k : Nat} (hk : k < n) : ∃ b o, p = some ⟨b, o, none⟩ ∧ b < w.heap.size ∧ ∀ i, (g : i < l.length) → cell4 w b (o + i * 4) l[i] := by
  obtain ⟨-, -, h0 | ⟨b, o, rfl, hb, hc⟩⟩ := h
  · omega
  · exact ⟨b, o, rfl, hb, hc.out⟩
theorem placed_any {p : Option Addr} {n c : Nat} {l : List Tk} {k : Nat} (w : World) (hT : Toks w p n l) (hk : k < n) : Calls Tryd.prog 45 #[.slice p n c, .int .i64 (k : Int)] w fun e w' => e = .returned (.bool (plB (bef l k).k (l.getD k ⟨4, mt, 0, 0⟩).k (decide (k + 1 = l.length)))) ∧ w' = w := by
  obtain ⟨b, o, rfl, hb, hc⟩ := toks_at hT hk
  obtain ⟨hl, hn, -⟩ := hT
  have hkl : k < l.length := by omega
  rw [getD_at hkl, hl]
  have e1 := (hc k hkl).1
  cases k with
  | zero => rw [Nat.zero_mul, Nat.add_zero] at e1; exact placed_first b o n c _ w hk hn e1
  | succ j =>
    rw [bef_succ (by omega)]
    exact placed_next b o n c (j + 1) j _ _ w hk rfl hn (hc j (by omega)).1 e1
theorem order_any {p : Option Addr} {n c : Nat} {l : List Tk} {k : Nat} (w : World) (hT : Toks w p n l) (hk : k < n) : Calls Tryd.prog 46 #[.slice p n c, .int .i64 (k : Int)] w fun e w' => e = .returned (.bool (orB (decide (k = 0)) (bef l k).k (bef l k).l (l.getD k ⟨4, mt, 0, 0⟩).k (l.getD k ⟨4, mt, 0, 0⟩).l)) ∧ w' = w := by
  obtain ⟨b, o, rfl, hb, hc⟩ := toks_at hT hk
  obtain ⟨hl, hn, -⟩ := hT
  have hkl : k < l.length := by omega
  rw [getD_at hkl]
  have e1 := hc k hkl
  cases k with
  | zero =>
    rw [Nat.zero_mul, Nat.add_zero] at e1
    exact order_first b o n c _ _ w hk hn e1.1 e1.2.2.2
  | succ j =>
    rw [bef_succ (by omega)]
    have e0 := hc j (by omega)
    exact order_next b o n c (j + 1) j _ _ _ _ w hk rfl hn e0.1 e0.2.2.2 e1.1 e1.2.2.2
/-- No text is too long. -/
def Fits (l : List Tk) : Prop := ∀ x ∈ l, x.t.size ≤ 9223372036854775807
set_option maxRecDepth 100000 in
theorem checkat_any {p : Option Addr} {n c : Nat} {l : List Tk} {k : Nat} (w : World) (hT : Toks w p n l) (hF : Fits l) (hk : k < n) : Calls Tryd.prog 28 #[.slice p n c, .int .i64 (k : Int)] w (Gives (.int .i64 (chkK l k)) w) := by
  have I2 := fun w1 (hb : Below w.heap.size w w1) => placed_any (c := c) w1 (hT.on hb) hk
  have I3 := fun w1 (hb : Below w.heap.size w w1) => order_any (c := c) w1 (hT.on hb) hk
  obtain ⟨b, o, rfl, hb, hc⟩ := toks_at hT hk
  obtain ⟨hl, hn, -⟩ := hT
  have hkl : k < l.length := by omega
  have hx := hc k hkl
  have I1 := fun w1 => formed_any l[k] w1 (hF _ (List.getElem_mem hkl))
  have HV : Hid (chkK l k = chkA (decide (k = 0)) (bef l k) l[k] (decide (k + 1 = l.length))) := Lib.hid (by unfold chkK; rw [getD_at hkl])
  rw [getD_at hkl] at I2 I3
  unfold chkA at HV
  obtain ⟨X, hX⟩ : ∃ X, l[k] = X := ⟨_, rfl⟩
  rw [hX] at hx I1 I2 I3 HV
  obtain ⟨e1, e2, e3, e4⟩ := hx
  obtain ⟨K, T, N, L⟩ := X
  simp only at e1 e2 e3 e4 I1 I2 I3 HV
  generalize plB (bef l k).k K (decide (k + 1 = l.length)) = pb at *
  generalize orB (decide (k = 0)) (bef l k).k (bef l k).l K L = ob at *
  generalize fmB ⟨K, T, N, L⟩ = fb at *
  obtain ⟨V, hV⟩ : ∃ V, chkK l k = V := ⟨_, rfl⟩
  rw [hV] at HV ⊢
  have k0 : (0 : Int) ≤ (k : Int) := by omega
  have k1 : (k : Int) < (n : Int) := by omega
  clear hc hX hV hF hkl
  by_cases h1 : K < 0
  · have c1 : decide (K < 0) = true := decide_eq_true h1
    have HR := HV.out
    rw [if_pos (.inl h1)] at HR
    subst HR
    clear HV
    go_enter Tryd.func28, Tryd.ntmps28
    go_wp2_with fail
    go_ret
    exact ⟨rfl, Below.refl _ _⟩
  have c1 : decide (K < 0) = false := decide_eq_false h1
  by_cases h2 : 4 < K
  · have c2 : decide (4 < K) = true := decide_eq_true h2
    have HR := HV.out
    rw [if_pos (.inr h2)] at HR
    subst HR
    clear HV
    go_enter Tryd.func28, Tryd.ntmps28
    go_wp2_with fail
    go_ret
    exact ⟨rfl, Below.refl _ _⟩
  have c2 : decide (4 < K) = false := decide_eq_false h2
  have HV2 := HV.out
  rw [if_neg (by omega)] at HV2
  have HV3 := Lib.hid HV2
  clear HV HV2
  cases fb with
  | false =>
    have HR : V = 8 := HV3.out
    subst HR
    clear HV3
    go_enter Tryd.func28, Tryd.ntmps28
    go_wp2_with fail
    refine (I1 _).mono ?_
    rintro e w1 ⟨rfl, hb1⟩
    go_wp2_with fail
    go_ret
    exact ⟨rfl, hb1⟩
  | true =>
    cases pb with
    | false =>
      have HR : V = 8 := HV3.out
      subst HR
      clear HV3
      go_enter Tryd.func28, Tryd.ntmps28
      go_wp2_with fail
      refine (I1 _).mono ?_
      rintro e w1 ⟨rfl, hb1⟩
      go_wp2_with fail
      refine (I2 w1 hb1).mono ?_
      rintro e w2 ⟨rfl, rfl⟩
      go_wp2_with fail
      go_ret
      exact ⟨rfl, hb1⟩
    | true =>
      cases ob with
      | false =>
        have HR : V = 12 := HV3.out
        subst HR
        clear HV3
        go_enter Tryd.func28, Tryd.ntmps28
        go_wp2_with fail
        refine (I1 _).mono ?_
        rintro e w1 ⟨rfl, hb1⟩
        go_wp2_with fail
        refine (I2 w1 hb1).mono ?_
        rintro e w2 ⟨rfl, rfl⟩
        go_wp2_with fail
        refine (I3 w2 hb1).mono ?_
        rintro e w3 ⟨rfl, rfl⟩
        go_wp2_with fail
        go_ret
        exact ⟨rfl, hb1⟩
      | true =>
        have HR : V = 0 := HV3.out
        subst HR
        clear HV3
        go_enter Tryd.func28, Tryd.ntmps28
        go_wp2_with fail
        refine (I1 _).mono ?_
        rintro e w1 ⟨rfl, hb1⟩
        go_wp2_with fail
        refine (I2 w1 hb1).mono ?_
        rintro e w2 ⟨rfl, rfl⟩
        go_wp2_with fail
        refine (I3 w2 hb1).mono ?_
        rintro e w3 ⟨rfl, rfl⟩
        go_wp2_with fail
        go_ret
        exact ⟨rfl, hb1⟩
end Go.Proofs.YtilnojcbebchdaaDoor.Lx
