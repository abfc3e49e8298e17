/-
  Valid distributions with one text are the same.
-/
import Derived.Test.YteapicfobammjaaDoorDTextA
import Derived.Test.YteapicfobammjaaDoorDSame
import Derived.Lib.ItoaNum
namespace Go.Proofs.YteapicfobammjaaDoor.Di
open Go.RowKit
open Lib (itoa)
theorem itoa_pl (v : Int) : ∀ c ∈ itoa v, c.toNat = 45 ∨ (48 ≤ c.toNat ∧ c.toNat ≤ 57) := by
  intro c hc
  unfold Lib.itoa at hc
  split at hc
  · rcases List.mem_cons.1 hc with rfl | h
    · exact .inl rfl
    · exact .inr (dec_digits _ c h)
  · exact .inr (dec_digits _ c hc)
/-- What stands ahead of the first sign of a kind is one. -/
theorem cut_on {p : UInt8 → Bool} {l m : List UInt8} {s : UInt8} {r t : List UInt8} (hl : ∀ c ∈ l, p c = true) (hm : ∀ c ∈ m, p c = true) (hs : p s = false) (h : l ++ s :: r = m ++ s :: t) : l = m ∧ r = t := by
  induction l generalizing m with
  | nil =>
    cases m with
    | nil => exact ⟨rfl, by injection h⟩
    | cons c m =>
      injection h with h1 h2
      subst h1
      rw [hm s List.mem_cons_self] at hs; cases hs
  | cons c l ih =>
    cases m with
    | nil =>
      injection h with h1 h2
      subst h1
      rw [hl c List.mem_cons_self] at hs; cases hs
    | cons d m =>
      injection h with h1 h2
      subst h1
      obtain ⟨e1, e2⟩ := ih (fun x hx => hl x (List.mem_cons_of_mem _ hx)) (fun x hx => hm x (List.mem_cons_of_mem _ hx)) h2
      exact ⟨by rw [e1], e2⟩
def p58 (c : UInt8) : Bool := c.toNat != 58
def p32 (c : UInt8) : Bool := c.toNat != 32
theorem pl58 (v : Int) : ∀ c ∈ itoa v, p58 c = true := by
  intro c hc
  have := itoa_pl v c hc
  unfold p58
  rw [bne_iff_ne]
  omega
theorem pl32 (v : Int) : ∀ c ∈ itoa v, p32 c = true := by
  intro c hc
  have := itoa_pl v c hc
  unfold p32
  rw [bne_iff_ne]
  omega
theorem rev58 (v : Int) : ∀ c ∈ (itoa v).reverse, p58 c = true := fun c hc => pl58 v c (List.mem_reverse.1 hc)
theorem rev32 (v : Int) : ∀ c ∈ (itoa v).reverse, p32 c = true := fun c hc => pl32 v c (List.mem_reverse.1 hc)
theorem inj64 {u v : Int} (hu : i64B u) (hv : i64B v) (h : itoa u = itoa v) : u = v := itoa_inj hu.1 hu.2 hv.1 hv.2 h
theorem tail_inj {X X' : List UInt8} {v w v' w' : Int} (h1 : i64B v) (h2 : i64B w) (h3 : i64B v') (h4 : i64B w') (h : X ++ (32 :: (itoa v ++ 58 :: itoa w)) = X' ++ (32 :: (itoa v' ++ 58 :: itoa w'))) : X = X' ∧ v = v' ∧ w = w' := by
  have h := congrArg List.reverse h
  simp only [List.reverse_append, List.reverse_cons, List.append_assoc, List.cons_append, List.nil_append] at h
  obtain ⟨e1, e2⟩ := cut_on (p := p58) (rev58 w) (rev58 w') (by decide) h
  obtain ⟨e3, e4⟩ := cut_on (p := p32) (rev32 v) (rev32 v') (by decide) e2
  exact ⟨List.reverse_inj.1 e4, inj64 h1 h3 (List.reverse_inj.1 e3), inj64 h2 h4 (List.reverse_inj.1 e1)⟩
theorem lst (x y : ByteArray) : (x ++ y).data.toList = x.data.toList ++ y.data.toList := by rw [ByteArray.data_append, Array.toList_append]
theorem tbt_list (V W : Nat → Int) (k : Nat) : (tbt V W (k + 1)).data.toList = (tbt V W k).data.toList ++ (32 :: (itoa (V k) ++ 58 :: itoa (W k))) := by
  show (tbt V W k ++ (sp ++ num (V k) ++ col ++ num (W k))).data.toList = _
  rw [lst, lst, lst, lst]
  show _ ++ ((([32] : List UInt8) ++ itoa (V k)) ++ [58] ++ itoa (W k)) = _
  simp only [List.append_assoc, List.cons_append, List.nil_append]
theorem mem58 (X : List UInt8) (v w : Int) : (58 : UInt8) ∈ X ++ (32 :: (itoa v ++ 58 :: itoa w)) := by simp
theorem tbt_inj (V W V' W' : Nat → Int) : ∀ (m m' : Nat), (∀ i, i < m → i64B (V i) ∧ i64B (W i)) → (∀ i, i < m' → i64B (V' i) ∧ i64B (W' i)) → tbt V W m = tbt V' W' m' → m = m' ∧ ∀ i, i < m → V i = V' i ∧ W i = W' i := by
  intro m
  induction m with
  | zero =>
    intro m' _ _ h
    cases m' with
    | zero => exact ⟨rfl, fun i hi => by omega⟩
    | succ k =>
      exfalso
      have h := congrArg (fun x => x.data.toList) h
      simp only [tbt_list] at h
      have g := mem58 (tbt V' W' k).data.toList (V' k) (W' k)
      rw [← h] at g
      revert g
      show ¬ (58 : UInt8) ∈ ([116, 97, 98, 108, 101] : List UInt8)
      decide
  | succ k ih =>
    intro m' hb hb' h
    have h := congrArg (fun x => x.data.toList) h
    cases m' with
    | zero =>
      exfalso
      simp only [tbt_list] at h
      have g := mem58 (tbt V W k).data.toList (V k) (W k)
      rw [h] at g
      revert g
      show ¬ (58 : UInt8) ∈ ([116, 97, 98, 108, 101] : List UInt8)
      decide
    | succ k' =>
      simp only [tbt_list] at h
      have a := hb k (by omega)
      have b := hb' k' (by omega)
      obtain ⟨e, e1, e2⟩ := tail_inj a.1 a.2 b.1 b.2 h
      obtain ⟨e3, e4⟩ := ih k' (fun i hi => hb i (by omega)) (fun i hi => hb' i (by omega)) (WideShapes.bytes_inj e)
      subst e3
      refine ⟨rfl, fun i hi => ?_⟩
      rcases Nat.lt_or_ge i k with g | g
      · exact e4 i g
      · obtain rfl : i = k := by omega
        exact ⟨e1, e2⟩
theorem tbt_head (V W : Nat → Int) (m : Nat) : ∃ r, (tbt V W m).data.toList = 116 :: r := by
  induction m with
  | zero => exact ⟨_, rfl⟩
  | succ k ih => obtain ⟨r, e⟩ := ih; exact ⟨_, by rw [tbt_list, e, List.cons_append]⟩
theorem one_list (x : ByteArray) (a : Int) : (x ++ (sp ++ num a)).data.toList = x.data.toList ++ (32 :: itoa a) := by rw [lst, lst]; rfl
theorem two_list (x : ByteArray) (a b : Int) : (x ++ (sp ++ num a) ++ (sp ++ num b)).data.toList = x.data.toList ++ (32 :: (itoa a ++ 32 :: itoa b)) := by
  rw [one_list, one_list, List.append_assoc, List.cons_append]
theorem three_list (x : ByteArray) (a b c : Int) : (x ++ (sp ++ num a) ++ (sp ++ num b) ++ (sp ++ num c)).data.toList = x.data.toList ++ (32 :: (itoa a ++ 32 :: (itoa b ++ 32 :: itoa c))) := by
  rw [one_list, two_list]; simp only [List.append_assoc, List.cons_append]
theorem un1 {x : List UInt8} {a b : Int} (ha : i64B a) (hb : i64B b) (h : x ++ (32 :: itoa a) = x ++ (32 :: itoa b)) : a = b := by
  have h := List.append_cancel_left h
  injection h with _ h
  exact inj64 ha hb h
theorem un2 {x : List UInt8} {a b a' b' : Int} (ha : i64B a) (hb : i64B b) (ha' : i64B a') (hb' : i64B b') (h : x ++ (32 :: (itoa a ++ 32 :: itoa b)) = x ++ (32 :: (itoa a' ++ 32 :: itoa b'))) : a = a' ∧ b = b' := by
  have h := List.append_cancel_left h
  injection h with _ h
  obtain ⟨e1, e2⟩ := cut_on (p := p32) (pl32 a) (pl32 a') (by decide) h
  exact ⟨inj64 ha ha' e1, inj64 hb hb' e2⟩
theorem un3 {x : List UInt8} {a b c a' b' c' : Int} (ha : i64B a) (hb : i64B b) (hc : i64B c) (ha' : i64B a') (hb' : i64B b') (hc' : i64B c') (h : x ++ (32 :: (itoa a ++ 32 :: (itoa b ++ 32 :: itoa c))) = x ++ (32 :: (itoa a' ++ 32 :: (itoa b' ++ 32 :: itoa c')))) : a = a' ∧ b = b' ∧ c = c' := by
  have h := List.append_cancel_left h
  injection h with _ h
  obtain ⟨e1, e2⟩ := cut_on (p := p32) (pl32 a) (pl32 a') (by decide) h
  obtain ⟨e3, e4⟩ := cut_on (p := p32) (pl32 b) (pl32 b') (by decide) e2
  exact ⟨inj64 ha ha' e1, inj64 hb hb' e3, inj64 hc hc' e4⟩
theorem eqTo_all {V W : Nat → Int} {n : Nat} (h : eqTo V W n = true) : ∀ i, i < n → V i = W i := by
  induction n with
  | zero => intro i hi; omega
  | succ k ih =>
    have h : (eqTo V W k && (V k == W k)) = true := h
    rw [Bool.and_eq_true] at h
    intro i hi
    rcases Nat.lt_or_ge i k with g | g
    · exact ih h.1 i g
    · obtain rfl : i = k := by omega
      exact beq_iff_eq.1 h.2
theorem eqTo_of {V W : Nat → Int} {n : Nat} (h : ∀ i, i < n → V i = W i) : eqTo V W n = true := by
  induction n with
  | zero => rfl
  | succ k ih =>
    show (eqTo V W k && (V k == W k)) = true
    rw [ih fun i hi => h i (by omega), h k (by omega), beq_self_eq_true]; rfl
theorem tbt_congr {V W V' W' : Nat → Int} {m : Nat} (h : ∀ i, i < m → V i = V' i) (h2 : ∀ i, i < m → W i = W' i) : tbt V W m = tbt V' W' m := by
  induction m with
  | zero => rfl
  | succ k ih =>
    show tbt V W k ++ (sp ++ num (V k) ++ col ++ num (W k)) = tbt V' W' k ++ (sp ++ num (V' k) ++ col ++ num (W' k))
    rw [ih (fun i hi => h i (by omega)) (fun i hi => h2 i (by omega)), h k (by omega), h2 k (by omega)]
end Go.Proofs.YteapicfobammjaaDoor.Di
