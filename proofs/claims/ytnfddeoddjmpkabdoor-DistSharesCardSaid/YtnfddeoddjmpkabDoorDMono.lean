/-
  Plain mathematics: the value grows with the random number.
-/
import Derived.Test.YtnfddeoddjmpkabDoorDRefDraw2
namespace Go.Proofs.YtnfddeoddjmpkabDoor.Di
open St (hiN hiN_lt nextU nextU_lt)
theorem tab_least {V W : Nat → Int} {n : Nat} {D : Nat → Nat} (h : Ord n V D) {K : Int} (k0 : 0 ≤ K) (k1 : K < sumT W n) : ∃ j, j < n ∧ cum D W n j ≤ K ∧ K < cum D W n j + W (D j) := by
  have key : ∀ i, i ≤ n → cum D W n i ≤ K ∨ ∃ j, j < n ∧ cum D W n j ≤ K ∧ K < cum D W n j + W (D j) := by
    intro i
    induction i with
    | zero => intro _; exact .inl (by have := sumIf_none (U := usedBy D 0) (W := W) (n := n) (fun _ _ => rfl); unfold cum; omega)
    | succ i ih =>
      intro hi
      rcases ih (by omega) with g | g
      · have hn := h.next W (j := i) (by omega)
        rcases Int.lt_or_le K (cum D W n i + W (D i)) with g2 | g2
        · exact .inr ⟨i, by omega, g, g2⟩
        · exact .inl (by omega)
      · exact .inr g
  rcases key n (Nat.le_refl _) with g | g
  · rw [h.whole W] at g; omega
  · exact g
theorem tab_spec {V W : Nat → Int} {n : Nat} {K : Int} (n1 : 1 ≤ n) (hW : ∀ i, i < n → 0 ≤ W i) (k0 : 0 ≤ K) (k1 : K < sumT W n) : (∃ i, i < n ∧ tabV V W n K = V i) ∧ TabIs V W n K (tabV V W n K) := by
  obtain ⟨m, rfl⟩ : ∃ m, n = m + 1 := ⟨n - 1, by omega⟩
  obtain ⟨D, ho⟩ : ∃ D, Ord (m + 1) V D := ⟨_, (sort1_ok V m).ord⟩
  obtain ⟨j, hj, g1, g2⟩ := tab_least ho (W := W) k0 k1
  have e := ho.value hW hj g1 g2
  refine ⟨⟨_, ho.lt j hj, e⟩, ?_⟩
  unfold tabV at e ⊢
  cases hf : (List.range (m + 1)).find? (tabP V W (m + 1) K) with
  | none =>
    exfalso
    have hb := ho.lt j hj
    have hn := List.find?_eq_none.1 hf _ (List.mem_range.2 hb)
    refine hn ?_
    have hfr := ho.fresh hj
    have t1 : sumIf (ltB V (V (D j))) W (m + 1) ≤ K := Int.le_trans (sumIf_mono hW fun i hi hlt => by
      obtain ⟨x, hx, ex⟩ := ho.sur i hi
      refine used_iff.2 ⟨x, ?_, ex⟩
      have hlt := of_decide_eq_true hlt
      rcases Nat.lt_trichotomy x j with g | g | g
      · exact g
      · subst g; rw [ex] at hlt; omega
      · have := ho.up j x g hx; rw [ex] at this; omega) g1
    have t2 : K < sumIf (leB V (V (D j))) W (m + 1) := by
      refine Int.lt_of_lt_of_le g2 ?_
      rw [← ho.next W hj]
      refine sumIf_mono hW fun i _ hu => ?_
      obtain ⟨x, hx, ex⟩ := used_iff.1 hu
      refine decide_eq_true ?_
      by_cases g : x = j
      · subst g; rw [ex]; exact Int.le_refl _
      · have := ho.up x j (by omega) hj; rw [ex] at this; exact this
    unfold tabP
    rw [decide_eq_true t1, decide_eq_true t2]; rfl
  | some i =>
    have hi := List.find?_some hf
    unfold tabP at hi
    rw [Bool.and_eq_true] at hi
    exact ⟨of_decide_eq_true hi.1, of_decide_eq_true hi.2⟩
theorem tab_mono {V W : Nat → Int} {n : Nat} {K K' : Int} (n1 : 1 ≤ n) (hW : ∀ i, i < n → 0 ≤ W i) (k0 : 0 ≤ K) (h : K ≤ K') (k1 : K' < sumT W n) : tabV V W n K ≤ tabV V W n K' := by
  have s := (tab_spec (V := V) n1 hW k0 (by omega)).2
  have s' := (tab_spec (V := V) n1 hW (K := K') (by omega) k1).2
  rcases Int.lt_or_le (tabV V W n K') (tabV V W n K) with g | g
  · exfalso
    have := sumIf_mono (U := leB V (tabV V W n K')) (U' := ltB V (tabV V W n K)) hW (fun i _ hi => by
      have := of_decide_eq_true hi
      exact decide_eq_true (by omega))
    have h1 := s.1
    have h2 := s'.2
    omega
  · exact g
theorem hi_mono {u u' N : Nat} (h : u ≤ u') : hiN u N ≤ hiN u' N := by
  unfold St.hiN
  exact Nat.div_le_div_right (Nat.mul_le_mul_right N h)
theorem uniV_mono {a b : Int} {u u' : Nat} (h : u ≤ u') : uniV a b u ≤ uniV a b u' := by
  unfold uniV
  have := hi_mono (N := (b - a + 1).toNat) h
  omega
theorem geoR_mono (a : Nat) {v v' : Nat} (h : v' ≤ v) : ∀ (m t k : Nat), geoR a v m t k ≤ geoR a v' m t k
  | 0, _, k => Nat.le_refl _
  | m + 1, t, k => by
    show (if _ then _ else _) ≤ (if _ then _ else _)
    by_cases h1 : t * (a - 1) / a ≤ v'
    · rw [if_pos h1, if_pos (by omega)]; exact Nat.le_refl _
    · rw [if_neg h1]
      by_cases h2 : t * (a - 1) / a ≤ v
      · rw [if_pos h2]; have := geoR_bd a v' m (t * (a - 1) / a) (k + 1); omega
      · rw [if_neg h2]; exact geoR_mono a h m _ _
theorem geoV_mono {a lim u u' : Nat} (h : u ≤ u') : geoV a lim u ≤ geoV a lim u' := by
  unfold geoV
  exact geoR_mono a (by unfold notU; omega) _ _ _
theorem sgl_mono {op a b n : Int} {lv lw : Nat} {V W : Nat → Int} {u u' : Nat} (h : Acc op a b n lv lw V W) (hu : u ≤ u') (hu' : u' < 18446744073709551616) : sglV op a b lv V W u ≤ sglV op a b lv V W u' := by
  unfold sglV
  rcases h with ⟨rfl, h⟩ | ⟨rfl, h⟩ | ⟨rfl, h1, h2, h3, h4, h5⟩ | ⟨rfl, h⟩ | ⟨rfl, h⟩
  · rw [if_pos rfl, if_pos rfl]; exact Int.le_refl _
  · rw [if_neg (by decide), if_neg (by decide), if_neg (by decide), if_neg (by decide), if_neg (by decide), if_neg (by decide)]; exact uniV_mono hu
  · rw [if_neg (by decide), if_pos rfl, if_neg (by decide), if_pos rfl]
    unfold tblV
    obtain ⟨S, e1, e2, s1, s2, hk⟩ := sumK (W := W) hu' h2 h3 h5
    rw [e2]
    have hm := hi_mono (N := S) hu
    exact tab_mono h2 (fun i hi => by have := h5 i hi; omega) (by omega) (by omega) (by omega)
  · rw [if_neg (by decide), if_neg (by decide), if_neg (by decide), if_neg (by decide), if_neg (by decide), if_neg (by decide)]; exact uniV_mono hu
  · rw [if_neg (by decide), if_neg (by decide), if_pos rfl, if_neg (by decide), if_neg (by decide), if_pos rfl]
    have := geoV_mono (a := a.toNat) (lim := b.toNat) hu
    omega
theorem drawS_bd {g : Nat → Int} {P : Nat} {lo hi : Int} (h : ∀ Q, lo ≤ g Q ∧ g Q ≤ hi) : ∀ T : Nat, (T : Int) * lo ≤ drawS g P T ∧ drawS g P T ≤ (T : Int) * hi
  | 0 => ⟨by show _ ≤ (0 : Int); simp, by show (0 : Int) ≤ _; simp⟩
  | T + 1 => by
    have ih := drawS_bd (P := P) h T
    have hh := h (P + T)
    show _ ≤ drawS g P T + g (P + T) ∧ drawS g P T + g (P + T) ≤ _
    have e : ((T + 1 : Nat) : Int) = (T : Int) + 1 := by omega
    rw [e, Int.add_mul, Int.one_mul, Int.add_mul, Int.one_mul]
    omega
theorem draw_bounds {E op a b n : Int} {lv lw : Nat} {V W : Nat → Int} {k : Nat} {pos : Int} {anti : Bool} (hA : Acc op a b n lv lw V W) (hE : E = 0) (hd : drwE E pos op n = 0) :
    extV E op a b n lv V W 0 ≤ drwV E op a b n lv V W k pos anti ∧ drwV E op a b n lv V W k pos anti ≤ extV E op a b n lv V W 18446744073709551615 := by
  have ht := tk_bd hA
  obtain ⟨T, eT⟩ : ∃ T : Nat, tkV op n = (T : Int) := ⟨(tkV op n).toNat, by omega⟩
  unfold extV drwV
  rw [if_pos hE, if_pos hE, if_pos hd, eT, Int.toNat_natCast]
  exact drawS_bd (fun Q => ⟨sgl_mono hA (Nat.zero_le _) (nextU_lt k Q anti), sgl_mono hA (by have := nextU_lt k Q anti; omega) (by decide)⟩) T
end Go.Proofs.YtnfddeoddjmpkabDoor.Di
