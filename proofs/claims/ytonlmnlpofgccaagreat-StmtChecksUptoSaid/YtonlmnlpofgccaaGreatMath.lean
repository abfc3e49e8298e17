/-
  Plain facts about fractions, about division by digits of 32 bits and bit by bit, and about the order of fractions. Nothing of the program stands here.
-/
import Derived.Test.YtonlmnlpofgccaaGreatRows
import Derived.WalkKit
namespace Go.Proofs.YtonlmnlpofgccaaGreat
def okF (n d : Int) : Bool := decide (1 ≤ d ∧ d ≤ 1000000000000000 ∧ -4611686018427387904 ≤ n ∧ n ≤ 4611686018427387904 ∧ Nat.gcd n.natAbs d.natAbs = 1)
theorem okF_true {n d : Int} (h : okF n d = true) : 1 ≤ d ∧ d ≤ 1000000000000000 ∧ -4611686018427387904 ≤ n ∧ n ≤ 4611686018427387904 ∧ Nat.gcd n.natAbs d.natAbs = 1 := by
  unfold okF at h; simpa using h
theorem okF_mk {n d : Int} (h : 1 ≤ d ∧ d ≤ 1000000000000000 ∧ -4611686018427387904 ≤ n ∧ n ≤ 4611686018427387904 ∧ Nat.gcd n.natAbs d.natAbs = 1) : okF n d = true := by
  unfold okF; simpa using h
def cut (n : Int) (d : Nat) : Option (Int × Int) := if n.natAbs ≤ 4611686018427387904 ∧ d ≤ 1000000000000000 then some (n, (d : Int)) else none
def keep (r : Rat) : Option (Int × Int) := cut r.num r.den
def qv (n d : Int) : Rat := mkRat n d.natAbs
def oN (o : Option (Int × Int)) : Int := match o with | some (n, _) => n | none => 0
def oD (o : Option (Int × Int)) : Int := match o with | some (_, d) => d | none => 0
def oB (o : Option (Int × Int)) : Bool := o.isSome
def both (a b c d : Int) (o : Option (Int × Int)) : Option (Int × Int) := if okF a b && okF c d then o else none
def addO (a b c d : Int) : Option (Int × Int) := both a b c d (keep (qv a b + qv c d))
def subO (a b c d : Int) : Option (Int × Int) := both a b c d (keep (qv a b - qv c d))
def mulO (a b c d : Int) : Option (Int × Int) := both a b c d (keep (qv a b * qv c d))
def divO (a b c d : Int) : Option (Int × Int) := if c = 0 then none else both a b c d (keep (qv a b / qv c d))
def ofO (n d : Int) : Option (Int × Int) := if d = 0 then none else keep (mkRat (if d < 0 then -n else n) d.natAbs)

theorem qv_mk {n d : Int} (h0 : 1 ≤ d) (h : Nat.gcd n.natAbs d.natAbs = 1) : (qv n d).num = n ∧ ((qv n d).den : Int) = d := by
  unfold qv
  rw [← Rat.mk_eq_mkRat n d.natAbs (by omega) h]
  exact ⟨rfl, by show (d.natAbs : Int) = d; omega⟩
theorem okF_qv {n d : Int} (h : okF n d = true) : (qv n d).num = n ∧ ((qv n d).den : Int) = d :=
  have h := okF_true h
  qv_mk h.1 h.2.2.2.2
theorem qv_okF (r : Rat) (h0 : r.num.natAbs ≤ 4611686018427387904) (h1 : r.den ≤ 1000000000000000) : okF r.num r.den = true := by
  refine okF_mk ⟨?_, by omega, by omega, by omega, ?_⟩
  · have := r.den_pos; omega
  · have := r.reduced; simpa [Nat.Coprime] using this
theorem qv_self (r : Rat) : qv r.num r.den = r := by
  unfold qv; rw [Int.natAbs_natCast]; exact Rat.mkRat_self r
theorem keep_qv {n d : Int} (h : okF n d = true) : keep (qv n d) = some (n, d) := by
  have e := okF_qv h
  have h := okF_true h
  unfold keep cut
  rw [e.1, if_pos (by omega), e.2]
theorem keep_some {r : Rat} {n d : Int} (h : keep r = some (n, d)) : okF n d = true ∧ qv n d = r := by
  unfold keep cut at h
  split at h
  · rename_i hb
    simp only [Option.some.injEq, Prod.mk.injEq] at h
    obtain ⟨rfl, rfl⟩ := h
    exact ⟨qv_okF r hb.1 hb.2, qv_self r⟩
  · cases h
/-- the two parts of a quotient in lowest terms -/
theorem keep_lowest {z : Int} {b : Nat} (hb : b ≠ 0) (h : Nat.Coprime z.natAbs b) : keep (mkRat z b) = cut z b := by
  rw [← Rat.mk_eq_mkRat z b hb h]; rfl
theorem keep_made (z : Int) (d : Nat) (hd : d ≠ 0) : keep (mkRat z d) = cut (z / (Nat.gcd z.natAbs d : Nat)) (d / Nat.gcd z.natAbs d) := by
  unfold keep
  rw [Rat.num_mkRat, Rat.den_mkRat, if_neg hd, if_neg hd, Nat.gcd_comm]

/-- |z| / g with z's sign -/
def sg (m : Bool) (t : Nat) : Int := if m then -(t : Int) else (t : Int)
theorem sg_abs (z : Int) : sg (decide (z < 0)) z.natAbs = z := by
  unfold sg; by_cases h : z < 0
  · rw [if_pos (by simpa using h)]; omega
  · rw [if_neg (by simpa using h)]; omega
theorem sg_natAbs (m : Bool) (t : Nat) : (sg m t).natAbs = t := by unfold sg; split <;> omega
theorem sg_div {z : Int} {g : Nat} (h : g ∣ z.natAbs) : sg (decide (z < 0)) (z.natAbs / g) = z / (g : Int) := by
  obtain ⟨k, hk⟩ := h
  rcases Nat.eq_zero_or_pos g with rfl | hg
  · simp [sg]
  · rw [hk, Nat.mul_div_cancel_left _ hg]
    unfold sg
    by_cases hz : z < 0
    · rw [if_pos (by simpa using hz), show z = (g : Int) * (-(k : Int)) by rw [Int.mul_neg, ← Int.natCast_mul]; omega, Int.mul_ediv_cancel_left _ (by omega)]
    · rw [if_neg (by simpa using hz), show z = (g : Int) * (k : Int) by rw [← Int.natCast_mul]; omega, Int.mul_ediv_cancel_left _ (by omega)]
theorem sg_mul (m : Bool) (a b : Nat) : sg m (a * b) = (a : Int) * sg m b := by
  unfold sg; split
  · rw [Int.natCast_mul, Int.mul_neg]
  · rw [Int.natCast_mul]
/-- What the reference's Made returns, by the sign and the absolute value. -/
theorem made_eq (m : Bool) (t d : Nat) (hd : d ≠ 0) : keep (mkRat (sg m t) d) = cut (sg m (t / Nat.gcd t d)) (d / Nat.gcd t d) := by
  rw [keep_made _ _ hd, sg_natAbs]
  congr 1
  have hg : 0 < Nat.gcd t d := Nat.gcd_pos_of_pos_right _ (by omega)
  obtain ⟨k, hk⟩ := Nat.gcd_dvd_left t d
  rw [show t / Nat.gcd t d = k by rw [Nat.div_eq_iff_eq_mul_right hg (Nat.gcd_dvd_left t d)]; exact hk]
  generalize Nat.gcd t d = g at *
  rw [hk, sg_mul, Int.mul_ediv_cancel_left _ (by omega)]
/-- A cancelled quotient. -/
theorem keep_cancel (m : Bool) (g t b : Nat) (hg : g ≠ 0) (hb : b ≠ 0) (h : Nat.Coprime t b) : keep (mkRat (sg m (g * t)) (g * b)) = cut (sg m t) b := by
  rw [sg_mul, Rat.mkRat_mul_left hg]
  exact keep_lowest hb (by rw [sg_natAbs]; exact h)

section add
variable {a b c d : Int}
theorem nat_pos {d : Int} (h : 1 ≤ d) : (d.natAbs : Int) = d ∧ d.natAbs ≠ 0 := by omega
theorem qv_add (hb : 1 ≤ b) (hd : 1 ≤ d) : qv a b + qv c d = mkRat (a * d + c * b) (b.natAbs * d.natAbs) := by
  unfold qv
  rw [Rat.mkRat_add_mkRat _ _ (by omega) (by omega), (nat_pos hb).1, (nat_pos hd).1]
theorem qv_neg : qv (-c) d = -qv c d := by unfold qv; rw [Rat.neg_mkRat]
theorem qv_sub (hb : 1 ≤ b) (hd : 1 ≤ d) : qv a b - qv c d = mkRat (a * d + -c * b) (b.natAbs * d.natAbs) := by
  rw [Rat.sub_eq_add_neg, ← qv_neg, qv_add hb hd]
theorem qv_mul : qv a b * qv c d = mkRat (a * c) (b.natAbs * d.natAbs) := by
  unfold qv; rw [Rat.mkRat_mul_mkRat]
theorem coprime_sum {an bn : Int} {a' b' : Nat} (h : Nat.Coprime a' b') (ha : Nat.Coprime an.natAbs a') : Nat.Coprime (an * (b' : Int) + bn * (a' : Int)).natAbs a' := by
  have h1 : Nat.gcd (an * (b' : Int) + bn * (a' : Int)).natAbs a' ∣ an.natAbs * b' := by
    have d1 := Nat.gcd_dvd_left (an * (b' : Int) + bn * (a' : Int)).natAbs a'
    have d2 := Nat.gcd_dvd_right (an * (b' : Int) + bn * (a' : Int)).natAbs a'
    generalize Nat.gcd (an * (b' : Int) + bn * (a' : Int)).natAbs a' = k at d1 d2
    have e1 : (k : Int) ∣ an * (b' : Int) + bn * (a' : Int) := Int.ofNat_dvd_left.2 d1
    have e2 : (k : Int) ∣ bn * (a' : Int) := Int.dvd_trans (Int.natCast_dvd_natCast.2 d2) (Int.dvd_mul_left _ _)
    have e3 : (k : Int) ∣ an * (b' : Int) := (Int.dvd_iff_dvd_of_dvd_add e1).2 e2
    have := Int.ofNat_dvd_left.1 e3
    rwa [Int.natAbs_mul, Int.natAbs_natCast] at this
  have h2 := Nat.gcd_dvd_right (an * (b' : Int) + bn * (a' : Int)).natAbs a'
  have h3 : Nat.Coprime (Nat.gcd (an * (b' : Int) + bn * (a' : Int)).natAbs a') b' := Nat.Coprime.coprime_dvd_left h2 h
  have h4 := Nat.Coprime.dvd_of_dvd_mul_right h3 h1
  have h5 := Nat.dvd_gcd h4 h2
  rw [ha] at h5
  exact Nat.dvd_one.1 h5
/-- The sum as package frac reckons it: b = g b', d = g d'. -/
theorem add_steps {an cn : Int} {g b' d' : Nat} (hg : g ≠ 0) (hb : b' ≠ 0) (hd : d' ≠ 0) (h : Nat.Coprime b' d') (ha : Nat.Coprime an.natAbs (g * b')) (hc : Nat.Coprime cn.natAbs (g * d')) {T : Int} (hT : an * (d' : Int) + cn * (b' : Int) = T) :
    Nat.gcd T.natAbs g ∣ T.natAbs ∧ keep (mkRat (an * ((g * d' : Nat) : Int) + cn * ((g * b' : Nat) : Int)) ((g * b') * (g * d'))) = cut (sg (decide (T < 0)) (T.natAbs / Nat.gcd T.natAbs g)) (b' * (g * d' / Nat.gcd T.natAbs g)) := by
  have c1 : Nat.Coprime T.natAbs b' := by rw [← hT]; exact coprime_sum h (Nat.Coprime.coprime_mul_left_right ha)
  have c2 : Nat.Coprime T.natAbs d' := by rw [← hT, Int.add_comm]; exact coprime_sum h.symm (Nat.Coprime.coprime_mul_left_right hc)
  refine ⟨Nat.gcd_dvd_left _ _, ?_⟩
  have hr : 0 < Nat.gcd T.natAbs g := Nat.gcd_pos_of_pos_right _ (by omega)
  obtain ⟨t, ht⟩ := Nat.gcd_dvd_left T.natAbs g
  obtain ⟨k, hk⟩ := Nat.gcd_dvd_right T.natAbs g
  have htd : T.natAbs / Nat.gcd T.natAbs g = t := by rw [Nat.div_eq_iff_eq_mul_right hr (Nat.gcd_dvd_left _ _)]; exact ht
  have ckt : Nat.Coprime t k := by
    have := Nat.coprime_div_gcd_div_gcd (m := T.natAbs) (n := g) hr
    rwa [htd, show g / Nat.gcd T.natAbs g = k by rw [Nat.div_eq_iff_eq_mul_right hr (Nat.gcd_dvd_right _ _)]; exact hk] at this
  have tT : t ∣ T.natAbs := ⟨_, by rw [Nat.mul_comm]; exact ht⟩
  have ct1 : Nat.Coprime t b' := Nat.Coprime.coprime_dvd_left tT c1
  have ct2 : Nat.Coprime t d' := Nat.Coprime.coprime_dvd_left tT c2
  rw [htd]
  generalize hr' : Nat.gcd T.natAbs g = r at *
  have hk0 : k ≠ 0 := by rintro rfl; omega
  rw [show g * d' / r = k * d' by rw [hk, Nat.mul_assoc, Nat.mul_div_cancel_left _ hr]]
  have e1 : an * ((g * d' : Nat) : Int) + cn * ((g * b' : Nat) : Int) = (g : Int) * sg (decide (T < 0)) (r * t) := by
    rw [← ht, sg_abs, ← hT, Int.mul_add, Int.natCast_mul, Int.natCast_mul, Int.mul_left_comm, Int.mul_left_comm cn]
  have e2 : g * b' * (g * d') = g * (r * (b' * (k * d'))) := by
    rw [show r * (b' * (k * d')) = b' * (r * k * d') by rw [Nat.mul_left_comm, Nat.mul_assoc r k d'], ← hk, Nat.mul_assoc]
  rw [e1, e2, Rat.mkRat_mul_left hg]
  refine keep_cancel _ r t _ (by omega) (Nat.mul_ne_zero hb (Nat.mul_ne_zero hk0 hd)) ?_
  exact Nat.Coprime.mul_right ct1 (Nat.Coprime.mul_right ckt ct2)
end add
/-- The product as package frac reckons it. -/
theorem mul_steps {t1 b1 t2 b2 : Nat} (m : Bool) (h1 : Nat.Coprime t1 b1) (h2 : Nat.Coprime t2 b2) (hb1 : b1 ≠ 0) (hb2 : b2 ≠ 0) :
    keep (mkRat (sg m (t1 * t2)) (b1 * b2)) = cut (sg m (t1 / Nat.gcd t1 b2 * (t2 / Nat.gcd t2 b1))) (b1 / Nat.gcd t2 b1 * (b2 / Nat.gcd t1 b2)) := by
  have hf : 0 < Nat.gcd t1 b2 := Nat.gcd_pos_of_pos_right _ (by omega)
  have hs : 0 < Nat.gcd t2 b1 := Nat.gcd_pos_of_pos_right _ (by omega)
  have c1 := Nat.coprime_div_gcd_div_gcd (m := t1) (n := b2) hf
  have c2 := Nat.coprime_div_gcd_div_gcd (m := t2) (n := b1) hs
  obtain ⟨x, hx⟩ := Nat.gcd_dvd_left t1 b2
  obtain ⟨y, hy⟩ := Nat.gcd_dvd_right t1 b2
  obtain ⟨u, hu⟩ := Nat.gcd_dvd_left t2 b1
  obtain ⟨v, hv⟩ := Nat.gcd_dvd_right t2 b1
  have ex : t1 / Nat.gcd t1 b2 = x := by rw [Nat.div_eq_iff_eq_mul_right hf (Nat.gcd_dvd_left _ _)]; exact hx
  have ey : b2 / Nat.gcd t1 b2 = y := by rw [Nat.div_eq_iff_eq_mul_right hf (Nat.gcd_dvd_right _ _)]; exact hy
  have eu : t2 / Nat.gcd t2 b1 = u := by rw [Nat.div_eq_iff_eq_mul_right hs (Nat.gcd_dvd_left _ _)]; exact hu
  have ev : b1 / Nat.gcd t2 b1 = v := by rw [Nat.div_eq_iff_eq_mul_right hs (Nat.gcd_dvd_right _ _)]; exact hv
  rw [ex, ey] at c1
  rw [eu, ev] at c2
  rw [ex, ey, eu, ev]
  generalize Nat.gcd t1 b2 = f at *
  generalize Nat.gcd t2 b1 = s at *
  have cxv : Nat.Coprime x v := Nat.Coprime.coprime_dvd_left ⟨f, by rw [Nat.mul_comm]; exact hx⟩ (Nat.Coprime.coprime_dvd_right ⟨s, by rw [Nat.mul_comm]; exact hv⟩ h1)
  have cuy : Nat.Coprime u y := Nat.Coprime.coprime_dvd_left ⟨s, by rw [Nat.mul_comm]; exact hu⟩ (Nat.Coprime.coprime_dvd_right ⟨f, by rw [Nat.mul_comm]; exact hy⟩ h2)
  have e1 : t1 * t2 = f * s * (x * u) := by rw [hx, hu, Nat.mul_mul_mul_comm]
  have e2 : b1 * b2 = f * s * (v * y) := by rw [hv, hy, Nat.mul_mul_mul_comm, Nat.mul_comm s f]
  rw [e1, e2]
  refine keep_cancel m (f * s) _ _ (Nat.mul_ne_zero (by omega) (by omega)) (Nat.mul_ne_zero ?_ ?_) ?_
  · rintro rfl; omega
  · rintro rfl; omega
  · exact Nat.Coprime.mul_right (Nat.Coprime.mul_left cxv c2) (Nat.Coprime.mul_left c1 cuy)
theorem both_some {a b c d : Int} {o : Option (Int × Int)} {x : Int × Int} (h : both a b c d o = some x) : okF a b = true ∧ okF c d = true ∧ o = some x := by
  unfold both at h
  split at h
  · rename_i hb
    rw [Bool.and_eq_true] at hb
    exact ⟨hb.1, hb.2, h⟩
  · cases h
theorem both_yes {a b c d : Int} {o : Option (Int × Int)} (h1 : okF a b = true) (h2 : okF c d = true) : both a b c d o = o := by
  unfold both; rw [h1, h2]; rfl
theorem both_no1 {a b c d : Int} {o : Option (Int × Int)} (h1 : okF a b = false) : both a b c d o = none := by
  unfold both; rw [h1]; rfl
theorem both_no2 {a b c d : Int} {o : Option (Int × Int)} (h1 : okF c d = false) : both a b c d o = none := by
  unfold both; rw [h1, Bool.and_false]; rfl
theorem both_comm {a b c d : Int} {o : Option (Int × Int)} : both a b c d o = both c d a b o := by
  unfold both; rw [Bool.and_comm]
theorem addO_comm (a b c d : Int) : addO c d a b = addO a b c d := by unfold addO; rw [both_comm, Rat.add_comm]
theorem mulO_comm (a b c d : Int) : mulO c d a b = mulO a b c d := by unfold mulO; rw [both_comm, Rat.mul_comm]
theorem addO_some {a b c d n m : Int} (h : addO a b c d = some (n, m)) : okF a b = true ∧ okF c d = true ∧ okF n m = true ∧ qv n m = qv a b + qv c d := by
  obtain ⟨h1, h2, h3⟩ := both_some h
  exact ⟨h1, h2, keep_some h3⟩
theorem mulO_some {a b c d n m : Int} (h : mulO a b c d = some (n, m)) : okF a b = true ∧ okF c d = true ∧ okF n m = true ∧ qv n m = qv a b * qv c d := by
  obtain ⟨h1, h2, h3⟩ := both_some h
  exact ⟨h1, h2, keep_some h3⟩
theorem subO_some {a b c d n m : Int} (h : subO a b c d = some (n, m)) : okF a b = true ∧ okF c d = true ∧ okF n m = true ∧ qv n m = qv a b - qv c d := by
  obtain ⟨h1, h2, h3⟩ := both_some h
  exact ⟨h1, h2, keep_some h3⟩
theorem sub_add {a b c d n m : Int} (h : addO a b c d = some (n, m)) : subO n m c d = some (a, b) := by
  obtain ⟨h1, h2, h3, h4⟩ := addO_some h
  unfold subO
  rw [both_yes h3 h2, h4, Rat.add_sub_cancel, keep_qv h1]
theorem qv_zero {c d : Int} (h : okF c d = true) (hc : c ≠ 0) : qv c d ≠ 0 := by
  intro e
  have := (okF_qv h).1
  rw [e] at this
  exact hc this.symm
theorem div_mul {a b c d n m : Int} (h : mulO a b c d = some (n, m)) (hc : c ≠ 0) : divO n m c d = some (a, b) := by
  obtain ⟨h1, h2, h3, h4⟩ := mulO_some h
  unfold divO
  rw [if_neg hc, both_yes h3 h2, h4, Rat.mul_div_cancel (qv_zero h2 hc), keep_qv h1]
theorem qv_inj {a b c d : Int} (h1 : okF a b = true) (h2 : okF c d = true) (h : qv a b = qv c d) : a = c ∧ b = d := by
  have e := keep_qv h1
  rw [h, keep_qv h2] at e
  injection e with e
  injection e with e1 e2
  exact ⟨e1.symm, e2.symm⟩
section
variable {a1 a2 b1 b2 c1 c2 x1 x2 y1 y2 l1 l2 r1 r2 z1 z2 : Int}
theorem add_assoc' (h1 : addO a1 a2 b1 b2 = some (x1, x2)) (h2 : addO b1 b2 c1 c2 = some (y1, y2)) (h3 : addO x1 x2 c1 c2 = some (l1, l2)) (h4 : addO a1 a2 y1 y2 = some (r1, r2)) : l1 = r1 ∧ l2 = r2 := by
  obtain ⟨-, -, -, e1⟩ := addO_some h1
  obtain ⟨-, -, -, e2⟩ := addO_some h2
  obtain ⟨-, -, k3, e3⟩ := addO_some h3
  obtain ⟨-, -, k4, e4⟩ := addO_some h4
  exact qv_inj k3 k4 (by rw [e3, e4, e1, e2, Rat.add_assoc])
theorem mul_distr (h1 : addO b1 b2 c1 c2 = some (y1, y2)) (h2 : mulO a1 a2 b1 b2 = some (x1, x2)) (h3 : mulO a1 a2 c1 c2 = some (z1, z2)) (h4 : mulO a1 a2 y1 y2 = some (l1, l2)) (h5 : addO x1 x2 z1 z2 = some (r1, r2)) : l1 = r1 ∧ l2 = r2 := by
  obtain ⟨-, -, -, e1⟩ := addO_some h1
  obtain ⟨-, -, -, e2⟩ := mulO_some h2
  obtain ⟨-, -, -, e3⟩ := mulO_some h3
  obtain ⟨-, -, k4, e4⟩ := mulO_some h4
  obtain ⟨-, -, k5, e5⟩ := addO_some h5
  exact qv_inj k4 k5 (by rw [e4, e5, e1, e2, e3, Rat.mul_add])
end
/-! the order -/
def uN (n d : Int) : Int := if okF n d then n else 0
def uD (n d : Int) : Int := if okF n d then d else 1
theorem okF_zero : okF 0 1 = true := by decide
theorem okF_use (n d : Int) : okF (uN n d) (uD n d) = true := by
  unfold uN uD; cases h : okF n d
  · exact okF_zero
  · exact h
theorem use_ok {n d : Int} (h : okF n d = true) : uN n d = n ∧ uD n d = d := by unfold uN uD; rw [h]; exact ⟨rfl, rfl⟩
theorem use_no {n d : Int} (h : okF n d = false) : uN n d = 0 ∧ uD n d = 1 := by unfold uN uD; rw [h]; exact ⟨rfl, rfl⟩
def cmpZ (x y : Int) : Int := if x < y then -1 else if y < x then 1 else 0
def cmpF (a b c d : Int) : Int := cmpZ (uN a b * uD c d) (uN c d * uD a b)
def qz (n d : Int) : Rat := qv (uN n d) (uD n d)
theorem qz_lt {a b c d : Int} : uN a b * uD c d < uN c d * uD a b ↔ qz a b < qz c d := by
  have h1 := okF_qv (okF_use a b)
  have h2 := okF_qv (okF_use c d)
  rw [Rat.lt_iff]
  unfold qz
  rw [h1.1, h1.2, h2.1, h2.2]
theorem cmpF_cases (a b c d : Int) : cmpF a b c d = -1 ∧ qz a b < qz c d ∨ cmpF a b c d = 1 ∧ qz c d < qz a b ∨ cmpF a b c d = 0 ∧ qz a b = qz c d := by
  unfold cmpF cmpZ
  by_cases h1 : uN a b * uD c d < uN c d * uD a b
  · rw [if_pos h1]; exact Or.inl ⟨rfl, qz_lt.1 h1⟩
  · rw [if_neg h1]
    by_cases h2 : uN c d * uD a b < uN a b * uD c d
    · rw [if_pos h2]; exact Or.inr (Or.inl ⟨rfl, qz_lt.1 h2⟩)
    · rw [if_neg h2]
      exact Or.inr (Or.inr ⟨rfl, Rat.le_antisymm (Rat.not_lt.1 (fun e => h2 (qz_lt.2 e))) (Rat.not_lt.1 (fun e => h1 (qz_lt.2 e)))⟩)
theorem cmp_self (a b : Int) : cmpF a b a b = 0 := by
  unfold cmpF cmpZ; rw [if_neg (by omega), if_neg (by omega)]
theorem cmp_anti (a b c d : Int) : cmpF c d a b = -cmpF a b c d := by
  unfold cmpF cmpZ
  by_cases h1 : uN a b * uD c d < uN c d * uD a b
  · rw [if_neg (by omega), if_pos h1, if_pos h1]; rfl
  · by_cases h2 : uN c d * uD a b < uN a b * uD c d
    · rw [if_pos h2, if_neg h1, if_pos h2]
    · rw [if_neg h2, if_neg h1, if_neg h1, if_neg h2]; rfl
theorem cmp_range (a b c d : Int) : -1 ≤ cmpF a b c d ∧ cmpF a b c d ≤ 1 := by
  rcases cmpF_cases a b c d with h | h | h <;> omega
theorem cmp_le {a b c d : Int} (h : cmpF a b c d ≤ 0) : qz a b ≤ qz c d := by
  rcases cmpF_cases a b c d with h1 | h1 | h1
  · exact Rat.le_of_lt h1.2
  · omega
  · rw [h1.2]; exact Rat.le_refl
theorem le_cmp {a b c d : Int} (h : qz a b ≤ qz c d) : cmpF a b c d ≤ 0 := by
  rcases cmpF_cases a b c d with h1 | h1 | h1
  · omega
  · exact absurd h1.2 (Rat.not_lt.2 h)
  · omega
theorem lt_cmp {a b c d : Int} (h : qz a b < qz c d) : cmpF a b c d = -1 := by
  rcases cmpF_cases a b c d with h1 | h1 | h1
  · exact h1.1
  · exact absurd (Rat.le_of_lt h1.2) (Rat.not_le.2 h)
  · rw [h1.2] at h; exact absurd h Rat.lt_irrefl
theorem cmp_trans {a b c d e f : Int} (h1 : cmpF a b c d ≤ 0) (h2 : cmpF c d e f ≤ 0) : cmpF a b e f ≤ 0 := le_cmp (Rat.le_trans (cmp_le h1) (cmp_le h2))
theorem qz_ok {n d : Int} (h : okF n d = true) : qz n d = qv n d := by unfold qz; rw [(use_ok h).1, (use_ok h).2]
theorem cmp_eq {a b c d : Int} (h1 : okF a b = true) (h2 : okF c d = true) : cmpF a b c d = 0 ↔ a = c ∧ b = d := by
  constructor
  · intro h
    rcases cmpF_cases a b c d with h3 | h3 | h3
    · omega
    · omega
    · rw [qz_ok h1, qz_ok h2] at h3
      exact qv_inj h1 h2 h3.2
  · rintro ⟨rfl, rfl⟩; exact cmp_self _ _
def signZ (n : Int) : Int := if n < 0 then -1 else if 0 < n then 1 else 0
theorem cmp_sub {a b c d n m : Int} (h : subO a b c d = some (n, m)) : cmpF a b c d = signZ n := by
  obtain ⟨h1, h2, h3, h4⟩ := subO_some h
  have hn : n = (qv a b - qv c d).num := by rw [← h4]; exact (okF_qv h3).1.symm
  rcases cmpF_cases a b c d with h5 | h5 | h5 <;> rw [qz_ok h1, qz_ok h2] at h5
  · have : n < 0 := by
      rcases Int.lt_or_le n 0 with hl | hl
      · exact hl
      · rw [hn, Rat.num_nonneg, ← Rat.le_iff_sub_nonneg] at hl
        exact absurd h5.2 (Rat.not_lt.2 hl)
    rw [h5.1]; unfold signZ; rw [if_pos this]
  · have h0 : 0 ≤ n := by rw [hn, Rat.num_nonneg, ← Rat.le_iff_sub_nonneg]; exact Rat.le_of_lt h5.2
    have : n ≠ 0 := by
      intro e
      rw [hn, Rat.num_eq_zero] at e
      have : qv a b = qv c d := by
        have := Rat.sub_add_cancel (a := qv a b) (b := qv c d)
        rw [e, Rat.zero_add] at this
        exact this.symm
      rw [this] at h5
      exact absurd h5.2 Rat.lt_irrefl
    rw [h5.1]; unfold signZ; rw [if_neg (by omega), if_pos (by omega)]
  · have : n = 0 := by rw [hn, h5.2, Rat.sub_self]; rfl
    rw [h5.1, this]; rfl
/-! floors -/
def floorZ (n d k : Int) : Int := n * k / d
def floorB (n d k : Int) : Bool := okF n d && decide (0 ≤ k ∧ k ≤ 1000000000000 ∧ -4611686018427387904 ≤ floorZ n d k ∧ floorZ n d k ≤ 4611686018427387904)
def floorR (n d k : Int) : Int := if floorB n d k then floorZ n d k else 0
theorem floorB_true {n d k : Int} (h : floorB n d k = true) : okF n d = true ∧ 0 ≤ k ∧ k ≤ 1000000000000 ∧ -4611686018427387904 ≤ floorZ n d k ∧ floorZ n d k ≤ 4611686018427387904 := by
  unfold floorB at h; simpa using h
theorem okF_whole {r : Int} (h0 : -4611686018427387904 ≤ r) (h1 : r ≤ 4611686018427387904) : okF r 1 = true :=
  okF_mk ⟨by omega, by omega, h0, h1, by simp⟩
theorem qv_whole (r : Int) : qv r 1 = (r : Rat) := by
  unfold qv
  rw [← Rat.mk_eq_mkRat r (Int.natAbs 1) (by decide) (by simp)]
  rfl
theorem ofO_whole {r : Int} (h0 : -4611686018427387904 ≤ r) (h1 : r ≤ 4611686018427387904) : ofO r 1 = some (r, 1) := by
  unfold ofO
  rw [if_neg (by omega), if_neg (by omega)]
  exact keep_qv (okF_whole h0 h1)
theorem floor_fits {n d k x1 x2 z1 z2 : Int} (h : floorB n d k = true) (hx : mulO n d k 1 = some (x1, x2)) (hz : addO (floorZ n d k) 1 1 1 = some (z1, z2)) :
    cmpF (floorZ n d k) 1 x1 x2 ≤ 0 ∧ cmpF x1 x2 z1 z2 = -1 := by
  obtain ⟨h1, -, -, h4, h5⟩ := floorB_true h
  obtain ⟨-, -, k3, e3⟩ := mulO_some hx
  obtain ⟨-, -, k4, e4⟩ := addO_some hz
  have hd := (okF_true h1).1
  have ky := okF_whole h4 h5
  have e : qv n d * qv k 1 = mkRat (n * k) d.natAbs := by rw [qv_mul]; simp
  have hfl : (qv n d * qv k 1).floor = floorZ n d k := by
    rw [Rat.floor_def, e]
    unfold floorZ
    have hq := Rat.mkRat_num_den (n := n * k) (d := d.natAbs) (n' := (mkRat (n * k) d.natAbs).num) (d' := (mkRat (n * k) d.natAbs).den) (z' := Rat.den_nz _) (c := Rat.reduced _) (by omega) rfl
    obtain ⟨m, hm, q1, q2⟩ := hq
    generalize (mkRat (n * k) d.natAbs).num = A at *
    generalize (mkRat (n * k) d.natAbs).den = B at *
    have hdd : d = (B : Int) * m := by rw [← Int.natCast_mul, ← q2]; omega
    rw [q1, hdd, Int.mul_ediv_mul_of_pos_left _ _ (by omega)]
  constructor
  · refine le_cmp ?_
    rw [qz_ok ky, qz_ok k3, e3, qv_whole, ← hfl]
    exact Rat.floor_le _
  · refine lt_cmp ?_
    rw [qz_ok k3, qz_ok k4, e3, e4, qv_whole (floorZ n d k), qv_whole 1, ← hfl]
    have := Rat.lt_floor_add_one (qv n d * qv k 1)
    rwa [Rat.intCast_add] at this
/-! Division of 128 bits by 64, digit by digit of 32 bits. -/
def dig (u v Y : Nat) : Nat := (u * 4294967296 + v) / Y
/-- What holds of the guessed digit and its rest. -/
def Guess (u v y1 y0 q r : Nat) : Prop := q * y1 + r = u ∧ dig u v (y1 * 4294967296 + y0) ≤ q ∧ q ≤ 4294967297
section
variable {u v y1 y0 q r : Nat}
theorem dig_lt (hu : u < y1 * 4294967296 + y0) (hv : v < 4294967296) : dig u v (y1 * 4294967296 + y0) < 4294967296 := by
  unfold dig
  rw [Nat.div_lt_iff_lt_mul (by omega)]
  have : u * 4294967296 + v < (u + 1) * 4294967296 := by omega
  refine Nat.lt_of_lt_of_le this ?_
  rw [Nat.mul_comm 4294967296]
  exact Nat.mul_le_mul_right _ hu
theorem guess_first (h1 : 2147483648 ≤ y1) (h2 : y0 < 4294967296) (hu : u < y1 * 4294967296 + y0) (hv : v < 4294967296) : Guess u v y1 y0 (u / y1) (u % y1) := by
  refine ⟨Nat.div_add_mod' u y1, ?_, ?_⟩
  · rw [Nat.le_div_iff_mul_le (by omega)]
    have h : dig u v (y1 * 4294967296 + y0) * (y1 * 4294967296 + y0) ≤ u * 4294967296 + v := Nat.div_mul_le_self _ _
    generalize dig u v (y1 * 4294967296 + y0) = k at *
    rw [Nat.mul_add, ← Nat.mul_assoc] at h
    omega
  · have : u / y1 < 4294967298 := by
      rw [Nat.div_lt_iff_lt_mul (by omega)]
      omega
    omega
theorem guess_mul (h : q * y1 + r = u) : q * (y1 * 4294967296 + y0) + r * 4294967296 = u * 4294967296 + q * y0 := by
  rw [← h, Nat.mul_add, Nat.add_mul, Nat.mul_assoc]; omega
theorem guess_pos (h : 4294967296 ≤ q ∨ 4294967296 * r + v < q * y0) : 1 ≤ q := by
  rcases Nat.eq_zero_or_pos q with rfl | hq
  · rw [Nat.zero_mul] at h; omega
  · exact hq
theorem guess_next (hu : u < y1 * 4294967296 + y0) (hv : v < 4294967296) (hg : Guess u v y1 y0 q r) (h : 4294967296 ≤ q ∨ 4294967296 * r + v < q * y0) : Guess u v y1 y0 (q - 1) (r + y1) ∧ q - 1 ≤ 4294967296 := by
  have hp := guess_pos h
  obtain ⟨g1, g2, g3⟩ := hg
  refine ⟨⟨?_, ?_, by omega⟩, by omega⟩
  · rw [← g1, Nat.sub_mul, Nat.one_mul]
    have : y1 ≤ q * y1 := Nat.le_mul_of_pos_left y1 hp
    omega
  · have hl := dig_lt hu hv
    rcases h with h | h
    · omega
    · have : dig u v (y1 * 4294967296 + y0) < q := by
        unfold dig
        rw [Nat.div_lt_iff_lt_mul (by omega)]
        have := guess_mul (y0 := y0) g1
        omega
      omega
theorem guess_done (hu : u < y1 * 4294967296 + y0) (hg : Guess u v y1 y0 q r) (h : q * y0 ≤ 4294967296 * r + v) : q = dig u v (y1 * 4294967296 + y0) := by
  obtain ⟨g1, g2, g3⟩ := hg
  refine Nat.le_antisymm ?_ g2
  unfold dig
  rw [Nat.le_div_iff_mul_le (by omega)]
  have := guess_mul (y0 := y0) g1
  omega
theorem guess_break (hu : u < y1 * 4294967296 + y0) (h2 : y0 < 4294967296) (hg : Guess u v y1 y0 q r) (hq : q ≤ 4294967296) (hr : 4294967296 ≤ r) : q = dig u v (y1 * 4294967296 + y0) := by
  refine guess_done hu hg ?_
  have a : q * y0 ≤ 4294967296 * y0 := Nat.mul_le_mul_right _ hq
  omega
end
theorem dig_rest (u v Y : Nat) : u * 4294967296 + v - dig u v Y * Y = (u * 4294967296 + v) % Y ∧ dig u v Y * Y ≤ u * 4294967296 + v := by
  unfold dig
  have := Nat.div_add_mod' (u * 4294967296 + v) Y
  omega
/-- The whole: two digits. -/
theorem two_digits (N Y : Nat) :
    dig (N / 18446744073709551616) (N / 4294967296 % 4294967296) Y * 4294967296 + dig ((N / 18446744073709551616 * 4294967296 + N / 4294967296 % 4294967296) % Y) (N % 4294967296) Y = N / Y ∧
    ((N / 18446744073709551616 * 4294967296 + N / 4294967296 % 4294967296) % Y * 4294967296 + N % 4294967296) % Y = N % Y := by
  rcases Nat.eq_zero_or_pos Y with rfl | hY
  · simp [dig]; omega
  have e : N / 18446744073709551616 * 4294967296 + N / 4294967296 % 4294967296 = N / 4294967296 := by omega
  unfold dig
  rw [e]
  have e1 := Nat.div_add_mod' (N / 4294967296) Y
  generalize hA : N / 4294967296 / Y = A at *
  generalize hR : N / 4294967296 % Y = R at *
  have e2 : N = A * 4294967296 * Y + (R * 4294967296 + N % 4294967296) := by
    have : A * 4294967296 * Y = A * Y * 4294967296 := Nat.mul_right_comm _ _ _
    omega
  constructor
  · conv => rhs; rw [e2]
    rw [Nat.add_comm (A * 4294967296 * Y), Nat.add_mul_div_right _ _ hY, Nat.add_comm]
  · conv => rhs; rw [e2]
    rw [Nat.add_comm (A * 4294967296 * Y), Nat.add_mul_mod_self_right]
theorem shifted (X y k : Nat) (hk : 0 < k) : X * k / (y * k) = X / y ∧ X * k % (y * k) / k = X % y := by
  rw [Nat.mul_div_mul_right _ _ hk, Nat.mul_mod_mul_right, Nat.mul_div_cancel _ hk]
  exact ⟨rfl, rfl⟩
/-! The reference's division and multiplication, digit by digit. -/
theorem div_low {A b c : Nat} (hb : 0 < b) (h : 2 * (A % b) + c < b) : (2 * A + c) / b = 2 * (A / b) ∧ (2 * A + c) % b = 2 * (A % b) + c := by
  have e : 2 * A + c = (2 * (A % b) + c) + b * (2 * (A / b)) := by
    have := Nat.div_add_mod A b
    rw [Nat.mul_left_comm]; omega
  rw [e, Nat.add_mul_div_left _ _ hb, Nat.add_mul_mod_self_left, Nat.div_eq_of_lt h, Nat.mod_eq_of_lt h]
  exact ⟨by omega, rfl⟩
theorem div_high {A b c : Nat} (hb : 0 < b) (hc : c < 2) (h : b ≤ 2 * (A % b) + c) : (2 * A + c) / b = 2 * (A / b) + 1 ∧ (2 * A + c) % b = 2 * (A % b) + c - b := by
  have hm := Nat.mod_lt A hb
  have e : 2 * A + c = (2 * (A % b) + c - b) + b * (2 * (A / b) + 1) := by
    have := Nat.div_add_mod A b
    rw [Nat.mul_add, Nat.mul_left_comm]; omega
  have hl : 2 * (A % b) + c - b < b := by omega
  rw [e, Nat.add_mul_div_left _ _ hb, Nat.add_mul_mod_self_left, Nat.div_eq_of_lt hl, Nat.mod_eq_of_lt hl]
  exact ⟨by omega, rfl⟩
theorem shift_bit (a k : Nat) : a / 2 ^ k = 2 * (a / 2 ^ (k + 1)) + a / 2 ^ k % 2 := by
  rw [Nat.pow_succ, ← Nat.div_div_eq_div_mul]; omega
theorem bit_high (n k : Nat) (h : 64 ≤ k) : n / 18446744073709551616 / 2 ^ (k - 64) % 2 = n / 2 ^ k % 2 := by
  rw [Nat.div_div_eq_div_mul, show 18446744073709551616 * 2 ^ (k - 64) = 2 ^ k by rw [show (18446744073709551616 : Nat) = 2 ^ 64 by decide, ← Nat.pow_add]; congr 1; omega]
theorem bit_low (n k : Nat) (h : k < 64) : n % 18446744073709551616 / 2 ^ k % 2 = n / 2 ^ k % 2 := by
  have e : (18446744073709551616 : Nat) = 2 ^ k * (2 * 2 ^ (63 - k)) := by
    rw [← Nat.pow_succ', ← Nat.pow_add, show k + (63 - k).succ = 64 by omega]
  rw [e, Nat.mod_mul_right_div_self, Nat.mod_mul_right_mod]
theorem gcd_turn (a b : Nat) : Nat.gcd b (a % b) = Nat.gcd a b := by
  rw [Nat.gcd_comm a b, Nat.gcd_rec b a, Nat.gcd_comm]
/-- The normalised numbers of Div64. -/
theorem div_parts {hi lo y s K : Nat} (hK : K = 2 ^ s) (s1 : s ≤ 63) (h1 : hi < y) (hl : lo < 18446744073709551616) (hY : y * K < 18446744073709551616) :
    hi * K < 18446744073709551616 ∧ lo / 2 ^ (64 - s) < K ∧ hi * K + lo / 2 ^ (64 - s) < y * K ∧ (hi * K ||| lo / 2 ^ (64 - s)) = hi * K + lo / 2 ^ (64 - s) ∧
    (hi * 18446744073709551616 + lo) * K / 18446744073709551616 = hi * K + lo / 2 ^ (64 - s) ∧ (hi * 18446744073709551616 + lo) * K % 18446744073709551616 = lo * K % 18446744073709551616 := by
  obtain ⟨J, hJ⟩ : ∃ J, J = 2 ^ (64 - s) := ⟨_, rfl⟩
  have hKJ : J * K = 18446744073709551616 := by
    rw [hJ, hK, ← Nat.pow_add, show 64 - s + s = 64 by omega]
  rw [← hJ]
  have hK0 : 0 < K := by rw [hK]; exact Nat.two_pow_pos s
  have hJ0 : 0 < J := by rw [hJ]; exact Nat.two_pow_pos _
  have a1 : (hi + 1) * K ≤ y * K := Nat.mul_le_mul_right _ h1
  rw [Nat.add_mul, Nat.one_mul] at a1
  have a2 : lo / J < K := by rw [Nat.div_lt_iff_lt_mul hJ0, Nat.mul_comm]; omega
  have e : (hi * 18446744073709551616 + lo) * K = (hi * K + lo / J) * 18446744073709551616 + lo % J * K := by
    have h := Nat.div_add_mod' lo J
    have h2 : lo * K = lo / J * 18446744073709551616 + lo % J * K := by
      conv => lhs; rw [← h]
      rw [Nat.add_mul, Nat.mul_assoc, hKJ]
    rw [Nat.add_mul, h2, Nat.add_mul, Nat.mul_right_comm]; omega
  have a3 : lo % J * K < 18446744073709551616 := by
    rw [← hKJ]; exact Nat.mul_lt_mul_of_pos_right (Nat.mod_lt _ hJ0) hK0
  refine ⟨by omega, a2, by omega, ?_, ?_, ?_⟩
  · rw [Nat.mul_comm hi K, hK]
    exact (Nat.two_pow_add_eq_or_of_lt (by rw [← hK]; exact a2) hi).symm
  · rw [e]; omega
  · rw [Nat.add_mul, show hi * 18446744073709551616 * K = hi * K * 18446744073709551616 from Nat.mul_right_comm _ _ _, Nat.add_comm, Nat.add_mul_mod_self_right]
end Go.Proofs.YtonlmnlpofgccaaGreat
