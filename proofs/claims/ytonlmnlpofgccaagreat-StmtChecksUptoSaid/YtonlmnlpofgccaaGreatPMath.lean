/-
  Mathematics of statements: the tree, its statements in order, levels, sizes, checks, equality, what they name.
-/
import Derived.Test.YtonlmnlpofgccaaGreatEMath
import Derived.Test.YtonlmnlpofgccaaGreatENames
import Derived.Test.YtonlmnlpofgccaaGreatDCheck2
namespace Go.Proofs.YtonlmnlpofgccaaGreat.Sm
open Go.Proofs.YtonlmnlpofgccaaGreat.Na (bs bs_inj chk)
open Go.Proofs.YtonlmnlpofgccaaGreat.Ex (Ex Nm chkE take_snoc take_one)
set_option linter.unusedVariables false
/-- A distribution: its form, its numbers, its values and weights. -/
structure Dt where
  op : Int
  a : Int
  b : Int
  n : Int
  vs : List Int
  ws : List Int
/-- A statement: its form, its name, its second name, its expressions, arguments, distribution, flag and inner lists. -/
inductive St where
  | mk (o : Int) (nm f : ByteArray) (e g : Ex) (ar : List Ex) (di : Dt) (fl : Bool) (bo el : List St)
def St.o : St → Int
  | .mk o _ _ _ _ _ _ _ _ _ => o
def St.nm : St → ByteArray
  | .mk _ nm _ _ _ _ _ _ _ _ => nm
def St.f : St → ByteArray
  | .mk _ _ f _ _ _ _ _ _ _ => f
def St.e : St → Ex
  | .mk _ _ _ e _ _ _ _ _ _ => e
def St.g : St → Ex
  | .mk _ _ _ _ g _ _ _ _ _ => g
def St.ar : St → List Ex
  | .mk _ _ _ _ _ ar _ _ _ _ => ar
def St.di : St → Dt
  | .mk _ _ _ _ _ _ di _ _ _ => di
def St.fl : St → Bool
  | .mk _ _ _ _ _ _ _ fl _ _ => fl
def St.bo : St → List St
  | .mk _ _ _ _ _ _ _ _ bo _ => bo
def St.el : St → List St
  | .mk _ _ _ _ _ _ _ _ _ el => el
theorem St.eta : ∀ x : St, x = .mk x.o x.nm x.f x.e x.g x.ar x.di x.fl x.bo x.el
  | .mk _ _ _ _ _ _ _ _ _ _ => rfl
mutual
def cn : St → Nat
  | .mk _ _ _ _ _ _ _ _ bo el => cnL bo + cnL el + 1
def cnL : List St → Nat
  | [] => 0
  | x :: t => cn x + cnL t
end
mutual
def dp : St → Nat
  | .mk _ _ _ _ _ _ _ _ bo el => max (dpL bo) (dpL el) + 1
def dpL : List St → Nat
  | [] => 0
  | x :: t => max (dp x) (dpL t)
end
mutual
def ord : St → List St
  | .mk o nm f e g ar di fl bo el => .mk o nm f e g ar di fl bo el :: (ordL bo ++ ordL el)
def ordL : List St → List St
  | [] => []
  | x :: t => ord x ++ ordL t
end
/-- The size without the inner lists. -/
def sz0 (e g : Ex) (ar : List Ex) (di : Dt) : Nat := 1 + Ex.cnt e + Ex.cnt g + di.vs.length + di.ws.length + Ex.cntL ar
mutual
def sz : St → Nat
  | .mk _ _ _ e g ar di _ bo el => sz0 e g ar di + szL bo + szL el
def szL : List St → Nat
  | [] => 0
  | x :: t => sz x + szL t
end
theorem cn_one (x : St) : cn x = cnL x.bo + cnL x.el + 1 := by obtain ⟨o, nm, f, e, g, ar, di, fl, bo, el⟩ := x; rw [cn]; rfl
theorem dp_one (x : St) : dp x = max (dpL x.bo) (dpL x.el) + 1 := by obtain ⟨o, nm, f, e, g, ar, di, fl, bo, el⟩ := x; rw [dp]; rfl
theorem ord_one (x : St) : ord x = x :: (ordL x.bo ++ ordL x.el) := by obtain ⟨o, nm, f, e, g, ar, di, fl, bo, el⟩ := x; rw [ord]; rfl
theorem sz_one (x : St) : sz x = sz0 x.e x.g x.ar x.di + szL x.bo + szL x.el := by obtain ⟨o, nm, f, e, g, ar, di, fl, bo, el⟩ := x; rw [sz]; rfl
theorem cn_pos (x : St) : 1 ≤ cn x := by rw [cn_one]; omega
theorem dp_pos (x : St) : 1 ≤ dp x := by rw [dp_one]; omega
theorem sz_pos (x : St) : 1 ≤ sz x := by rw [sz_one]; unfold sz0; omega
theorem cnL_cons (x : St) (t : List St) : cnL (x :: t) = cn x + cnL t := by rw [cnL]
theorem dpL_cons (x : St) (t : List St) : dpL (x :: t) = max (dp x) (dpL t) := by rw [dpL]
theorem ordL_cons (x : St) (t : List St) : ordL (x :: t) = ord x ++ ordL t := by rw [ordL]
theorem szL_cons (x : St) (t : List St) : szL (x :: t) = sz x + szL t := by rw [szL]
theorem cnL_app : ∀ a b : List St, cnL (a ++ b) = cnL a + cnL b
  | [], b => by simp [cnL]
  | x :: t, b => by simp only [List.cons_append, cnL, cnL_app t b]; omega
theorem dpL_app : ∀ a b : List St, dpL (a ++ b) = max (dpL a) (dpL b)
  | [], b => by simp [dpL]
  | x :: t, b => by simp only [List.cons_append, dpL, dpL_app t b]; omega
theorem ordL_app : ∀ a b : List St, ordL (a ++ b) = ordL a ++ ordL b
  | [], b => rfl
  | x :: t, b => by simp only [List.cons_append, ordL, ordL_app t b, List.append_assoc]
theorem szL_app : ∀ a b : List St, szL (a ++ b) = szL a + szL b
  | [], b => by simp [szL]
  | x :: t, b => by simp only [List.cons_append, szL, szL_app t b]; omega
theorem cnL_take {l : List St} {k : Nat} {x : St} (h : l[k]? = some x) : cnL (l.take (k + 1)) = cnL (l.take k) + cn x := by rw [take_one h, cnL_app]; simp [cnL]
theorem dpL_take {l : List St} {k : Nat} {x : St} (h : l[k]? = some x) : dpL (l.take (k + 1)) = max (dpL (l.take k)) (dp x) := by rw [take_one h, dpL_app]; simp [dpL]
theorem ordL_take {l : List St} {k : Nat} {x : St} (h : l[k]? = some x) : ordL (l.take (k + 1)) = ordL (l.take k) ++ ord x := by rw [take_one h, ordL_app]; simp [ordL]
theorem szL_take {l : List St} {k : Nat} {x : St} (h : l[k]? = some x) : szL (l.take (k + 1)) = szL (l.take k) + sz x := by rw [take_one h, szL_app]; simp [szL]
theorem cnL_le (l : List St) (k : Nat) : cnL (l.take k) ≤ cnL l := by
  have := cnL_app (l.take k) (l.drop k)
  rw [List.take_append_drop] at this
  omega
theorem dpL_le (l : List St) (k : Nat) : dpL (l.take k) ≤ dpL l := by
  have := dpL_app (l.take k) (l.drop k)
  rw [List.take_append_drop] at this
  omega
theorem szL_le (l : List St) (k : Nat) : szL (l.take k) ≤ szL l := by
  have := szL_app (l.take k) (l.drop k)
  rw [List.take_append_drop] at this
  omega
theorem cn_mem : ∀ {l : List St} {x : St}, x ∈ l → cn x ≤ cnL l
  | [], x, h => by cases h
  | y :: t, x, h => by
    unfold cnL
    rcases List.mem_cons.1 h with rfl | h
    · omega
    · have := cn_mem h; omega
theorem dp_mem : ∀ {l : List St} {x : St}, x ∈ l → dp x ≤ dpL l
  | [], x, h => by cases h
  | y :: t, x, h => by
    unfold dpL
    rcases List.mem_cons.1 h with rfl | h
    · omega
    · have := dp_mem h; omega
theorem sz_mem : ∀ {l : List St} {x : St}, x ∈ l → sz x ≤ szL l
  | [], x, h => by cases h
  | y :: t, x, h => by
    unfold szL
    rcases List.mem_cons.1 h with rfl | h
    · omega
    · have := sz_mem h; omega
theorem len_cnL : ∀ l : List St, l.length ≤ cnL l
  | [] => Nat.zero_le _
  | x :: t => by
    have h1 := cn_pos x
    have h2 := len_cnL t
    unfold cnL
    simp only [List.length_cons]
    omega
theorem ordL_mem : ∀ {l : List St} {x y : St}, x ∈ l → y ∈ ord x → y ∈ ordL l
  | [], x, y, h, _ => by cases h
  | z :: t, x, y, h, g => by
    unfold ordL
    rcases List.mem_cons.1 h with rfl | h
    · exact List.mem_append_left _ g
    · exact List.mem_append_right _ (ordL_mem h g)
theorem ordL_mem' : ∀ {l : List St} {y : St}, y ∈ ordL l → ∃ x ∈ l, y ∈ ord x
  | [], y, h => by cases h
  | z :: t, y, h => by
    unfold ordL at h
    rcases List.mem_append.1 h with h | h
    · exact ⟨z, List.mem_cons_self, h⟩
    · obtain ⟨x, hx, hy⟩ := ordL_mem' h
      exact ⟨x, List.mem_cons_of_mem _ hx, hy⟩
theorem ord_self (x : St) : x ∈ ord x := by rw [ord_one]; exact List.mem_cons_self
theorem ordL_self {l : List St} {x : St} (h : x ∈ l) : x ∈ ordL l := ordL_mem h (ord_self x)
theorem ord_bo {x y : St} (h : y ∈ ordL x.bo) : y ∈ ord x := by rw [ord_one]; exact List.mem_cons_of_mem _ (List.mem_append_left _ h)
theorem ord_el {x y : St} (h : y ∈ ordL x.el) : y ∈ ord x := by rw [ord_one]; exact List.mem_cons_of_mem _ (List.mem_append_right _ h)
/-- Induction: what holds of a statement if it holds of those of its inner lists. -/
theorem St.ind {P : St → Prop} (h : ∀ x : St, (∀ y ∈ x.bo, P y) → (∀ y ∈ x.el, P y) → P x) (x : St) : P x := by
  have : ∀ k x, cn x ≤ k → P x := by
    intro k
    induction k with
    | zero => intro x hx; have := cn_pos x; omega
    | succ k ih =>
      intro x hx
      rw [cn_one] at hx
      exact h x (fun y hy => ih y (by have := cn_mem hy; omega)) (fun y hy => ih y (by have := cn_mem hy; omega))
  exact this _ x (Nat.le_refl _)
/-- Induction over lists: what holds of a list if it holds of the inner lists of its statements. -/
theorem lst_ind {Q : List St → Prop} (h : ∀ sl : List St, (∀ x ∈ sl, Q x.bo ∧ Q x.el) → Q sl) (sl : List St) : Q sl := by
  have : ∀ k sl, cnL sl ≤ k → Q sl := by
    intro k
    induction k with
    | zero =>
      intro sl hs
      refine h sl fun x hx => ?_
      have := cn_mem hx
      have := cn_pos x
      omega
    | succ k ih =>
      intro sl hs
      refine h sl fun x hx => ?_
      have h1 := cn_mem hx
      rw [cn_one] at h1
      exact ⟨ih _ (by omega), ih _ (by omega)⟩
  exact this _ sl (Nat.le_refl _)
/-- The greatest depth of an inner list. -/
def inL : List St → Nat
  | [] => 0
  | x :: t => max (max (dpL x.bo) (dpL x.el)) (inL t)
theorem dpL_inL : ∀ {l : List St}, 0 < l.length → dpL l = inL l + 1
  | [x], _ => by simp only [dpL, inL, dp_one]; omega
  | x :: y :: t, _ => by
    have := dpL_inL (l := y :: t) (by simp)
    rw [dpL_cons, this, dp_one, show inL (x :: y :: t) = max (max (dpL x.bo) (dpL x.el)) (inL (y :: t)) from rfl]
    omega
theorem inL_app : ∀ a b : List St, inL (a ++ b) = max (inL a) (inL b)
  | [], b => by simp [inL]
  | x :: t, b => by simp only [List.cons_append, inL, inL_app t b]; omega
theorem inL_take {l : List St} {k : Nat} {x : St} (h : l[k]? = some x) : inL (l.take (k + 1)) = max (inL (l.take k)) (max (dpL x.bo) (dpL x.el)) := by rw [take_one h, inL_app]; simp [inL]
theorem inL_le : ∀ l : List St, inL l ≤ dpL l
  | [] => Nat.le_refl _
  | x :: t => by rw [dpL_inL (by simp)]; omega
theorem ordL_len_of : ∀ {l : List St}, (∀ x ∈ l, (ord x).length = cn x) → (ordL l).length = cnL l
  | [], _ => rfl
  | x :: t, h => by rw [ordL, cnL, List.length_append, h x List.mem_cons_self, ordL_len_of fun y hy => h y (List.mem_cons_of_mem _ hy)]
theorem ord_len (x : St) : (ord x).length = cn x := by
  induction x using St.ind with
  | h x h1 h2 =>
    rw [ord_one, cn_one, List.length_cons, List.length_append, ordL_len_of h1, ordL_len_of h2]
theorem ordL_len (l : List St) : (ordL l).length = cnL l := ordL_len_of fun x _ => ord_len x
theorem dpL_le_cnL_of : ∀ {l : List St}, (∀ x ∈ l, dp x ≤ cn x) → dpL l ≤ cnL l
  | [], _ => Nat.le_refl _
  | x :: t, h => by
    have h1 := h x List.mem_cons_self
    have h2 := dpL_le_cnL_of fun y hy => h y (List.mem_cons_of_mem _ hy)
    rw [dpL, cnL]
    omega
theorem dp_le_cn (x : St) : dp x ≤ cn x := by
  induction x using St.ind with
  | h x h1 h2 =>
    have a := dpL_le_cnL_of h1
    have b := dpL_le_cnL_of h2
    rw [dp_one, cn_one]
    omega
theorem dpL_le_cnL (l : List St) : dpL l ≤ cnL l := dpL_le_cnL_of fun x _ => dp_le_cn x
theorem inL_cap (l : List St) (k : Nat) : inL (l.take k) ≤ cnL l := Nat.le_trans (inL_le _) (Nat.le_trans (dpL_le l k) (dpL_le_cnL l))
theorem cnL_le_szL_of : ∀ {l : List St}, (∀ x ∈ l, cn x ≤ sz x) → cnL l ≤ szL l
  | [], _ => Nat.le_refl _
  | x :: t, h => by
    have h1 := h x List.mem_cons_self
    have h2 := cnL_le_szL_of fun y hy => h y (List.mem_cons_of_mem _ hy)
    rw [szL, cnL]
    omega
theorem cn_le_sz (x : St) : cn x ≤ sz x := by
  induction x using St.ind with
  | h x h1 h2 =>
    have a := cnL_le_szL_of h1
    have b := cnL_le_szL_of h2
    rw [sz_one, cn_one]
    unfold sz0
    omega
theorem cnL_le_szL (l : List St) : cnL l ≤ szL l := cnL_le_szL_of fun x _ => cn_le_sz x
/-! ### Equality -/
def sameDt (x y : Dt) : Bool := decide (x.op = y.op) && (decide (x.a = y.a) && (decide (x.b = y.b) && (decide (x.n = y.n) && (decide (x.vs = y.vs) && decide (x.ws = y.ws)))))
theorem sameDt_iff {x y : Dt} : sameDt x y = true ↔ x = y := by
  obtain ⟨a, b, c, d, e, f⟩ := x
  obtain ⟨a', b', c', d', e', f'⟩ := y
  simp [sameDt]
/-- Equal apart from the inner lists. -/
def same0 (x y : St) : Bool := decide (x.o = y.o) && decide (bs x.nm = bs y.nm) && decide (bs x.f = bs y.f) && (x.fl == y.fl) && Ex.same x.e y.e && Ex.same x.g y.g && Ex.sameL x.ar y.ar && sameDt x.di y.di
mutual
def sameS : St → St → Bool
  | .mk o nm f e g ar di fl bo el, y => same0 (.mk o nm f e g ar di fl bo el) y && sameSL bo y.bo && sameSL el y.el
def sameSL : List St → List St → Bool
  | [], [] => true
  | x :: t, y :: u => sameS x y && sameSL t u
  | [], _ :: _ => false
  | _ :: _, [] => false
end
theorem sameS_one (x y : St) : sameS x y = (same0 x y && sameSL x.bo y.bo && sameSL x.el y.el) := by obtain ⟨o, nm, f, e, g, ar, di, fl, bo, el⟩ := x; rw [sameS]; rfl
theorem sameSL_cons (x y : St) (t u : List St) : sameSL (x :: t) (y :: u) = (sameS x y && sameSL t u) := by rw [sameSL]
theorem sameSL_eq_of : ∀ {l m : List St}, (∀ x ∈ l, ∀ y, sameS x y = true ↔ x = y) → (sameSL l m = true ↔ l = m)
  | [], [], _ => by simp [sameSL]
  | x :: t, y :: u, h => by
    rw [sameSL_cons, Bool.and_eq_true, h x List.mem_cons_self y, sameSL_eq_of fun z hz => h z (List.mem_cons_of_mem _ hz), List.cons.injEq]
  | [], _ :: _, _ => by simp [sameSL]
  | _ :: _, [], _ => by simp [sameSL]
theorem sameS_iff (x : St) : ∀ y, sameS x y = true ↔ x = y := by
  induction x using St.ind with
  | h x h1 h2 =>
    intro y
    rw [sameS_one, Bool.and_eq_true, Bool.and_eq_true, sameSL_eq_of h1, sameSL_eq_of h2]
    obtain ⟨o, nm, f, e, g, ar, di, fl, bo, el⟩ := x
    obtain ⟨o', nm', f', e', g', ar', di', fl', bo', el'⟩ := y
    simp only [same0, Bool.and_eq_true, decide_eq_true_eq, beq_iff_eq, sameDt_iff, Ex.same_iff]
    simp only [St.o, St.nm, St.f, St.e, St.g, St.ar, St.di, St.fl, St.bo, St.el, St.mk.injEq]
    have e1 : bs nm = bs nm' ↔ nm = nm' := ⟨bs_inj, fun h => by rw [h]⟩
    have e2 : bs f = bs f' ↔ f = f' := ⟨bs_inj, fun h => by rw [h]⟩
    have e3 : Ex.sameL ar ar' = true ↔ ar = ar' := ⟨Ex.sameL_eq, fun h => by rw [h]; exact Ex.sameL_self _⟩
    rw [e1, e2, e3]
    constructor
    · rintro ⟨⟨⟨⟨⟨⟨⟨⟨⟨q1, q2⟩, q3⟩, q4⟩, q5⟩, q6⟩, q7⟩, q8⟩, q9⟩, q10⟩; exact ⟨q1, q2, q3, q5, q6, q7, q8, q4, q9, q10⟩
    · rintro ⟨q1, q2, q3, q5, q6, q7, q8, q4, q9, q10⟩; exact ⟨⟨⟨⟨⟨⟨⟨⟨⟨q1, q2⟩, q3⟩, q4⟩, q5⟩, q6⟩, q7⟩, q8⟩, q9⟩, q10⟩
theorem sameSL_iff {l m : List St} : sameSL l m = true ↔ l = m := sameSL_eq_of fun x _ => sameS_iff x
theorem sameSL_self (l : List St) : sameSL l l = true := sameSL_iff.2 rfl
theorem sameSL_comm (a b : List St) : sameSL a b = sameSL b a := by
  cases h : sameSL b a with
  | true => rw [sameSL_iff] at h ⊢; exact h.symm
  | false =>
    cases g : sameSL a b with
    | false => rfl
    | true => rw [sameSL_iff] at g; rw [g, sameSL_self] at h; cases h
theorem sameSL_len {a b : List St} (h : ¬ a.length = b.length) : sameSL a b = false := by
  cases g : sameSL a b with
  | false => rfl
  | true => exact absurd (by rw [sameSL_iff.1 g]) h
theorem sameSL_stop {l l2 : List St} {k : Nat} {x y : St} (hx : l[k]? = some x) (hy : l2[k]? = some y) (h : sameS x y = false) : sameSL l l2 = false := by
  cases g : sameSL l l2 with
  | false => rfl
  | true =>
    have := sameSL_iff.1 g
    subst this
    rw [hx] at hy
    cases hy
    rw [(sameS_iff x x).2 rfl] at h
    cases h
theorem takeS_same {l l2 : List St} {k : Nat} {x y : St} (hx : l[k]? = some x) (hy : l2[k]? = some y) (h : sameS x y = true) (g : l.take k = l2.take k) : l.take (k + 1) = l2.take (k + 1) := by rw [take_one hx, take_one hy, (sameS_iff x y).1 h, g]
/-! ### The check -/
def kn (o : Int) : Bool := decide (1 ≤ o) && decide (o ≤ 18)
def uN (o : Int) : Bool := decide (o = 1 ∨ o = 2 ∨ o = 6 ∨ o = 7 ∨ o = 8 ∨ o = 9 ∨ o = 10 ∨ o = 11 ∨ o = 12 ∨ o = 13 ∨ o = 14 ∨ o = 15 ∨ o = 16 ∨ o = 17)
def uO (o : Int) : Bool := decide (o = 2 ∨ o = 9 ∨ o = 13)
def uE (o : Int) : Bool := decide (o = 1 ∨ o = 3 ∨ o = 4 ∨ o = 5 ∨ o = 6 ∨ o = 7 ∨ o = 8 ∨ o = 12 ∨ o = 13 ∨ o = 14 ∨ o = 15 ∨ o = 16 ∨ o = 17)
def uF (o : Int) : Bool := decide (o = 6)
def uA (o : Int) : Bool := decide (o = 13 ∨ o = 14)
def uD (o : Int) : Bool := decide (o = 2)
def uG (o : Int) : Bool := decide (o = 6)
def uB (o : Int) : Bool := decide (o = 3 ∨ o = 4)
def uL (o : Int) : Bool := decide (o = 3)
abbrev nE : ByteArray := ⟨#[]⟩
def zE : Ex := .mk 0 nE 0 []
def zD : Dt := ⟨0, 0, 0, 0, [], []⟩
/-- No field that the form does not use is other than zero. -/
def frm (x : St) : Bool := (uN x.o || decide (bs x.nm = [])) && (uO x.o || decide (bs x.f = [])) && (uE x.o || Ex.same x.e zE) && (uF x.o || Ex.same x.g zE) && (uA x.o || decide (x.ar.length = 0)) && (uD x.o || sameDt x.di zD) && (uG x.o || !x.fl) && (uB x.o || decide (x.bo.length = 0)) && (uL x.o || decide (x.el.length = 0))
def orE (a b : Int) : Int := if a = 0 then b else a
def onE (u : Bool) (v : Int) : Int := if u then v else 0
/-- The first error of some expressions. -/
def badA : List Ex → Int
  | [] => 0
  | x :: t => orE (chkE false x) (badA t)
def argE (l : List Ex) : Int := if 6 < l.length then 6 else badA l
def dtE (d : Dt) : Int := Di.errD d.op d.a d.b d.n d.vs.length d.ws.length (fun i => d.vs.getD i 0) (fun i => d.ws.getD i 0)
def restE (x : St) : Int := orE (onE (uN x.o) (chk (bs x.nm))) (orE (onE (uO x.o) (chk (bs x.f))) (orE (onE (uE x.o) (chkE false x.e)) (orE (onE (uF x.o) (chkE false x.g)) (orE (onE (uA x.o) (argE x.ar)) (onE (uD x.o) (dtE x.di))))))
/-- The check of a statement without its inner lists. -/
def oneE (x : St) : Int := if kn x.o && frm x then restE x else 1
def badS : List St → Int
  | [] => 0
  | x :: t => orE (oneE x) (badS t)
theorem orE_zero {a b : Int} : orE a b = 0 ↔ a = 0 ∧ b = 0 := by unfold orE; split <;> simp_all
theorem orE_no {a b : Int} (h : ¬ a = 0) : orE a b = a := if_neg h
theorem orE_yes {b : Int} : orE 0 b = b := if_pos rfl
theorem orE_right (a : Int) : orE a 0 = a := by unfold orE; split <;> simp_all
theorem orE_assoc (a b c : Int) : orE (orE a b) c = orE a (orE b c) := by unfold orE; split <;> simp_all
theorem badA_app : ∀ a b : List Ex, badA (a ++ b) = orE (badA a) (badA b)
  | [], b => orE_yes.symm
  | x :: t, b => by rw [List.cons_append, badA, badA, badA_app t b, orE_assoc]
theorem badA_take {l : List Ex} {k : Nat} {x : Ex} (h : l[k]? = some x) : badA (l.take (k + 1)) = orE (badA (l.take k)) (chkE false x) := by rw [take_one h, badA_app]; simp [badA, orE_right]
theorem badA_stop {l : List Ex} {k : Nat} {x : Ex} (h : l[k]? = some x) (h0 : badA (l.take k) = 0) (h1 : ¬ chkE false x = 0) : badA l = chkE false x := by
  have h2 := badA_app (l.take (k + 1)) (l.drop (k + 1))
  rw [List.take_append_drop, badA_take h, h0, orE_yes, orE_no h1] at h2
  exact h2
theorem badA_zero : ∀ {l : List Ex}, badA l = 0 ↔ ∀ x ∈ l, chkE false x = 0
  | [] => by simp [badA]
  | y :: t => by rw [badA, orE_zero, badA_zero (l := t)]; simp
theorem badS_app : ∀ a b : List St, badS (a ++ b) = orE (badS a) (badS b)
  | [], b => orE_yes.symm
  | x :: t, b => by rw [List.cons_append, badS, badS, badS_app t b, orE_assoc]
theorem badS_zero : ∀ {l : List St}, badS l = 0 ↔ ∀ x ∈ l, oneE x = 0
  | [] => by simp [badS]
  | y :: t => by rw [badS, orE_zero, badS_zero (l := t)]; simp
theorem badS_snoc {l : List St} {x : St} (h : badS l = 0) : badS (l ++ [x]) = oneE x := by rw [badS_app, h, orE_yes, badS, badS, orE_right]
theorem badS_stop {l m : List St} {x : St} (h : badS l = 0) (h1 : ¬ oneE x = 0) : badS (l ++ x :: m) = oneE x := by rw [badS_app, h, orE_yes, badS, orE_no h1]
def chkL (l : List St) : Int := if 200 < cnL l then 6 else if 12 < dpL l then 11 else badS (ordL l)
theorem chkL_ok {l : List St} (h : chkL l = 0) : cnL l ≤ 200 ∧ dpL l ≤ 12 ∧ ∀ x ∈ ordL l, oneE x = 0 := by
  unfold chkL at h
  by_cases h1 : 200 < cnL l
  · rw [if_pos h1] at h; cases h
  by_cases h2 : 12 < dpL l
  · rw [if_neg h1, if_pos h2] at h; cases h
  rw [if_neg h1, if_neg h2] at h
  exact ⟨by omega, by omega, badS_zero.1 h⟩
theorem chkL_of {l : List St} (h1 : cnL l ≤ 200) (h2 : dpL l ≤ 12) (h : ∀ x ∈ ordL l, oneE x = 0) : chkL l = 0 := by
  unfold chkL
  rw [if_neg (by omega), if_neg (by omega)]
  exact badS_zero.2 h
/-! ### What statements name -/
def tgt (x : St) : List (Nm × Nm) := if x.o = 13 then [(bs x.f, bs x.nm)] else if x.o = 14 then [([], bs x.nm)] else []
def tgts (l : List St) : List (Nm × Nm) := l.flatMap tgt
def oN (o : Int) : Bool := decide (o = 6 ∨ o = 7 ∨ o = 8 ∨ o = 9 ∨ o = 10 ∨ o = 11 ∨ o = 12 ∨ o = 15 ∨ o = 16 ∨ o = 17)
def use (x : St) : List Nm := if oN x.o then [bs x.nm] else if x.o = 2 then [bs x.f] else []
def uses (l : List St) : List Nm := l.flatMap use
theorem tgts_app (a b : List St) : tgts (a ++ b) = tgts a ++ tgts b := List.flatMap_append
theorem uses_app (a b : List St) : uses (a ++ b) = uses a ++ uses b := List.flatMap_append
theorem tgts_snoc (l : List St) (x : St) : tgts (l ++ [x]) = tgts l ++ tgt x := by rw [tgts_app]; simp [tgts]
theorem uses_snoc (l : List St) (x : St) : uses (l ++ [x]) = uses l ++ use x := by rw [uses_app]; simp [uses]
theorem tgt_len (x : St) : (tgt x).length ≤ 1 := by unfold tgt; split <;> first | (simp; done) | (split <;> simp)
theorem use_len (x : St) : (use x).length ≤ 1 := by unfold use; split <;> first | (simp; done) | (split <;> simp)
theorem tgts_len : ∀ l : List St, (tgts l).length ≤ l.length
  | [] => Nat.le_refl _
  | x :: t => by
    have h1 := tgts_len t
    have h2 := tgt_len x
    have : tgts (x :: t) = tgt x ++ tgts t := rfl
    rw [this, List.length_append, List.length_cons]
    omega
theorem uses_len : ∀ l : List St, (uses l).length ≤ l.length
  | [] => Nat.le_refl _
  | x :: t => by
    have h1 := uses_len t
    have h2 := use_len x
    have : uses (x :: t) = use x ++ uses t := rfl
    rw [this, List.length_append, List.length_cons]
    omega
theorem tgts_ord (x : St) : tgts (ord x) = tgt x ++ (tgts (ordL x.bo) ++ tgts (ordL x.el)) := by
  rw [ord_one]
  rw [show x :: (ordL x.bo ++ ordL x.el) = [x] ++ (ordL x.bo ++ ordL x.el) from rfl, tgts_app, tgts_app]
  simp [tgts]
theorem uses_ord (x : St) : uses (ord x) = use x ++ (uses (ordL x.bo) ++ uses (ordL x.el)) := by
  rw [ord_one]
  rw [show x :: (ordL x.bo ++ ordL x.el) = [x] ++ (ordL x.bo ++ ordL x.el) from rfl, uses_app, uses_app]
  simp [uses]
end Go.Proofs.YtonlmnlpofgccaaGreat.Sm
