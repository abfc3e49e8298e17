/-
  Mathematics of expressions: the tree, its nodes in order, levels, checks, equality, replacement.
-/
import Derived.Test.YtonlmnlpofgccaaGreatNmMath
namespace Go.Proofs.YtonlmnlpofgccaaGreat.Ex
open Go.Proofs.YtonlmnlpofgccaaGreat.Na (bs bs_inj chk)
set_option linter.unusedVariables false
/-- An expression: its form, its name, its number and its parts. -/
inductive Ex where
  | mk (o : Int) (s : ByteArray) (n : Int) (l : List Ex)
def Ex.o : Ex → Int
  | .mk o _ _ _ => o
def Ex.s : Ex → ByteArray
  | .mk _ s _ _ => s
def Ex.n : Ex → Int
  | .mk _ _ n _ => n
def Ex.l : Ex → List Ex
  | .mk _ _ _ l => l
theorem Ex.eta : ∀ e : Ex, e = .mk e.o e.s e.n e.l
  | .mk _ _ _ _ => rfl
mutual
def cnt : Ex → Nat
  | .mk _ _ _ l => cntL l + 1
def cntL : List Ex → Nat
  | [] => 0
  | x :: t => cnt x + cntL t
end
mutual
def dep : Ex → Nat
  | .mk _ _ _ l => depL l + 1
def depL : List Ex → Nat
  | [] => 0
  | x :: t => max (dep x) (depL t)
end
mutual
def pre : Ex → List Ex
  | .mk o s n l => .mk o s n l :: preL l
def preL : List Ex → List Ex
  | [] => []
  | x :: t => pre x ++ preL t
end
theorem cnt_pos : ∀ e : Ex, 1 ≤ cnt e
  | .mk _ _ _ l => by unfold cnt; omega
theorem dep_pos : ∀ e : Ex, 1 ≤ dep e
  | .mk _ _ _ l => by unfold dep; omega
theorem cntL_app : ∀ a b : List Ex, cntL (a ++ b) = cntL a + cntL b
  | [], b => by simp [cntL]
  | x :: t, b => by simp only [List.cons_append, cntL, cntL_app t b]; omega
theorem depL_app : ∀ a b : List Ex, depL (a ++ b) = max (depL a) (depL b)
  | [], b => by simp [depL]
  | x :: t, b => by simp only [List.cons_append, depL, depL_app t b]; omega
theorem preL_app : ∀ a b : List Ex, preL (a ++ b) = preL a ++ preL b
  | [], b => rfl
  | x :: t, b => by simp only [List.cons_append, preL, preL_app t b, List.append_assoc]
theorem take_snoc {α : Type} {l : List α} {k : Nat} (h : k < l.length) : l.take (k + 1) = l.take k ++ [l[k]] := by rw [List.take_add_one, List.getElem?_eq_getElem h]; rfl
theorem take_one {α : Type} {l : List α} {k : Nat} {x : α} (h : l[k]? = some x) : l.take (k + 1) = l.take k ++ [x] := by rw [List.take_add_one, h]; rfl
theorem cntL_take {l : List Ex} {k : Nat} {x : Ex} (h : l[k]? = some x) : cntL (l.take (k + 1)) = cntL (l.take k) + cnt x := by rw [take_one h, cntL_app]; simp [cntL]
theorem depL_take {l : List Ex} {k : Nat} {x : Ex} (h : l[k]? = some x) : depL (l.take (k + 1)) = max (depL (l.take k)) (dep x) := by rw [take_one h, depL_app]; simp [depL]
theorem preL_take {l : List Ex} {k : Nat} {x : Ex} (h : l[k]? = some x) : preL (l.take (k + 1)) = preL (l.take k) ++ pre x := by rw [take_one h, preL_app]; simp [preL]
theorem cntL_le (l : List Ex) (k : Nat) : cntL (l.take k) ≤ cntL l := by
  have := cntL_app (l.take k) (l.drop k)
  rw [List.take_append_drop] at this
  omega
theorem depL_le (l : List Ex) (k : Nat) : depL (l.take k) ≤ depL l := by
  have := depL_app (l.take k) (l.drop k)
  rw [List.take_append_drop] at this
  omega
theorem cnt_mem : ∀ {l : List Ex} {x : Ex}, x ∈ l → cnt x ≤ cntL l
  | [], x, h => by cases h
  | y :: t, x, h => by
    unfold cntL
    rcases List.mem_cons.1 h with rfl | h
    · omega
    · have := cnt_mem h; omega
theorem dep_mem : ∀ {l : List Ex} {x : Ex}, x ∈ l → dep x ≤ depL l
  | [], x, h => by cases h
  | y :: t, x, h => by
    unfold depL
    rcases List.mem_cons.1 h with rfl | h
    · omega
    · have := dep_mem h; omega
theorem len_cntL : ∀ l : List Ex, l.length ≤ cntL l
  | [] => Nat.zero_le _
  | x :: t => by
    have h1 := cnt_pos x
    have h2 := len_cntL t
    unfold cntL
    simp only [List.length_cons]
    omega
/-- Induction: what holds of a tree if it holds of its parts. -/
theorem Ex.ind {P : Ex → Prop} (h : ∀ o s n l, (∀ x ∈ l, P x) → P (.mk o s n l)) (e : Ex) : P e := by
  have : ∀ k e, cnt e ≤ k → P e := by
    intro k
    induction k with
    | zero => intro e he; have := cnt_pos e; omega
    | succ k ih =>
      intro e he
      obtain ⟨o, s, n, l⟩ := e
      refine h o s n l fun x hx => ih x ?_
      have := cnt_mem hx
      unfold cnt at he
      omega
  exact this _ e (Nat.le_refl _)
mutual
theorem pre_len : ∀ e : Ex, (pre e).length = cnt e
  | .mk o s n l => by unfold pre cnt; simp [preL_len l]
theorem preL_len : ∀ l : List Ex, (preL l).length = cntL l
  | [] => rfl
  | x :: t => by unfold preL cntL; rw [List.length_append, pre_len x, preL_len t]
end
theorem preL_mem : ∀ {l : List Ex} {x y : Ex}, x ∈ l → y ∈ pre x → y ∈ preL l
  | [], x, y, h, _ => by cases h
  | z :: t, x, y, h, g => by
    unfold preL
    rcases List.mem_cons.1 h with rfl | h
    · exact List.mem_append_left _ g
    · exact List.mem_append_right _ (preL_mem h g)
theorem preL_mem' : ∀ {l : List Ex} {y : Ex}, y ∈ preL l → ∃ x ∈ l, y ∈ pre x
  | [], y, h => by cases h
  | z :: t, y, h => by
    unfold preL at h
    rcases List.mem_append.1 h with h | h
    · exact ⟨z, List.mem_cons_self, h⟩
    · obtain ⟨x, hx, hy⟩ := preL_mem' h
      exact ⟨x, List.mem_cons_of_mem _ hx, hy⟩
theorem dep_le_cnt (e : Ex) : dep e ≤ cnt e := by
  have key : ∀ l : List Ex, (∀ x ∈ l, dep x ≤ cnt x) → depL l ≤ cntL l := by
    intro l
    induction l with
    | nil => intro _; simp [depL, cntL]
    | cons x t ih =>
      intro h
      have h1 := h x List.mem_cons_self
      have h2 := ih fun z hz => h z (List.mem_cons_of_mem _ hz)
      unfold depL cntL
      omega
  induction e using Ex.ind with
  | h o s n l ih =>
    have := key l ih
    unfold dep cnt
    omega
theorem pre_self : ∀ e : Ex, e ∈ pre e
  | .mk o s n l => by unfold pre; exact List.mem_cons_self
theorem pre_kid {o : Int} {s : ByteArray} {n : Int} {l : List Ex} {x y : Ex} (hx : x ∈ l) (hy : y ∈ pre x) : y ∈ pre (.mk o s n l) := by
  unfold pre
  exact List.mem_cons_of_mem _ (preL_mem hx hy)
/-- The number of parts of a form, -1 for no form. -/
def ari (o : Int) : Int := if o < 1 ∨ 26 < o then -1 else if 5 ≤ o ∧ o ≤ 8 then 1 else if 9 ≤ o ∧ o ≤ 21 then 2 else 0
def obj (o : Int) : Bool := decide (22 ≤ o) && decide (o ≤ 24)
def most (o : Int) : Int := if o = 25 then 15 else if o = 26 then 31 else 63
def known (c : Bool) (o : Int) : Bool := decide (0 ≤ ari o) && (c && !decide (o = 3) || !c && decide (o ≤ 24))
def named (c : Bool) (o : Int) : Bool := !c && (decide (o = 3) || obj o)
def counted (c : Bool) (o : Int) : Bool := c && (obj o || decide (o = 25) || decide (o = 26))
def numbered (c : Bool) (o : Int) : Bool := decide (o = 1) || decide (o = 2) || counted c o
def inI (n : Int) : Bool := decide (-1000000000000 ≤ n) && decide (n ≤ 1000000000000)
def badF (c : Bool) (o : Int) (s : List UInt8) (n : Int) (m : Nat) : Bool := !known c o || !named c o && !decide (s = []) || !numbered c o && !decide (n = 0) || !decide ((m : Int) = ari o)
def badR (c : Bool) (o n : Int) : Bool := decide (o = 1) && !inI n || decide (o = 2) && !decide (n = 0) && !decide (n = 1) || counted c o && (decide (n < 0) || decide (most o < n))
/-- The check of a node without its parts. -/
def nd (c : Bool) (o : Int) (s : List UInt8) (n : Int) (m : Nat) : Int := if badF c o s n m then 1 else if badR c o n then 2 else if named c o then chk s else 0
def ndE (c : Bool) (e : Ex) : Int := nd c e.o (bs e.s) e.n e.l.length
/-- The first error of a list of nodes. -/
def bad (c : Bool) : List Ex → Int
  | [] => 0
  | x :: t => if ndE c x = 0 then bad c t else ndE c x
theorem bad_yes {c : Bool} {x : Ex} {t : List Ex} (h : ndE c x = 0) : bad c (x :: t) = bad c t := if_pos h
theorem bad_no {c : Bool} {x : Ex} {t : List Ex} (h : ¬ ndE c x = 0) : bad c (x :: t) = ndE c x := if_neg h
theorem bad_app_yes {c : Bool} : ∀ {a b : List Ex}, bad c a = 0 → bad c (a ++ b) = bad c b
  | [], b, _ => rfl
  | x :: t, b, h => by
    by_cases g : ndE c x = 0
    · rw [bad_yes g] at h; rw [List.cons_append, bad_yes g, bad_app_yes h]
    · rw [bad_no g] at h; exact absurd h g
theorem bad_app_no {c : Bool} : ∀ {a b : List Ex}, ¬ bad c a = 0 → bad c (a ++ b) = bad c a
  | [], b, h => absurd rfl h
  | x :: t, b, h => by
    by_cases g : ndE c x = 0
    · rw [bad_yes g] at h; rw [List.cons_append, bad_yes g, bad_yes g, bad_app_no h]
    · rw [List.cons_append, bad_no g, bad_no g]
theorem bad_zero {c : Bool} : ∀ {l : List Ex}, bad c l = 0 ↔ ∀ x ∈ l, ndE c x = 0
  | [] => by simp [bad]
  | y :: t => by
    simp only [bad, List.mem_cons, forall_eq_or_imp]
    by_cases h : ndE c y = 0
    · rw [if_pos h, bad_zero (l := t)]; simp [h]
    · rw [if_neg h]; simp [h]
def chkE (c : Bool) (e : Ex) : Int := if 60 < cnt e then 6 else if 12 < dep e then 11 else bad c (pre e)
theorem chk_ok {c : Bool} {e : Ex} (h : chkE c e = 0) : cnt e ≤ 60 ∧ dep e ≤ 12 ∧ ∀ x ∈ pre e, ndE c x = 0 := by
  unfold chkE at h
  by_cases h1 : 60 < cnt e
  · rw [if_pos h1] at h; cases h
  by_cases h2 : 12 < dep e
  · rw [if_neg h1, if_pos h2] at h; cases h
  rw [if_neg h1, if_neg h2] at h
  exact ⟨by omega, by omega, bad_zero.1 h⟩
theorem chk_of {c : Bool} {e : Ex} (h1 : cnt e ≤ 60) (h2 : dep e ≤ 12) (h : ∀ x ∈ pre e, ndE c x = 0) : chkE c e = 0 := by
  unfold chkE
  rw [if_neg (by omega), if_neg (by omega)]
  exact bad_zero.2 h
theorem chk_kid {c : Bool} {o : Int} {s : ByteArray} {n : Int} {l : List Ex} {x : Ex} (hx : x ∈ l) (h : chkE c (.mk o s n l) = 0) : chkE c x = 0 := by
  obtain ⟨h1, h2, h3⟩ := chk_ok h
  have e1 := cnt_mem hx
  have e2 := dep_mem hx
  unfold cnt at h1
  unfold dep at h2
  exact chk_of (by omega) (by omega) fun y hy => h3 y (pre_kid hx hy)
mutual
def same : Ex → Ex → Bool
  | .mk o s n l, .mk o2 s2 n2 l2 => decide (o = o2) && decide (bs s = bs s2) && decide (n = n2) && sameL l l2
def sameL : List Ex → List Ex → Bool
  | [], [] => true
  | x :: t, y :: u => same x y && sameL t u
  | [], _ :: _ => false
  | _ :: _, [] => false
end
mutual
theorem same_eq : ∀ {a b : Ex}, same a b = true → a = b
  | .mk o s n l, .mk o2 s2 n2 l2, h => by
    unfold same at h
    simp only [Bool.and_eq_true, decide_eq_true_eq] at h
    obtain ⟨⟨⟨rfl, h1⟩, rfl⟩, h2⟩ := h
    rw [bs_inj h1, sameL_eq h2]
theorem sameL_eq : ∀ {a b : List Ex}, sameL a b = true → a = b
  | [], [], _ => rfl
  | x :: t, y :: u, h => by
    unfold sameL at h
    rw [Bool.and_eq_true] at h
    rw [same_eq h.1, sameL_eq h.2]
  | [], _ :: _, h => by unfold sameL at h; cases h
  | _ :: _, [], h => by unfold sameL at h; cases h
end
mutual
theorem same_self : ∀ a : Ex, same a a = true
  | .mk o s n l => by unfold same; simp [sameL_self l]
theorem sameL_self : ∀ a : List Ex, sameL a a = true
  | [] => by unfold sameL; rfl
  | x :: t => by unfold sameL; rw [same_self x, sameL_self t]; rfl
end
theorem same_of {a b : Ex} (h : a = b) : same a b = true := by rw [h]; exact same_self b
theorem same_iff {a b : Ex} : same a b = true ↔ a = b := ⟨same_eq, same_of⟩
theorem same_comm (a b : Ex) : same a b = same b a := by
  cases h : same b a with
  | true => exact same_of (same_eq h).symm
  | false =>
    cases g : same a b with
    | false => rfl
    | true => rw [same_of (same_eq g).symm] at h; cases h
theorem same_no {a b : Ex} (h : ¬ a = b) : same a b = false := by
  cases g : same a b with
  | false => rfl
  | true => exact absurd (same_eq g) h
theorem sameL_len : ∀ {a b : List Ex}, sameL a b = true → a.length = b.length := fun h => by rw [sameL_eq h]
/-- A node with a name in whose place another expression stands. -/
def hit (nm : ByteArray) (o : Int) (s : ByteArray) : Bool := decide (o = 3) && decide (bs s = bs nm)
mutual
def rep (nm : ByteArray) (y : Ex) : Ex → Ex
  | .mk o s n l => if hit nm o s then y else .mk o s n (repL nm y l)
def repL (nm : ByteArray) (y : Ex) : List Ex → List Ex
  | [] => []
  | x :: t => rep nm y x :: repL nm y t
end
theorem repL_len (nm : ByteArray) (y : Ex) : ∀ l : List Ex, (repL nm y l).length = l.length
  | [] => rfl
  | x :: t => by unfold repL; simp [repL_len nm y t]
theorem repL_app (nm : ByteArray) (y : Ex) : ∀ a b : List Ex, repL nm y (a ++ b) = repL nm y a ++ repL nm y b
  | [], b => rfl
  | x :: t, b => by simp only [List.cons_append, repL, repL_app nm y t b]
theorem repL_map (nm : ByteArray) (y : Ex) : ∀ l : List Ex, repL nm y l = l.map (rep nm y)
  | [] => rfl
  | x :: t => by simp only [repL, List.map_cons, repL_map nm y t]
theorem repL_take {nm : ByteArray} {y : Ex} {l : List Ex} {k : Nat} {x : Ex} (h : l[k]? = some x) : repL nm y (l.take (k + 1)) = repL nm y (l.take k) ++ [rep nm y x] := by rw [take_one h, repL_app]; rfl
mutual
def tim (nm : ByteArray) : Ex → Nat
  | .mk o s n l => if hit nm o s then 1 else timL nm l
def timL (nm : ByteArray) : List Ex → Nat
  | [] => 0
  | x :: t => tim nm x + timL nm t
end
theorem timL_app (nm : ByteArray) : ∀ a b : List Ex, timL nm (a ++ b) = timL nm a + timL nm b
  | [], b => by simp [timL]
  | x :: t, b => by simp only [List.cons_append, timL, timL_app nm t b]; omega
theorem timL_take {nm : ByteArray} {l : List Ex} {k : Nat} {x : Ex} (h : l[k]? = some x) : timL nm (l.take (k + 1)) = timL nm (l.take k) + tim nm x := by rw [take_one h, timL_app]; simp [timL]
mutual
def bar (nm : ByteArray) : Ex → Bool
  | .mk o s n l => !(hit nm o s && decide (0 < l.length)) && barL nm l
def barL (nm : ByteArray) : List Ex → Bool
  | [] => true
  | x :: t => bar nm x && barL nm t
end
theorem barL_app (nm : ByteArray) : ∀ a b : List Ex, barL nm (a ++ b) = (barL nm a && barL nm b)
  | [], b => by simp [barL]
  | x :: t, b => by simp only [List.cons_append, barL, barL_app nm t b, Bool.and_assoc]
theorem barL_take {nm : ByteArray} {l : List Ex} {k : Nat} {x : Ex} (h : l[k]? = some x) : barL nm (l.take (k + 1)) = (barL nm (l.take k) && bar nm x) := by rw [take_one h, barL_app]; simp [barL]
theorem barL_mem {nm : ByteArray} : ∀ {l : List Ex}, barL nm l = true ↔ ∀ x ∈ l, bar nm x = true
  | [] => by simp [barL]
  | y :: t => by simp only [barL, Bool.and_eq_true, List.mem_cons, forall_eq_or_imp, barL_mem (l := t)]
mutual
theorem tim_le (nm : ByteArray) : ∀ e : Ex, tim nm e ≤ cnt e
  | .mk o s n l => by
    unfold tim cnt
    have := timL_le nm l
    split <;> omega
theorem timL_le (nm : ByteArray) : ∀ l : List Ex, timL nm l ≤ cntL l
  | [] => Nat.le_refl _
  | x :: t => by
    unfold timL cntL
    have h1 := tim_le nm x
    have h2 := timL_le nm t
    omega
end
/-- Replaced nodes without parts: how the number of nodes grows. -/
theorem rep_cnt (nm : ByteArray) (y : Ex) (e : Ex) : bar nm e = true → cnt (rep nm y e) + tim nm e = cnt e + tim nm e * cnt y := by
  have key : ∀ l : List Ex, (∀ x ∈ l, bar nm x = true → cnt (rep nm y x) + tim nm x = cnt x + tim nm x * cnt y) → barL nm l = true → cntL (repL nm y l) + timL nm l = cntL l + timL nm l * cnt y := by
    intro l
    induction l with
    | nil => intro _ _; simp [repL, timL, cntL]
    | cons x t ih =>
      intro h hb
      unfold barL at hb
      rw [Bool.and_eq_true] at hb
      have h1 := h x List.mem_cons_self hb.1
      have h2 := ih (fun z hz => h z (List.mem_cons_of_mem _ hz)) hb.2
      simp only [repL, cntL, timL, Nat.add_mul]
      omega
  induction e using Ex.ind with
  | h o s n l ih =>
    intro hb
    unfold bar at hb
    simp only [Bool.and_eq_true, Bool.not_eq_true', Bool.and_eq_false_iff] at hb
    unfold rep tim
    by_cases g : hit nm o s = true
    · rw [if_pos g, if_pos g]
      have h0 : l = [] := by
        rcases hb.1 with h | h
        · rw [g] at h; cases h
        · have := of_decide_eq_false h
          exact List.length_eq_zero_iff.1 (by omega)
      subst h0
      simp only [cnt, cntL]
      omega
    · rw [if_neg g, if_neg g]
      simp only [cnt]
      have := key l ih hb.2
      omega
theorem rep_dep (nm : ByteArray) (y : Ex) (e : Ex) : dep (rep nm y e) ≤ dep e + dep y := by
  have key : ∀ l : List Ex, (∀ x ∈ l, dep (rep nm y x) ≤ dep x + dep y) → depL (repL nm y l) ≤ depL l + dep y := by
    intro l
    induction l with
    | nil => intro _; simp [repL, depL]
    | cons x t ih =>
      intro h
      have h1 := h x List.mem_cons_self
      have h2 := ih (fun z hz => h z (List.mem_cons_of_mem _ hz))
      simp only [repL, depL]
      omega
  induction e using Ex.ind with
  | h o s n l ih =>
    unfold rep
    by_cases g : hit nm o s = true
    · rw [if_pos g]; omega
    · rw [if_neg g]
      simp only [dep]
      have := key l ih
      omega
/-- No node with the name: nothing is replaced. -/
theorem rep_none (nm : ByteArray) (y : Ex) (e : Ex) : tim nm e = 0 → rep nm y e = e := by
  have key : ∀ l : List Ex, (∀ x ∈ l, tim nm x = 0 → rep nm y x = x) → timL nm l = 0 → repL nm y l = l := by
    intro l
    induction l with
    | nil => intro _ _; rfl
    | cons x t ih =>
      intro h h0
      unfold timL at h0
      have h1 := h x List.mem_cons_self (by omega)
      have h2 := ih (fun z hz => h z (List.mem_cons_of_mem _ hz)) (by omega)
      simp only [repL, h1, h2]
  induction e using Ex.ind with
  | h o s n l ih =>
    intro h0
    unfold tim at h0
    unfold rep
    by_cases g : hit nm o s = true
    · rw [if_pos g] at h0; cases h0
    · rw [if_neg g] at h0
      rw [if_neg g, key l ih h0]
/-- A name replaced by itself, where no node with it has a number or parts. -/
theorem rep_self (nm : ByteArray) (e : Ex) : (∀ x ∈ pre e, hit nm x.o x.s = true → x.n = 0 ∧ x.l = []) → rep nm (.mk 3 nm 0 []) e = e := by
  have key : ∀ l : List Ex, (∀ x ∈ l, rep nm (.mk 3 nm 0 []) x = x) → repL nm (.mk 3 nm 0 []) l = l := by
    intro l
    induction l with
    | nil => intro _; rfl
    | cons x t ih =>
      intro h
      simp only [repL, h x List.mem_cons_self, ih (fun z hz => h z (List.mem_cons_of_mem _ hz))]
  induction e using Ex.ind with
  | h o s n l ih =>
    intro h
    unfold rep
    by_cases g : hit nm o s = true
    · rw [if_pos g]
      obtain ⟨h1, h2⟩ := h _ (pre_self _) g
      unfold hit at g
      rw [Bool.and_eq_true, decide_eq_true_eq, decide_eq_true_eq] at g
      have h1' : n = 0 := h1
      have h2' : l = [] := h2
      rw [g.1, bs_inj g.2, h1', h2']
    · rw [if_neg g, key l fun x hx => ih x hx fun z hz => h z (pre_kid hx hz)]
/-- The nodes of a result: nodes of the other expression, or nodes of the one in which something is replaced, with other parts. -/
theorem rep_pre (nm : ByteArray) (y : Ex) (e : Ex) : ∀ x ∈ pre (rep nm y e), x ∈ pre y ∧ 0 < tim nm e ∨ ∃ z ∈ pre e, x.o = z.o ∧ x.s = z.s := by
  have key : ∀ l : List Ex, (∀ z ∈ l, ∀ x ∈ pre (rep nm y z), x ∈ pre y ∧ 0 < tim nm z ∨ ∃ u ∈ pre z, x.o = u.o ∧ x.s = u.s) → ∀ x ∈ preL (repL nm y l), x ∈ pre y ∧ 0 < timL nm l ∨ ∃ u ∈ preL l, x.o = u.o ∧ x.s = u.s := by
    intro l
    induction l with
    | nil => intro _ x hx; cases hx
    | cons z t ih =>
      intro h x hx
      simp only [repL, preL, List.mem_append, timL] at hx ⊢
      rcases hx with hx | hx
      · rcases h z List.mem_cons_self x hx with ⟨h1, h2⟩ | ⟨u, hu, h1⟩
        · exact .inl ⟨h1, by omega⟩
        · exact .inr ⟨u, .inl hu, h1⟩
      · rcases ih (fun z hz => h z (List.mem_cons_of_mem _ hz)) x hx with ⟨h1, h2⟩ | ⟨u, hu, h1⟩
        · exact .inl ⟨h1, by omega⟩
        · exact .inr ⟨u, .inr hu, h1⟩
  induction e using Ex.ind with
  | h o s n l ih =>
    intro x hx
    unfold rep at hx
    unfold tim
    by_cases g : hit nm o s = true
    · rw [if_pos g] at hx
      rw [if_pos g]
      exact .inl ⟨hx, by omega⟩
    · rw [if_neg g] at hx
      rw [if_neg g]
      unfold pre at hx
      rcases List.mem_cons.1 hx with rfl | hx
      · exact .inr ⟨_, pre_self _, rfl, rfl⟩
      · rcases key l ih x hx with h | ⟨u, hu, h1⟩
        · exact .inl h
        · refine .inr ⟨u, ?_, h1⟩
          unfold pre
          exact List.mem_cons_of_mem _ hu
end Go.Proofs.YtonlmnlpofgccaaGreat.Ex
