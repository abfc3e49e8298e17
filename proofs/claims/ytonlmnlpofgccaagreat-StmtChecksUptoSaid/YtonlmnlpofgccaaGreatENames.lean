/-
  Mathematics of lists of names: insertion into an increasing list, sorting and dropping what is there twice; the names of an expression.
-/
import Derived.Test.YtonlmnlpofgccaaGreatEMath
import Derived.Lib.SlicesCompact
import Derived.Lib.RowBridge
namespace Go.Proofs.YtonlmnlpofgccaaGreat.Ex
open Go.Proofs.YtonlmnlpofgccaaGreat.Na (bs bs_inj chk)
set_option linter.unusedVariables false
abbrev Nm := List UInt8
theorem nm_lt_of_le_of_ne {x y : Nm} (h : x ≤ y) (g : x ≠ y) : x < y := by
  rcases Classical.em (x < y) with h1 | h1
  · exact h1
  · exact absurd (List.le_antisymm h (List.not_lt.1 h1)) g
theorem nm_lt_of_le_of_lt {x y z : Nm} (h : x ≤ y) (g : y < z) : x < z := List.not_le.1 fun k => (List.not_le.2 g) (List.le_trans k h)
theorem nm_lt_trans {x y z : Nm} (h : x < y) (g : y < z) : x < z := List.lt_trans h g
theorem nm_tri {x y : Nm} (h : ¬ x < y) (g : x ≠ y) : y < x := nm_lt_of_le_of_ne (List.not_lt.1 h) (Ne.symm g)
theorem nm_asym {x y : Nm} (h : x < y) : ¬ y < x := List.lt_asymm h
theorem nm_ne {x y : Nm} (h : x < y) : x ≠ y := fun e => List.lt_irrefl _ (e ▸ h : y < y)
def Inc (l : List Nm) : Prop := l.Pairwise (· < ·)
theorem Inc.nodup {l : List Nm} (h : Inc l) : l.Nodup := h.imp nm_ne
theorem inc_unique {a b : List Nm} (ha : Inc a) (hb : Inc b) (h : ∀ x, x ∈ a ↔ x ∈ b) : a = b :=
  List.Perm.eq_of_pairwise (le := fun a b => a < b) (fun x y _ _ h1 h2 => absurd h2 (nm_asym h1)) ha hb ((List.perm_ext_iff_of_nodup ha.nodup hb.nodup).2 h)
/-- One round of an insertion: what has been written, and whether the new name is among it. -/
def insS (s : Nm) (q : List Nm × Bool) (x : Nm) : List Nm × Bool :=
  let r := if q.2 = false ∧ ¬ x < s then (q.1 ++ [s], true) else q
  if x = s then r else (r.1 ++ [x], r.2)
def insF (s : Nm) (l : List Nm) : List Nm × Bool := l.foldl (insS s) ([], false)
def ins (l : List Nm) (s : Nm) : List Nm := if (insF s l).2 then (insF s l).1 else (insF s l).1 ++ [s]
theorem insF_take {s : Nm} {l : List Nm} {k : Nat} (h : k < l.length) : insF s (l.take (k + 1)) = insS s (insF s (l.take k)) l[k] := by
  rw [take_snoc h]
  unfold insF
  rw [List.foldl_append]
  rfl
theorem insF_is (s : Nm) (l : List Nm) : Inc l → ((∀ x ∈ l, x < s) → insF s l = (l, false)) ∧ (¬ (∀ x ∈ l, x < s) → insF s l = (l.filter (fun x => decide (x < s)) ++ s :: l.filter (fun x => decide (s < x)), true)) := by
  have key : ∀ r : List Nm, Inc r.reverse → ((∀ x ∈ r.reverse, x < s) → insF s r.reverse = (r.reverse, false)) ∧ (¬ (∀ x ∈ r.reverse, x < s) → insF s r.reverse = (r.reverse.filter (fun x => decide (x < s)) ++ s :: r.reverse.filter (fun x => decide (s < x)), true)) := by
    intro r
    induction r with
    | nil => intro _; exact ⟨fun _ => rfl, fun h => absurd (fun x hx => by cases hx) h⟩
    | cons x t ih =>
      intro hI
      rw [List.reverse_cons] at hI ⊢
      have hI1 : Inc t.reverse := (List.pairwise_append.1 hI).1
      have hlt : ∀ y ∈ t.reverse, y < x := fun y hy => (List.pairwise_append.1 hI).2.2 y hy x List.mem_cons_self
      obtain ⟨h1, h2⟩ := ih hI1
      have hst : insF s (t.reverse ++ [x]) = insS s (insF s t.reverse) x := by unfold insF; rw [List.foldl_append]; rfl
      rw [hst]
      by_cases ha : ∀ y ∈ t.reverse, y < s
      · rw [h1 ha]
        have hf1 : t.reverse.filter (fun y => decide (y < s)) = t.reverse := List.filter_eq_self.2 fun y hy => decide_eq_true (ha y hy)
        have hf2 : t.reverse.filter (fun y => decide (s < y)) = [] := List.filter_eq_nil_iff.2 fun y hy => by simpa using List.not_lt.1 (nm_asym (ha y hy))
        by_cases hx : x < s
        · refine ⟨fun _ => ?_, fun h => absurd (fun y hy => ?_) h⟩
          · simp only [insS, hx, not_true_eq_false, and_false, if_false, if_neg (nm_ne hx)]
          · rcases List.mem_append.1 hy with hy | hy
            · exact ha y hy
            · rw [List.mem_singleton.1 hy]; exact hx
        · refine ⟨fun h => absurd (h x (by simp)) hx, fun _ => ?_⟩
          rw [List.filter_append, List.filter_append, hf1, hf2]
          by_cases he : x = s
          · subst he
            have hi : ¬ x < x := List.lt_irrefl _
            simp [insS]
          · have hg := nm_tri hx he
            simp [insS, hx, he, hg]
      · rw [h2 ha]
        obtain ⟨y, hy, hys⟩ : ∃ y, y ∈ t.reverse ∧ ¬ y < s := by
          rcases Classical.em (∃ y, y ∈ t.reverse ∧ ¬ y < s) with h | h
          · exact h
          · exact absurd (fun y hy => Classical.byContradiction fun hn => h ⟨y, hy, hn⟩) ha
        have hg : s < x := nm_lt_of_le_of_lt (List.not_lt.1 hys) (hlt y hy)
        have hx : ¬ x < s := nm_asym hg
        have he : ¬ x = s := fun e => nm_ne hg e.symm
        refine ⟨fun h => absurd (fun z hz => h z (List.mem_append_left _ hz)) ha, fun _ => ?_⟩
        rw [List.filter_append, List.filter_append]
        simp [insS, hx, he, hg]
  intro h
  have := key l.reverse (by rwa [List.reverse_reverse])
  rwa [List.reverse_reverse] at this
theorem ins_is {s : Nm} {l : List Nm} (h : Inc l) : ins l s = l.filter (fun x => decide (x < s)) ++ s :: l.filter (fun x => decide (s < x)) := by
  obtain ⟨h1, h2⟩ := insF_is s l h
  unfold ins
  by_cases ha : ∀ y ∈ l, y < s
  · have hf1 : l.filter (fun y => decide (y < s)) = l := List.filter_eq_self.2 fun y hy => decide_eq_true (ha y hy)
    have hf2 : l.filter (fun y => decide (s < y)) = [] := List.filter_eq_nil_iff.2 fun y hy => by simpa using List.not_lt.1 (nm_asym (ha y hy))
    rw [h1 ha, hf1, hf2]
    simp
  · rw [h2 ha]
    simp
theorem mem_ins {s x : Nm} {l : List Nm} (h : Inc l) : x ∈ ins l s ↔ x = s ∨ x ∈ l := by
  rw [ins_is h]
  simp only [List.mem_append, List.mem_filter, List.mem_cons, decide_eq_true_eq]
  constructor
  · rintro (⟨h1, -⟩ | h1 | ⟨h1, -⟩)
    · exact .inr h1
    · exact .inl h1
    · exact .inr h1
  · rintro (h1 | h1)
    · exact .inr (.inl h1)
    · by_cases g : x < s
      · exact .inl ⟨h1, g⟩
      · by_cases e : x = s
        · exact .inr (.inl e)
        · exact .inr (.inr ⟨h1, nm_tri g e⟩)
theorem inc_ins {s : Nm} {l : List Nm} (h : Inc l) : Inc (ins l s) := by
  rw [ins_is h]
  refine List.pairwise_append.2 ⟨h.filter _, List.pairwise_cons.2 ⟨fun y hy => ?_, h.filter _⟩, fun x hx y hy => ?_⟩
  · simpa using (List.mem_filter.1 hy).2
  · have hx : x < s := by simpa using (List.mem_filter.1 hx).2
    rcases List.mem_cons.1 hy with rfl | hy
    · exact hx
    · exact nm_lt_trans hx (by simpa using (List.mem_filter.1 hy).2)
theorem ins_old {s : Nm} {l : List Nm} (h : Inc l) (hs : s ∈ l) : ins l s = l :=
  inc_unique (inc_ins h) h fun x => by
    rw [mem_ins h]
    exact ⟨fun g => g.elim (fun e => by rw [e]; exact hs) id, .inr⟩
def wt (q : List Nm × Bool) : Nat := q.1.length + (match q.2 with | true => 0 | false => 1)
theorem wt_step (s : Nm) (q : List Nm × Bool) (x : Nm) : wt (insS s q x) ≤ wt q + 1 := by
  obtain ⟨q1, q2⟩ := q
  unfold insS
  by_cases g : x < s <;> by_cases e : x = s <;> cases q2 <;> simp [wt, g, e] <;> omega
theorem wt_fold (s : Nm) : ∀ (l : List Nm) (q : List Nm × Bool), wt (l.foldl (insS s) q) ≤ wt q + l.length
  | [], q => Nat.le_refl _
  | x :: t, q => by
    have h1 := wt_fold s t (insS s q x)
    have h2 := wt_step s q x
    simp only [List.foldl_cons, List.length_cons]
    omega
theorem ins_len (l : List Nm) (s : Nm) : (ins l s).length ≤ l.length + 1 := by
  have h : wt (insF s l) ≤ 1 + l.length := wt_fold s l ([], false)
  unfold ins
  revert h
  obtain ⟨q1, q2⟩ := insF s l
  intro h
  cases q2
  · have h' : q1.length + 1 ≤ 1 + l.length := h
    simp
    omega
  · have h' : q1.length + 0 ≤ 1 + l.length := h
    simp
    omega
/-- Names inserted one after the other. -/
def insA (acc l : List Nm) : List Nm := l.foldl ins acc
theorem insA_app (acc a b : List Nm) : insA acc (a ++ b) = insA (insA acc a) b := List.foldl_append
theorem insA_len : ∀ (l acc : List Nm), (insA acc l).length ≤ acc.length + l.length
  | [], acc => Nat.le_refl _
  | x :: t, acc => by
    have h1 := insA_len t (ins acc x)
    have h2 := ins_len acc x
    simp only [insA, List.foldl_cons, List.length_cons] at h1 ⊢
    omega
theorem insA_inc : ∀ {l acc : List Nm}, Inc acc → Inc (insA acc l) ∧ ∀ x, x ∈ insA acc l ↔ x ∈ acc ∨ x ∈ l
  | [], acc, h => ⟨h, fun x => by simp [insA]⟩
  | y :: t, acc, h => by
    obtain ⟨h1, h2⟩ := insA_inc (l := t) (inc_ins (s := y) h)
    refine ⟨h1, fun x => ?_⟩
    have := h2 x
    simp only [insA, List.foldl_cons] at this ⊢
    rw [this, mem_ins h, List.mem_cons]
    constructor
    · rintro ((h | h) | h)
      · exact .inr (.inl h)
      · exact .inl h
      · exact .inr (.inr h)
    · rintro (h | h | h)
      · exact .inl (.inr h)
      · exact .inl (.inl h)
      · exact .inr h
theorem insA_take {acc l : List Nm} {k : Nat} (h : k < l.length) : insA acc (l.take (k + 1)) = ins (insA acc (l.take k)) l[k] := by rw [take_snoc h, insA_app]; rfl
theorem inc_nil : Inc [] := List.Pairwise.nil
theorem compact_inc (zs : List Nm) (h : zs.Pairwise (fun a b => a ≤ b)) : Inc (Lib.compact zs) ∧ ∀ x, x ∈ Lib.compact zs ↔ x ∈ zs := by
  have hget : ∀ j, (hj : j < zs.length) → zs.toArray[j]! = zs[j] := fun j hj => by simp [hj]
  have key : ∀ m, m ≤ zs.length → Inc (Lib.compactUpTo zs.toArray m) ∧ ∀ x, x ∈ Lib.compactUpTo zs.toArray m ↔ ∃ j, ∃ hj : j < zs.length, j < m ∧ zs[j] = x := by
    intro m
    induction m with
    | zero => intro _; exact ⟨List.Pairwise.nil, fun x => by simp [Lib.compactUpTo]⟩
    | succ m ih =>
      intro hm
      obtain ⟨h1, h2⟩ := ih (by omega)
      rw [Lib.compactUpTo_succ]
      by_cases hk : Lib.keeps zs.toArray m = true
      · rw [if_pos hk]
        have hk' : m = 0 ∨ zs.toArray[m]! ≠ zs.toArray[m - 1]! := by simpa [Lib.keeps] using hk
        refine ⟨List.pairwise_append.2 ⟨h1, List.pairwise_singleton _ _, fun y hy z hz => ?_⟩, fun x => ?_⟩
        · rw [List.mem_singleton] at hz
          subst hz
          obtain ⟨j, hj, hjm, rfl⟩ := (h2 y).1 hy
          have hm1 : zs.toArray[m]! ≠ zs.toArray[m - 1]! := hk'.resolve_left (by omega)
          rw [hget m (by omega), hget (m - 1) (by omega)] at hm1
          rw [hget m (by omega)]
          have hlt : zs[m - 1] < zs[m] := nm_lt_of_le_of_ne (List.pairwise_iff_getElem.1 h (m - 1) m (by omega) (by omega) (by omega)) (Ne.symm hm1)
          by_cases hje : j = m - 1
          · subst hje; exact hlt
          · exact nm_lt_of_le_of_lt (List.pairwise_iff_getElem.1 h j (m - 1) (by omega) (by omega) (by omega)) hlt
        · rw [List.mem_append, h2, List.mem_singleton, hget m (by omega)]
          constructor
          · rintro (⟨j, hj, hjm, e⟩ | e)
            · exact ⟨j, hj, by omega, e⟩
            · exact ⟨m, by omega, by omega, e.symm⟩
          · rintro ⟨j, hj, hjm, e⟩
            by_cases hje : j = m
            · subst hje; exact .inr e.symm
            · exact .inl ⟨j, hj, by omega, e⟩
      · rw [if_neg hk, List.append_nil]
        have hk' : ¬ (m = 0 ∨ zs.toArray[m]! ≠ zs.toArray[m - 1]!) := by simpa [Lib.keeps] using hk
        have hm0 : ¬ m = 0 := fun e => hk' (.inl e)
        have he : zs.toArray[m]! = zs.toArray[m - 1]! := Classical.byContradiction fun e => hk' (.inr e)
        rw [hget m (by omega), hget (m - 1) (by omega)] at he
        refine ⟨h1, fun x => ?_⟩
        rw [h2]
        constructor
        · rintro ⟨j, hj, hjm, e⟩; exact ⟨j, hj, by omega, e⟩
        · rintro ⟨j, hj, hjm, e⟩
          by_cases hje : j = m
          · subst hje; exact ⟨j - 1, by omega, by omega, by rw [← he]; exact e⟩
          · exact ⟨j, hj, by omega, e⟩
  obtain ⟨h1, h2⟩ := key zs.length (Nat.le_refl _)
  refine ⟨h1, fun x => (h2 x).trans ?_⟩
  rw [List.mem_iff_getElem]
  exact ⟨fun ⟨j, hj, _, e⟩ => ⟨j, hj, e⟩, fun ⟨j, hj, e⟩ => ⟨j, hj, hj, e⟩⟩
def srt (l : List Nm) : List Nm := Lib.compact (l.mergeSort fun x y => decide (x ≤ y))
theorem srt_inc (l : List Nm) : Inc (srt l) ∧ ∀ x, x ∈ srt l ↔ x ∈ l := by
  have tr : ∀ a b c : Nm, decide (a ≤ b) = true → decide (b ≤ c) = true → decide (a ≤ c) = true := fun a b c h1 h2 => by simp only [decide_eq_true_eq] at *; exact List.le_trans h1 h2
  have to : ∀ a b : Nm, (decide (a ≤ b) || decide (b ≤ a)) = true := fun a b => by simp only [Bool.or_eq_true, decide_eq_true_eq]; exact List.le_total a b
  have hp := List.pairwise_mergeSort tr to l
  obtain ⟨h1, h2⟩ := compact_inc (l.mergeSort fun x y => decide (x ≤ y)) (hp.imp fun h => of_decide_eq_true h)
  exact ⟨h1, fun x => (h2 x).trans (List.mergeSort_perm l _).mem_iff⟩
/-- Sorting once is inserting one after the other. -/
theorem srt_ins (l : List Nm) : srt l = insA [] l := by
  obtain ⟨h1, h2⟩ := srt_inc l
  obtain ⟨h3, h4⟩ := insA_inc (l := l) inc_nil
  exact inc_unique h1 h3 fun x => by rw [h2, h4]; simp
/-- The names that are not empty, in the order of the nodes. -/
def says : List Ex → List Nm
  | [] => []
  | x :: t => if bs x.s = [] then says t else bs x.s :: says t
theorem says_app : ∀ a b : List Ex, says (a ++ b) = says a ++ says b
  | [], b => rfl
  | x :: t, b => by
    simp only [List.cons_append, says]
    split
    · exact says_app t b
    · rw [says_app t b]; rfl
theorem says_len : ∀ l : List Ex, (says l).length ≤ l.length
  | [] => Nat.le_refl _
  | x :: t => by
    have := says_len t
    simp only [says]
    split <;> simp only [List.length_cons] <;> omega
theorem mem_says : ∀ {l : List Ex} {y : Nm}, y ∈ says l ↔ ∃ x ∈ l, bs x.s = y ∧ ¬ y = []
  | [], y => by simp [says]
  | x :: t, y => by
    simp only [says]
    by_cases h : bs x.s = []
    · rw [if_pos h, mem_says (l := t)]
      constructor
      · rintro ⟨z, hz, e, hn⟩; exact ⟨z, List.mem_cons_of_mem _ hz, e, hn⟩
      · rintro ⟨z, hz, e, hn⟩
        rcases List.mem_cons.1 hz with rfl | hz
        · exact absurd (e ▸ h) hn
        · exact ⟨z, hz, e, hn⟩
    · rw [if_neg h, List.mem_cons, mem_says (l := t)]
      constructor
      · rintro (rfl | ⟨z, hz, e, hn⟩)
        · exact ⟨x, List.mem_cons_self, rfl, h⟩
        · exact ⟨z, List.mem_cons_of_mem _ hz, e, hn⟩
      · rintro ⟨z, hz, e, hn⟩
        rcases List.mem_cons.1 hz with rfl | hz
        · exact .inl e.symm
        · exact .inr ⟨z, hz, e, hn⟩
/-- The names of the nodes that have one by their form. -/
def tells : List Ex → List Nm
  | [] => []
  | x :: t => if named false x.o then bs x.s :: tells t else tells t
theorem tells_app : ∀ a b : List Ex, tells (a ++ b) = tells a ++ tells b
  | [], b => rfl
  | x :: t, b => by
    simp only [List.cons_append, tells]
    split
    · rw [tells_app t b]; rfl
    · exact tells_app t b
/-- What Names of package expr returns. -/
def namesE (e : Ex) : List Nm := if chkE false e = 0 then srt (says (pre e)) else []
end Go.Proofs.YtonlmnlpofgccaaGreat.Ex
