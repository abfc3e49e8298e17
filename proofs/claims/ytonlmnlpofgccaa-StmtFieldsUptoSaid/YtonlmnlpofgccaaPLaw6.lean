/-
  The law of Fields.
-/
import Derived.Test.YtonlmnlpofgccaaPLaw5
import Derived.Test.YtonlmnlpofgccaaPApp
namespace Go.Proofs.Ytonlmnlpofgccaa.Sm
open Go.RowKit
open Go.Proofs.Ytonlmnlpofgccaa.Na (bs bs_inj chk)
open Go.Proofs.Ytonlmnlpofgccaa.Ex (Ex Nm Kin In Sz Lo Gives bl_alloc bl_drewN bl_drew bl_set bl_call block_lt chkE)
attribute [local go_sem] cs0 cs1 cs2 cs3 cs4 cs5 cs6 cs7 cs8 cs9 cs10 cs11 cs12 cs13 cs14 cs15 cs16 cs17 cs18 cs19 cs20
set_option maxHeartbeats 2000000
set_option linter.unusedVariables false
theorem set_at {l : List St} {k : Nat} (hk : k < l.length) (y : St) : l.set k y = l.take k ++ y :: l.drop (k + 1) := List.set_eq_take_append_cons_drop.trans (if_pos hk)
theorem get_at {l : List St} {k : Nat} (hk : k < l.length) : l = l.take k ++ l[k] :: l.drop (k + 1) := by rw [List.getElem_cons_drop, List.take_append_drop]
theorem cn_eq {x y : St} (h1 : y.bo = x.bo) (h2 : y.el = x.el) : cn y = cn x := by rw [cn_one, cn_one, h1, h2]
theorem dp_eq {x y : St} (h1 : y.bo = x.bo) (h2 : y.el = x.el) : dp y = dp x := by rw [dp_one, dp_one, h1, h2]
theorem set_chk {l : List St} {k : Nat} (hk : k < l.length) (h : chkL l = 0) {y : St} (h1 : y.bo = l[k].bo) (h2 : y.el = l[k].el) (h3 : oneE y = 1) : chkL (l.set k y) = 1 := by
  obtain ⟨c1, c2, c3⟩ := chkL_ok h
  have e1 : cnL (l.set k y) = cnL l := by
    conv => rhs; rw [get_at hk]
    rw [set_at hk, cnL_app, cnL_app, cnL_cons, cnL_cons, cn_eq h1 h2]
  have e2 : dpL (l.set k y) = dpL l := by
    conv => rhs; rw [get_at hk]
    rw [set_at hk, dpL_app, dpL_app, dpL_cons, dpL_cons, dp_eq h1 h2]
  unfold chkL
  rw [e1, e2, if_neg (by omega), if_neg (by omega), set_at hk, ordL_app, ordL_cons, ord_one, List.cons_append]
  have hb : badS (ordL (l.take k)) = 0 := badS_zero.2 fun x hx => c3 x (by
    obtain ⟨z, hz, hxz⟩ := ordL_mem' hx
    exact ordL_mem (List.mem_of_mem_take hz) hxz)
  rw [badS_stop hb (by rw [h3]; decide)]
  exact h3
theorem set_sz {l : List St} {k : Nat} (hk : k < l.length) (h : SzL l) {y : St} (h1 : y.bo = l[k].bo) (h2 : y.el = l[k].el) (h3 : SzS y) : SzL (l.set k y) := fun x hx => by
  rw [set_at hk, ordL_app, ordL_cons, ord_one] at hx
  rcases List.mem_append.1 hx with hx | hx
  · obtain ⟨z, hz, hxz⟩ := ordL_mem' hx
    exact h x (ordL_mem (List.mem_of_mem_take hz) hxz)
  · rcases List.mem_append.1 hx with hx | hx
    · rcases List.mem_cons.1 hx with rfl | hx
      · exact h3
      · rw [h1, h2] at hx
        refine h x (ordL_mem (List.getElem_mem hk) ?_)
        rw [ord_one]
        exact List.mem_cons_of_mem _ hx
    · obtain ⟨z, hz, hxz⟩ := ordL_mem' hx
      exact h x (ordL_mem (List.mem_of_mem_drop hz) hxz)
theorem one_frm {x : St} (h : frm x = false) : oneE x = 1 := by unfold oneE; rw [h, Bool.and_false]; rfl
abbrev wFl (x : St) : St := .mk x.o x.nm x.f x.e x.g x.ar x.di true x.bo x.el
abbrev wF (x : St) : St := .mk x.o x.nm tA x.e x.g x.ar x.di x.fl x.bo x.el
abbrev wG (x : St) : St := .mk x.o x.nm x.f x.e (num 1) x.ar x.di x.fl x.bo x.el
abbrev wD (x : St) : St := .mk x.o x.nm x.f x.e x.g x.ar ⟨1, 0, 0, 0, [], []⟩ x.fl x.bo x.el
theorem one_split {x : St} (h : oneE x = 0) : restE x = 0 := by
  unfold oneE at h
  by_cases hg : (kn x.o && frm x) = true
  · rw [if_pos hg] at h; exact h
  · rw [if_neg hg] at h; cases h
theorem frm_fl {x : St} (hu : uG x.o = false) (h : x.fl = true) : frm x = false := by unfold frm; rw [hu, h]; simp
theorem frm_f {x : St} (hu : uO x.o = false) (h : decide (bs x.f = []) = false) : frm x = false := by unfold frm; rw [hu, h]; simp
theorem frm_g {x : St} (hu : uF x.o = false) (h : Ex.same x.g zE = false) : frm x = false := by unfold frm; rw [hu, h]; simp
theorem frm_d {x : St} (hu : uD x.o = false) (h : sameDt x.di zD = false) : frm x = false := by unfold frm; rw [hu, h]; simp
theorem one_fl {x : St} (h : ¬ x.o = 6) : oneE (wFl x) = 1 := by
  exact one_frm (frm_fl (x := wFl x) (decide_eq_false h) rfl)
theorem one_f {x : St} (h0 : oneE x = 0) (h : bs x.f = []) : oneE (wF x) = 1 := by
  have hr := one_split h0
  unfold restE at hr
  simp only [orE_zero] at hr
  have h2 := hr.2.1
  refine one_frm ?_
  have hu : uO x.o = false := by
    cases g : uO x.o with
    | false => rfl
    | true =>
      rw [g] at h2
      rw [h] at h2
      exact absurd h2 (by decide)
  exact frm_f (x := wF x) hu (show decide (bs tA = []) = false by decide)
theorem one_g {x : St} (h0 : oneE x = 0) (h : x.g.o = 0) : oneE (wG x) = 1 := by
  have hr := one_split h0
  unfold restE at hr
  simp only [orE_zero] at hr
  have h2 := hr.2.2.2.1
  refine one_frm ?_
  have hu : uF x.o = false := by
    cases g : uF x.o with
    | false => rfl
    | true =>
      rw [g] at h2
      exfalso
      have h3 : chkE false x.g = 0 := h2
      have h4 := (Ex.chk_ok h3).2.2 _ (Ex.pre_self _)
      revert h4
      unfold Ex.ndE Ex.nd
      rw [h, show Ex.badF false 0 (bs x.g.s) x.g.n x.g.l.length = true by unfold Ex.badF; rw [show Ex.known false 0 = false by decide]; rfl, if_pos rfl]
      decide
  exact frm_g (x := wG x) hu (show Ex.same (num 1) zE = false by decide)
theorem one_d {x : St} (h0 : oneE x = 0) (h : x.di.op = 0) : oneE (wD x) = 1 := by
  have hr := one_split h0
  unfold restE at hr
  simp only [orE_zero] at hr
  have h2 := hr.2.2.2.2.2
  refine one_frm ?_
  have hu : uD x.o = false := by
    cases g : uD x.o with
    | false => rfl
    | true =>
      rw [g] at h2
      exfalso
      have h3 : dtE x.di = 0 := h2
      revert h3
      unfold dtE Di.errD Di.errW
      rw [h, show Di.unB 0 x.di.a x.di.b x.di.n x.di.vs.length x.di.ws.length = false by unfold Di.unB; rw [if_neg (by decide), if_neg (by decide), if_neg (by decide), if_neg (by decide), if_neg (by decide)]]
      intro h4
      cases h4
  exact frm_d (x := wD x) hu (show sameDt ⟨1, 0, 0, 0, [], []⟩ zD = false by decide)
theorem put_lin {w w5 : World} {base g n cap : Nat} {L : List (St × Pl)} (hown : OwnS w base (.slice (some ⟨g, 0, none⟩) n cap) n L) (hn : n ≤ 1000000) {k : Nat} (hk : k < L.length) {y : St} {Q : Pl} (hg : g < w5.heap.size) (hoth : ∀ j, (∀ r, r < 21 → j ≠ k * 21 + r) → w5.cell? ⟨g, j, none⟩ = w.cell? ⟨g, j, none⟩) (hc : cell21 w5 g (k * 21) y Q) (hs : ∀ q ∈ L, SIn w5 q.1 q.2) (hy : SIn w5 y Q) : LIn w5 ((L.map (·.1)).set k y) (some ⟨g, 0, none⟩) n := by
  have hL : L.length = n := by have := hown.1; rw [flatS_len] at this; omega
  refine ⟨by rw [List.length_set, List.length_map]; exact hL, by omega, .inr ⟨g, 0, rfl, hg, hg, Lib.hid fun i hi => ?_⟩⟩
  have hi' : i < L.length := by simpa using hi
  by_cases hik : i = k
  · subst hik
    refine ⟨Q, ?_, ?_⟩
    · rw [List.getElem_set_self, Nat.zero_add]; exact hc
    · rw [List.getElem_set_self]; exact hy
  · have hki : k ≠ i := fun h => hik h.symm
    refine ⟨L[i].2, fun r u hu => ?_, ?_⟩
    · rw [List.getElem_set_ne hki] at hu
      have hr : r < 21 := by have := (Array.getElem?_eq_some_iff.1 hu).1; rwa [cs_size] at this
      rw [Nat.zero_add, hoth (i * 21 + r) (fun r' hr' => by omega), hown.cellAt (i * 21 + r) (by omega), flatS_get hi' hr, ← hu]
      simp
    · rw [List.getElem_set_ne hki]
      simp only [List.getElem_map]
      exact hs _ (List.getElem_mem hi')
/-- Stores one behind the other. -/
def putN (g : Nat) : World → Nat → List Value → World
  | w, _, [] => w
  | w, o, v :: t => putN g (w.setCell ⟨g, o, none⟩ v) (o + 1) t
theorem putN_size {g : Nat} : ∀ {vs : List Value} {w : World} {o : Nat}, (putN g w o vs).heap.size = w.heap.size
  | [], w, o => rfl
  | v :: t, w, o => by rw [putN, putN_size, World.size_setCell]
theorem putN_far {g : Nat} {a : Addr} : ∀ {vs : List Value} {w : World} {o : Nat}, (∀ i, i < vs.length → (⟨g, o + i, none⟩ : Addr) ≠ a) → (putN g w o vs).cell? a = w.cell? a
  | [], w, o, _ => rfl
  | v :: t, w, o, h => by
    rw [putN, putN_far fun i hi => by have := h (i + 1) (by simpa using hi); rwa [show o + (i + 1) = o + 1 + i by omega] at this]
    exact World.cell?_setCell_other w _ _ v (h 0 (by simp))
theorem putN_at {g : Nat} : ∀ {vs : List Value} {w : World} {o : Nat}, (∀ i, i < vs.length → (w.cell? ⟨g, o + i, none⟩).isSome = true) → ∀ i, i < vs.length → (putN g w o vs).cell? ⟨g, o + i, none⟩ = vs[i]?
  | [], w, o, _, i, hi => absurd hi (Nat.not_lt_zero _)
  | v :: t, w, o, h, 0, hi => by
    rw [putN, putN_far fun i hi e => by injection e with e1 e2; omega]
    exact World.cell?_setCell_same' _ _ _ (h 0 (by simp))
  | v :: t, w, o, h, i + 1, hi => by
    rw [putN, show o + (i + 1) = o + 1 + i by omega, putN_at (fun j hj => ?_) i (by simpa using hi)]
    · rfl
    · rw [World.cell?_setCell_other w _ _ v (by intro e; injection e with e1 e2; omega)]
      have := h (j + 1) (by simpa using hj)
      rwa [show o + (j + 1) = o + 1 + j by omega] at this
theorem putN_below {B : Nat} {a : World} {g : Nat} (hg : B ≤ g) : ∀ {vs : List Value} {w : World} {o : Nat}, Below B a w → Below B a (putN g w o vs)
  | [], w, o, h => h
  | v :: t, w, o, h => by rw [putN]; exact putN_below hg (h.setCell (p := ⟨g, o, none⟩) hg v)
abbrev gV : List Value := [.int .i64 1, .string ⟨#[]⟩, .int .i64 1, .slice none 0 0]
abbrev dV : List Value := [.int .i64 1, .int .i64 0, .int .i64 0, .int .i64 0, .slice none 0 0, .slice none 0 0]
abbrev plG (P : Pl) : Pl := { P with gp := none, gm := 0, gc := 0 }
abbrev plD (P : Pl) : Pl := { P with vp := none, vm := 0, vc := 0, wp := none, wm := 0, wc := 0 }
def gA : Array Value := gV.toArray
def dA : Array Value := dV.toArray
theorem st_mid {w : World} {g o : Nat} {A : Array Value} (ht : w.there g o A.size) (h1 : A.all (·.oneCell') = true) : (storeCells ⟨g, o, none⟩ A.toList 0).run Try.prog w = .ok () (w.setCells g o A.toList) := by
  have := run_storeCells_cells (P := Try.prog) g o A.toList 0 w (fun j hj => by simpa using (ht j (by simpa using hj)).1) (fun j hj => by simpa using (ht j (by simpa using hj)).2)
    (fun v hv => (Array.all_eq_true_iff_forall_mem.1 h1) v (by simpa using hv))
  simpa using this
theorem gA_one : gA.all (·.oneCell') = true := by unfold gA; simp [gV, Value.oneCell']
theorem dA_one : dA.all (·.oneCell') = true := by unfold dA; simp [dV, Value.oneCell']
theorem number1 (w : World) : Calls Try.prog 22 #[.int .i64 1] w (Gives (.agg gA) w) := number_any 1 w
theorem sin_fl {w : World} {x : St} {P : Pl} (h : SIn w x P) : SIn w (wFl x) P := (sin_iff (x := wFl x)).2 ((sin_iff (x := x)).1 h)
theorem sin_f {w : World} {x : St} {P : Pl} (h : SIn w x P) : SIn w (wF x) P := (sin_iff (x := wF x)).2 ((sin_iff (x := x)).1 h)
theorem putN_eq {g : Nat} : ∀ {vs : List Value} {w : World} {o : Nat}, putN g w o vs = w.setCells g o vs
  | [], w, o => rfl
  | v :: t, w, o => by rw [putN, putN_eq]; rfl
theorem e_info : (Try.prog.info? 41).map (·.size) = some 4 := by kernel_rfl
theorem d_info : (Try.prog.info? 45).map (·.size) = some 6 := by kernel_rfl
theorem cell_there {w : World} {g k i n q : Nat} {x : St} {P : Pl} (h : cell21 w g (k * n) x P) (hf : ∀ o, w.frozen? ⟨g, o, none⟩ = false) (hi : i + q ≤ 21) : w.there g (k * n + i) q := fun j hj => ⟨by
  have := h (i + j) _ (Array.getElem?_eq_getElem (show i + j < (cs x P).size by rw [cs_size]; omega))
  rw [Nat.add_assoc, this]
  rfl, hf _⟩
theorem sin_g {w : World} {x : St} {P : Pl} (h : SIn w x P) : SIn w (wG x) (plG P) := by
  obtain ⟨⟨h1, h2, h3, h4, h5⟩, h6, h7⟩ := sin_iff.1 h
  exact sin_iff.2 ⟨⟨h1, Ex.Kin.zero, h3, h4, h5⟩, h6, h7⟩
theorem sin_d {w : World} {x : St} {P : Pl} (h : SIn w x P) : SIn w (wD x) (plD P) := by
  obtain ⟨⟨h1, h2, h3, h4, h5⟩, h6, h7⟩ := sin_iff.1 h
  exact sin_iff.2 ⟨⟨h1, h2, h3, ints_nil, ints_nil⟩, h6, h7⟩
theorem szs_f {x : St} (h : SzS x) : SzS (wF x) := ⟨h.1, (by decide : tA.size ≤ 140737488355328), h.2.2⟩
theorem szs_g {x : St} (h : SzS x) : SzS (wG x) := by
  have h0 : SzS sSeize := sz_l sSeize (by rw [ordL_cons, ord_one]; exact List.mem_cons_self)
  exact ⟨h.1, h.2.1, h.2.2.1, by
    exact ⟨fun y hy => by
    have := List.mem_singleton.1 (show y ∈ [num 1] from hy)
    subst this
    decide, (by decide : Ex.cnt (num 1) ≤ 1000000)⟩, h.2.2.2.2⟩
/-- A field of a statement of the row is stored into. -/
theorem field_lin {w w4 : World} {base g n cap N : Nat} {L : List (St × Pl)} (hown : OwnS w base (.slice (some ⟨g, 0, none⟩) n cap) n L) (hn : n ≤ 1000000) {k : Nat} (hk : k < L.length) (hN : 21 = N) {x y : St} {P Q : Pl} (hb : w4.heap[g]? = w.heap[g]?) (hg : g < w4.heap.size) (hx : cell21 w g (k * 21) x P) {i : Nat} {vs : List Value} (hi : i + vs.length ≤ 21)
    (hsub : ∀ r, r < 21 → (cs y Q)[r]? = if i ≤ r ∧ r < i + vs.length then vs[r - i]? else (cs x P)[r]?) (hs : ∀ q ∈ L, SIn (putN g w4 (k * N + i) vs) q.1 q.2) (hy : SIn (putN g w4 (k * N + i) vs) y Q) : LIn (putN g w4 (k * N + i) vs) ((L.map (·.1)).set k y) (some ⟨g, 0, none⟩) n := by
  subst hN
  have old : ∀ j, w4.cell? ⟨g, j, none⟩ = w.cell? ⟨g, j, none⟩ := fun j => World.cell?_of_block (w := w) (a := ⟨g, j, none⟩) hb
  have hxr : ∀ r, r < 21 → ∃ u, (cs x P)[r]? = some u := fun r hr => ⟨_, Array.getElem?_eq_getElem (by rw [cs_size]; exact hr)⟩
  refine put_lin hown hn hk (by rw [putN_size]; exact hg) (fun j hj => ?_) (fun r u hu => ?_) hs hy
  · rw [putN_far fun q hq e => by injection e with e1 e2; exact hj (i + q) (by omega) (by omega)]
    exact old j
  · have hr : r < 21 := by have := (Array.getElem?_eq_some_iff.1 hu).1; rwa [cs_size] at this
    rw [hsub r hr] at hu
    by_cases hc : i ≤ r ∧ r < i + vs.length
    · rw [if_pos hc] at hu
      rw [show k * 21 + r = k * 21 + i + (r - i) by omega, putN_at (fun q hq => ?_) (r - i) (by omega)]
      · exact hu
      · obtain ⟨u', hu'⟩ := hxr (i + q) (by omega)
        rw [Nat.add_assoc, old, hx _ _ hu']
        rfl
    · rw [if_neg hc] at hu
      rw [putN_far fun q hq e => by injection e with e1 e2; omega]
      rw [old]
      exact hx r u hu
theorem sub_fl (x : St) (P : Pl) : ∀ r, r < 21 → (cs (wFl x) P)[r]? = if 18 ≤ r ∧ r < 18 + [Value.bool true].length then [Value.bool true][r - 18]? else (cs x P)[r]? := fun r hr => match r, hr with | 0, _ => rfl | 1, _ => rfl | 2, _ => rfl | 3, _ => rfl | 4, _ => rfl | 5, _ => rfl | 6, _ => rfl | 7, _ => rfl | 8, _ => rfl | 9, _ => rfl | 10, _ => rfl | 11, _ => rfl | 12, _ => rfl | 13, _ => rfl | 14, _ => rfl | 15, _ => rfl | 16, _ => rfl | 17, _ => rfl | 18, _ => rfl | 19, _ => rfl | 20, _ => rfl | n + 21, h => absurd h (by omega)
theorem sub_f (x : St) (P : Pl) : ∀ r, r < 21 → (cs (wF x) P)[r]? = if 2 ≤ r ∧ r < 2 + [Value.string tA].length then [Value.string tA][r - 2]? else (cs x P)[r]? := fun r hr => match r, hr with | 0, _ => rfl | 1, _ => rfl | 2, _ => rfl | 3, _ => rfl | 4, _ => rfl | 5, _ => rfl | 6, _ => rfl | 7, _ => rfl | 8, _ => rfl | 9, _ => rfl | 10, _ => rfl | 11, _ => rfl | 12, _ => rfl | 13, _ => rfl | 14, _ => rfl | 15, _ => rfl | 16, _ => rfl | 17, _ => rfl | 18, _ => rfl | 19, _ => rfl | 20, _ => rfl | n + 21, h => absurd h (by omega)
theorem sub_g (x : St) (P : Pl) : ∀ r, r < 21 → (cs (wG x) (plG P))[r]? = if 7 ≤ r ∧ r < 7 + gV.length then gV[r - 7]? else (cs x P)[r]? := fun r hr => match r, hr with | 0, _ => rfl | 1, _ => rfl | 2, _ => rfl | 3, _ => rfl | 4, _ => rfl | 5, _ => rfl | 6, _ => rfl | 7, _ => rfl | 8, _ => rfl | 9, _ => rfl | 10, _ => rfl | 11, _ => rfl | 12, _ => rfl | 13, _ => rfl | 14, _ => rfl | 15, _ => rfl | 16, _ => rfl | 17, _ => rfl | 18, _ => rfl | 19, _ => rfl | 20, _ => rfl | n + 21, h => absurd h (by omega)
theorem sub_d (x : St) (P : Pl) : ∀ r, r < 21 → (cs (wD x) (plD P))[r]? = if 12 ≤ r ∧ r < 12 + dV.length then dV[r - 12]? else (cs x P)[r]? := fun r hr => match r, hr with | 0, _ => rfl | 1, _ => rfl | 2, _ => rfl | 3, _ => rfl | 4, _ => rfl | 5, _ => rfl | 6, _ => rfl | 7, _ => rfl | 8, _ => rfl | 9, _ => rfl | 10, _ => rfl | 11, _ => rfl | 12, _ => rfl | 13, _ => rfl | 14, _ => rfl | 15, _ => rfl | 16, _ => rfl | 17, _ => rfl | 18, _ => rfl | 19, _ => rfl | 20, _ => rfl | n + 21, h => absurd h (by omega)
set_option maxRecDepth 100000 in
theorem stmtFields_walk (l : List St) (p : Option Addr) (m c : Nat) (a : Int) (ha : 0 ≤ a ∧ a ≤ 255) (b : Int) (hb : 0 ≤ b ∧ b ≤ 255) (w : World) (h : LIn w l p m) (hmc : m ≤ c) (hz : szL l ≤ 1048576) (hs : SzL l) : Calls Try.prog 7 #[.slice p m c, .int .u8 a, .int .u8 b] w (Gives (.bool true) w) := by
  have HH := Lib.hid h
  obtain ⟨sb, hsb⟩ : ∃ b, decide (szL l ≤ 3000) = b := ⟨_, rfl⟩
  have HS := Lib.hid (fun W hi => small_gives hsb p m c W hi (by omega) hs)
  cases sb with
  | false =>
    clear h hmc hz hs hsb ha hb
    go_enter Try.func7, Try.ntmps7
    go_wp2_with fail
    refine (HS.out _ (HH.out.on (by (repeat (first | (with_reducible exact Below.refl _ _) | (with_reducible assumption) | (with_reducible apply bl_alloc) | (with_reducible apply bl_drewN) | (with_reducible apply bl_drew) | (with_reducible refine bl_set ?_ (by first | (simp; done) | (simp; omega)) _) | (with_reducible refine bl_call ?_ (by assumption))))))).mono ?_
    rintro e w1 ⟨rfl, hb1⟩
    go_wp2_with fail
    refine (awake_any _).mono ?_
    rintro e w2 ⟨rfl, hb2⟩
    go_wp2_with fail
    go_ret
    exact ⟨rfl, by (repeat (first | (with_reducible exact Below.refl _ _) | (with_reducible assumption) | (with_reducible apply bl_alloc) | (with_reducible apply bl_drewN) | (with_reducible apply bl_drew) | (with_reducible refine bl_set ?_ (by first | (simp; done) | (simp; omega)) _) | (with_reducible refine bl_call ?_ (by assumption))))⟩
  | true =>
    have hz3 : szL l ≤ 3000 := of_decide_eq_true hsb
    by_cases hm0 : m = 0
    · subst hm0
      clear h hmc hz hs hsb ha hb hz3
      go_enter Try.func7, Try.ntmps7
      go_wp2_with fail
      refine (HS.out _ (HH.out.on (by (repeat (first | (with_reducible exact Below.refl _ _) | (with_reducible assumption) | (with_reducible apply bl_alloc) | (with_reducible apply bl_drewN) | (with_reducible apply bl_drew) | (with_reducible refine bl_set ?_ (by first | (simp; done) | (simp; omega)) _) | (with_reducible refine bl_call ?_ (by assumption))))))).mono ?_
      rintro e w1 ⟨rfl, hb1⟩
      go_wp2_with fail
      refine (awake_any _).mono ?_
      rintro e w2 ⟨rfl, hb2⟩
      go_wp2_with fail
      go_ret
      exact ⟨rfl, by (repeat (first | (with_reducible exact Below.refl _ _) | (with_reducible assumption) | (with_reducible apply bl_alloc) | (with_reducible apply bl_drewN) | (with_reducible apply bl_drew) | (with_reducible refine bl_set ?_ (by first | (simp; done) | (simp; omega)) _) | (with_reducible refine bl_call ?_ (by assumption))))⟩
    have tm0 : ¬ (m : Int) = 0 := by omega
    have tm1 : ((m : Int) == 0) = false := beq_eq_false_iff_ne.2 tm0
    obtain ⟨v, hv⟩ : ∃ v, chkL l = v := ⟨_, rfl⟩
    have HC := Lib.hid (fun W hi => check_gives hv (p := p) (m := m) (c := c) (w := W) hi hs)
    by_cases hv0 : v = 0
    case neg =>
      have t1 : (v != 0) = true := bne_iff_ne.2 hv0
      clear h hmc hz hs hsb ha hb hz3 hv hv0
      go_enter Try.func7, Try.ntmps7
      go_wp2_with fail
      refine (HS.out _ (HH.out.on (by (repeat (first | (with_reducible exact Below.refl _ _) | (with_reducible assumption) | (with_reducible apply bl_alloc) | (with_reducible apply bl_drewN) | (with_reducible apply bl_drew) | (with_reducible refine bl_set ?_ (by first | (simp; done) | (simp; omega)) _) | (with_reducible refine bl_call ?_ (by assumption))))))).mono ?_
      rintro e w1 ⟨rfl, hb1⟩
      go_wp2_with fail
      refine (HC.out _ (HH.out.on (by (repeat (first | (with_reducible exact Below.refl _ _) | (with_reducible assumption) | (with_reducible apply bl_alloc) | (with_reducible apply bl_drewN) | (with_reducible apply bl_drew) | (with_reducible refine bl_set ?_ (by first | (simp; done) | (simp; omega)) _) | (with_reducible refine bl_call ?_ (by assumption))))))).mono ?_
      rintro e w2 ⟨rfl, hb2⟩
      go_wp2_with fail
      refine (awake_any _).mono ?_
      rintro e w3 ⟨rfl, hb3⟩
      go_wp2_with fail
      go_ret
      exact ⟨rfl, by (repeat (first | (with_reducible exact Below.refl _ _) | (with_reducible assumption) | (with_reducible apply bl_alloc) | (with_reducible apply bl_drewN) | (with_reducible apply bl_drew) | (with_reducible refine bl_set ?_ (by first | (simp; done) | (simp; omega)) _) | (with_reducible refine bl_call ?_ (by assumption))))⟩
    subst hv0
    have hml : l.length = m := h.len.1
    have hm3 : m ≤ 3000 := by have h1 := len_cnL l; have h2 := cnL_le_szL l; omega
    obtain ⟨k, hk⟩ : ∃ k : Nat, a.toNat % m = k := ⟨_, rfl⟩
    have hkm : k < m := by rw [← hk]; exact Nat.mod_lt _ (by omega)
    have hrem : Int.tmod a (m : Int) = (k : Int) := by
      rw [← hk]
      obtain ⟨q, rfl⟩ : ∃ q : Nat, a = (q : Int) := ⟨a.toNat, by omega⟩
      rfl
    have hkl : k < l.length := by omega
    obtain ⟨x, hx⟩ : ∃ x, l[k] = x := ⟨_, rfl⟩
    have HX := Lib.hid hx
    have hone : oneE x = 0 := (chkL_ok hv).2.2 x (by rw [← hx]; exact ordL_self (List.getElem_mem hkl))
    have hsx : SzS x := hs.mem (by rw [← hx]; exact List.getElem_mem hkl)
    have hr4 : Int.tmod b 4 = 0 ∨ Int.tmod b 4 = 1 ∨ Int.tmod b 4 = 2 ∨ Int.tmod b 4 = 3 := by
      obtain ⟨q, rfl⟩ : ∃ q : Nat, b = (q : Int) := ⟨b.toNat, by omega⟩
      have h1 : Int.tmod (q : Int) 4 = ((q % 4 : Nat) : Int) := rfl
      rw [h1]
      have := Nat.mod_lt q (show 0 < 4 by omega)
      omega
    rcases hr4 with hr | hr | hr | hr
    · cases hfl : x.fl with
      | true =>
        obtain ⟨n21, hn21⟩ : ∃ n : Nat, 21 = n := ⟨_, rfl⟩
        have hsz : ∀ w, (sizeOf 47).run Try.prog w = .ok n21 w := fun w => by rw [Try.sizeOf47, hn21]
        have HN21 := Lib.hid hn21
        clear hn21
        go_enter Try.func7, Try.ntmps7
        go_wp2_with fail
        refine (HS.out _ (HH.out.on (by (repeat (first | (with_reducible exact Below.refl _ _) | (with_reducible assumption) | (with_reducible apply bl_alloc) | (with_reducible apply bl_drewN) | (with_reducible apply bl_drew) | (with_reducible refine bl_set ?_ (by first | (simp; done) | (simp; omega)) _) | (with_reducible refine bl_call ?_ (by assumption))))))).mono ?_
        rintro e w1 ⟨rfl, hb1⟩
        go_wp2_with fail
        refine (HC.out _ (HH.out.on (by (repeat (first | (with_reducible exact Below.refl _ _) | (with_reducible assumption) | (with_reducible apply bl_alloc) | (with_reducible apply bl_drewN) | (with_reducible apply bl_drew) | (with_reducible refine bl_set ?_ (by first | (simp; done) | (simp; omega)) _) | (with_reducible refine bl_call ?_ (by assumption))))))).mono ?_
        rintro e w2 ⟨rfl, hb2⟩
        have hbw : Below w.heap.size w (w2.alloc (.cells #[] 47)) := by (repeat (first | (with_reducible exact Below.refl _ _) | (with_reducible assumption) | (with_reducible apply bl_alloc) | (with_reducible apply bl_drewN) | (with_reducible apply bl_drew) | (with_reducible refine bl_set ?_ (by first | (simp; done) | (simp; omega)) _) | (with_reducible refine bl_call ?_ (by assumption))))
        obtain ⟨L, v', w3, hL1, hL2, hL3, hrun, hown, hgr⟩ := app_run (ownS_none w2) (Lin.below hbw (show Lin (Lo w.heap.size) w l p m from HH.out)) c (by simp) (by omega)
        have hown' : OwnS w3 w2.heap.size v' m L := by have h9 := hown; rw [Nat.zero_add, List.nil_append] at h9; exact h9
        have hkL : k < L.length := by omega
        obtain ⟨g, cap, cur, rfl, hg, hcur, hcap⟩ : ∃ g cap cur, v' = .slice (some ⟨g, 0, none⟩) m cap ∧ w2.heap.size ≤ g ∧ w3.heap[g]? = some (.cells cur 47 (0, 0)) ∧ m ≤ cap := by
          rcases hown'.2 with ⟨-, h0⟩ | ⟨g, cap, cur, h1, h2, h3, h4, -⟩
          · omega
          · exact ⟨g, cap, cur, h1, h2, h3, h4⟩
        have hg3 : g < w3.heap.size := (Array.getElem?_eq_some_iff.1 hcur).1
        have hb3 : Below w.heap.size w w3 := hbw.grown hgr (by have := hb1.size; have := hb2.size; simp; omega) (by intro k hk; have := hb1.size; have := hb2.size; simp [Value.ownBlock] at hk; omega)
        have hLx : L[k].1 = x := by
          rw [← HX.out]
          have h1 : (L.map (·.1))[k]'(by simpa using hkL) = L[k].1 := by simp
          rw [← h1]
          congr 1
        obtain ⟨P, hP⟩ : ∃ P, L[k].2 = P := ⟨_, rfl⟩
        have hcell : cell21 w3 g (k * 21) x P := fun r u hu => by
          have hr : r < 21 := by have := (Array.getElem?_eq_some_iff.1 hu).1; rwa [cs_size] at this
          rw [hown'.cellAt (k * 21 + r) (by omega), flatS_get hkL hr, hLx, hP]
          exact hu
        have hfz : ∀ o, w3.frozen? ⟨g, o, none⟩ = false := fun o => frozen_of_row w3 g o cur _ hcur
        have hqs : ∀ W, Below w.heap.size w3 W → ∀ q ∈ L, SIn W q.1 q.2 := fun W hW q hq => by
          have h2 : Below w.heap.size (w2.alloc (.cells #[] 47)) w3 := (Below.refl _ _).grown hgr (by have := hb1.size; have := hb2.size; simp; omega) (by intro k hk; have := hb1.size; have := hb2.size; simp [Value.ownBlock] at hk; omega)
          exact (((hL3 q hq).below h2).below hW).all
        have hxs : ∀ W, Below w.heap.size w3 W → SIn W x P := fun W hW => by rw [← hLx, ← hP]; exact hqs W hW _ (List.getElem_mem hkL)
        have hcw := (show cell21 w3 g (0 + k * 21) x P by rw [Nat.zero_add]; exact hcell).at HN21.out
        rw [Nat.zero_add] at hcw
        have hcsz : (cs x P).size = n21 := HN21.out
        have ld1 := hcw.ldN HN21.out
        have ld2 := hcw.loadVar
        have ld3 := hcw.loadAt
        have st1 := st_store x P
        have st2 := st_storeVar x P
        have st3 := st_storeAt x P
        have hk0 : (0 : Int) ≤ (k : Int) := by omega
        have hk1 : (k : Int) < (m : Int) := by omega
        go_wp2_with (at_builtin; refine Lib.wpList_append_run _ rfl _ _ _ _ rfl _ _ rfl rfl _ _ hrun ?_)
        refine (awake_any _).mono ?_
        rintro e w9 ⟨rfl, hb9⟩
        go_wp2_with fail
        go_ret
        exact ⟨rfl, by (repeat (first | (with_reducible exact Below.refl _ _) | (with_reducible assumption) | (with_reducible apply bl_alloc) | (with_reducible apply bl_drewN) | (with_reducible apply bl_drew) | (with_reducible refine bl_set ?_ (by first | (simp; done) | (simp; omega)) _) | (with_reducible refine bl_call ?_ (by assumption))))⟩
      | false =>
        by_cases ho : x.o = 6
        · have tfl : (x.o != 6) = false := by rw [ho]; rfl
          obtain ⟨n21, hn21⟩ : ∃ n : Nat, 21 = n := ⟨_, rfl⟩
          have hsz : ∀ w, (sizeOf 47).run Try.prog w = .ok n21 w := fun w => by rw [Try.sizeOf47, hn21]
          have HN21 := Lib.hid hn21
          clear hn21
          go_enter Try.func7, Try.ntmps7
          go_wp2_with fail
          refine (HS.out _ (HH.out.on (by (repeat (first | (with_reducible exact Below.refl _ _) | (with_reducible assumption) | (with_reducible apply bl_alloc) | (with_reducible apply bl_drewN) | (with_reducible apply bl_drew) | (with_reducible refine bl_set ?_ (by first | (simp; done) | (simp; omega)) _) | (with_reducible refine bl_call ?_ (by assumption))))))).mono ?_
          rintro e w1 ⟨rfl, hb1⟩
          go_wp2_with fail
          refine (HC.out _ (HH.out.on (by (repeat (first | (with_reducible exact Below.refl _ _) | (with_reducible assumption) | (with_reducible apply bl_alloc) | (with_reducible apply bl_drewN) | (with_reducible apply bl_drew) | (with_reducible refine bl_set ?_ (by first | (simp; done) | (simp; omega)) _) | (with_reducible refine bl_call ?_ (by assumption))))))).mono ?_
          rintro e w2 ⟨rfl, hb2⟩
          have hbw : Below w.heap.size w (w2.alloc (.cells #[] 47)) := by (repeat (first | (with_reducible exact Below.refl _ _) | (with_reducible assumption) | (with_reducible apply bl_alloc) | (with_reducible apply bl_drewN) | (with_reducible apply bl_drew) | (with_reducible refine bl_set ?_ (by first | (simp; done) | (simp; omega)) _) | (with_reducible refine bl_call ?_ (by assumption))))
          obtain ⟨L, v', w3, hL1, hL2, hL3, hrun, hown, hgr⟩ := app_run (ownS_none w2) (Lin.below hbw (show Lin (Lo w.heap.size) w l p m from HH.out)) c (by simp) (by omega)
          have hown' : OwnS w3 w2.heap.size v' m L := by have h9 := hown; rw [Nat.zero_add, List.nil_append] at h9; exact h9
          have hkL : k < L.length := by omega
          obtain ⟨g, cap, cur, rfl, hg, hcur, hcap⟩ : ∃ g cap cur, v' = .slice (some ⟨g, 0, none⟩) m cap ∧ w2.heap.size ≤ g ∧ w3.heap[g]? = some (.cells cur 47 (0, 0)) ∧ m ≤ cap := by
            rcases hown'.2 with ⟨-, h0⟩ | ⟨g, cap, cur, h1, h2, h3, h4, -⟩
            · omega
            · exact ⟨g, cap, cur, h1, h2, h3, h4⟩
          have hg3 : g < w3.heap.size := (Array.getElem?_eq_some_iff.1 hcur).1
          have hb3 : Below w.heap.size w w3 := hbw.grown hgr (by have := hb1.size; have := hb2.size; simp; omega) (by intro k hk; have := hb1.size; have := hb2.size; simp [Value.ownBlock] at hk; omega)
          have hLx : L[k].1 = x := by
            rw [← HX.out]
            have h1 : (L.map (·.1))[k]'(by simpa using hkL) = L[k].1 := by simp
            rw [← h1]
            congr 1
          obtain ⟨P, hP⟩ : ∃ P, L[k].2 = P := ⟨_, rfl⟩
          have hcell : cell21 w3 g (k * 21) x P := fun r u hu => by
            have hr : r < 21 := by have := (Array.getElem?_eq_some_iff.1 hu).1; rwa [cs_size] at this
            rw [hown'.cellAt (k * 21 + r) (by omega), flatS_get hkL hr, hLx, hP]
            exact hu
          have hfz : ∀ o, w3.frozen? ⟨g, o, none⟩ = false := fun o => frozen_of_row w3 g o cur _ hcur
          have hqs : ∀ W, Below w.heap.size w3 W → ∀ q ∈ L, SIn W q.1 q.2 := fun W hW q hq => by
            have h2 : Below w.heap.size (w2.alloc (.cells #[] 47)) w3 := (Below.refl _ _).grown hgr (by have := hb1.size; have := hb2.size; simp; omega) (by intro k hk; have := hb1.size; have := hb2.size; simp [Value.ownBlock] at hk; omega)
            exact (((hL3 q hq).below h2).below hW).all
          have hxs : ∀ W, Below w.heap.size w3 W → SIn W x P := fun W hW => by rw [← hLx, ← hP]; exact hqs W hW _ (List.getElem_mem hkL)
          have hcw := (show cell21 w3 g (0 + k * 21) x P by rw [Nat.zero_add]; exact hcell).at HN21.out
          rw [Nat.zero_add] at hcw
          have hcsz : (cs x P).size = n21 := HN21.out
          have ld1 := hcw.ldN HN21.out
          have ld2 := hcw.loadVar
          have ld3 := hcw.loadAt
          have st1 := st_store x P
          have st2 := st_storeVar x P
          have st3 := st_storeAt x P
          have hk0 : (0 : Int) ≤ (k : Int) := by omega
          have hk1 : (k : Int) < (m : Int) := by omega
          go_wp2_with (at_builtin; refine Lib.wpList_append_run _ rfl _ _ _ _ rfl _ _ rfl rfl _ _ hrun ?_)
          refine (awake_any _).mono ?_
          rintro e w9 ⟨rfl, hb9⟩
          go_wp2_with fail
          go_ret
          exact ⟨rfl, by (repeat (first | (with_reducible exact Below.refl _ _) | (with_reducible assumption) | (with_reducible apply bl_alloc) | (with_reducible apply bl_drewN) | (with_reducible apply bl_drew) | (with_reducible refine bl_set ?_ (by first | (simp; done) | (simp; omega)) _) | (with_reducible refine bl_call ?_ (by assumption))))⟩
        · have tfl : (x.o != 6) = true := bne_iff_ne.2 ho
          have CM := Lib.hid (fun p c W hi => check_gives (set_chk hkl hv (y := wFl x) (by rw [hx]; rfl) (by rw [hx]; rfl) (one_fl ho)) (p := p) (m := m) (c := c) (w := W) hi (set_sz hkl hs (by rw [hx]; rfl) (by rw [hx]; rfl) hsx))
          obtain ⟨n21, hn21⟩ : ∃ n : Nat, 21 = n := ⟨_, rfl⟩
          have hsz : ∀ w, (sizeOf 47).run Try.prog w = .ok n21 w := fun w => by rw [Try.sizeOf47, hn21]
          have HN21 := Lib.hid hn21
          clear hn21
          go_enter Try.func7, Try.ntmps7
          go_wp2_with fail
          refine (HS.out _ (HH.out.on (by (repeat (first | (with_reducible exact Below.refl _ _) | (with_reducible assumption) | (with_reducible apply bl_alloc) | (with_reducible apply bl_drewN) | (with_reducible apply bl_drew) | (with_reducible refine bl_set ?_ (by first | (simp; done) | (simp; omega)) _) | (with_reducible refine bl_call ?_ (by assumption))))))).mono ?_
          rintro e w1 ⟨rfl, hb1⟩
          go_wp2_with fail
          refine (HC.out _ (HH.out.on (by (repeat (first | (with_reducible exact Below.refl _ _) | (with_reducible assumption) | (with_reducible apply bl_alloc) | (with_reducible apply bl_drewN) | (with_reducible apply bl_drew) | (with_reducible refine bl_set ?_ (by first | (simp; done) | (simp; omega)) _) | (with_reducible refine bl_call ?_ (by assumption))))))).mono ?_
          rintro e w2 ⟨rfl, hb2⟩
          have hbw : Below w.heap.size w (w2.alloc (.cells #[] 47)) := by (repeat (first | (with_reducible exact Below.refl _ _) | (with_reducible assumption) | (with_reducible apply bl_alloc) | (with_reducible apply bl_drewN) | (with_reducible apply bl_drew) | (with_reducible refine bl_set ?_ (by first | (simp; done) | (simp; omega)) _) | (with_reducible refine bl_call ?_ (by assumption))))
          obtain ⟨L, v', w3, hL1, hL2, hL3, hrun, hown, hgr⟩ := app_run (ownS_none w2) (Lin.below hbw (show Lin (Lo w.heap.size) w l p m from HH.out)) c (by simp) (by omega)
          have hown' : OwnS w3 w2.heap.size v' m L := by have h9 := hown; rw [Nat.zero_add, List.nil_append] at h9; exact h9
          have hkL : k < L.length := by omega
          obtain ⟨g, cap, cur, rfl, hg, hcur, hcap⟩ : ∃ g cap cur, v' = .slice (some ⟨g, 0, none⟩) m cap ∧ w2.heap.size ≤ g ∧ w3.heap[g]? = some (.cells cur 47 (0, 0)) ∧ m ≤ cap := by
            rcases hown'.2 with ⟨-, h0⟩ | ⟨g, cap, cur, h1, h2, h3, h4, -⟩
            · omega
            · exact ⟨g, cap, cur, h1, h2, h3, h4⟩
          have hg3 : g < w3.heap.size := (Array.getElem?_eq_some_iff.1 hcur).1
          have hb3 : Below w.heap.size w w3 := hbw.grown hgr (by have := hb1.size; have := hb2.size; simp; omega) (by intro k hk; have := hb1.size; have := hb2.size; simp [Value.ownBlock] at hk; omega)
          have hLx : L[k].1 = x := by
            rw [← HX.out]
            have h1 : (L.map (·.1))[k]'(by simpa using hkL) = L[k].1 := by simp
            rw [← h1]
            congr 1
          obtain ⟨P, hP⟩ : ∃ P, L[k].2 = P := ⟨_, rfl⟩
          have hcell : cell21 w3 g (k * 21) x P := fun r u hu => by
            have hr : r < 21 := by have := (Array.getElem?_eq_some_iff.1 hu).1; rwa [cs_size] at this
            rw [hown'.cellAt (k * 21 + r) (by omega), flatS_get hkL hr, hLx, hP]
            exact hu
          have hfz : ∀ o, w3.frozen? ⟨g, o, none⟩ = false := fun o => frozen_of_row w3 g o cur _ hcur
          have hqs : ∀ W, Below w.heap.size w3 W → ∀ q ∈ L, SIn W q.1 q.2 := fun W hW q hq => by
            have h2 : Below w.heap.size (w2.alloc (.cells #[] 47)) w3 := (Below.refl _ _).grown hgr (by have := hb1.size; have := hb2.size; simp; omega) (by intro k hk; have := hb1.size; have := hb2.size; simp [Value.ownBlock] at hk; omega)
            exact (((hL3 q hq).below h2).below hW).all
          have hxs : ∀ W, Below w.heap.size w3 W → SIn W x P := fun W hW => by rw [← hLx, ← hP]; exact hqs W hW _ (List.getElem_mem hkL)
          have hcw := (show cell21 w3 g (0 + k * 21) x P by rw [Nat.zero_add]; exact hcell).at HN21.out
          rw [Nat.zero_add] at hcw
          have hcsz : (cs x P).size = n21 := HN21.out
          have ld1 := hcw.ldN HN21.out
          have ld2 := hcw.loadVar
          have ld3 := hcw.loadAt
          have st1 := st_store x P
          have st2 := st_storeVar x P
          have st3 := st_storeAt x P
          have hk0 : (0 : Int) ≤ (k : Int) := by omega
          have hk1 : (k : Int) < (m : Int) := by omega
          have hgw : w.heap.size ≤ g := by have := hb1.size; have := hb2.size; omega
          have hB : Below w.heap.size w3 (putN g (w3) (k * n21 + 18) [.bool true]) := putN_below hgw (by with_reducible first | exact Below.refl _ _ | exact hb4.mono hb3.size)
          have hPB : Below w.heap.size w (putN g (w3) (k * n21 + 18) [.bool true]) := putN_below hgw (by with_reducible first | exact hb3 | exact bl_call hb3 hb4)
          have hlin : LIn (putN g (w3) (k * n21 + 18) [.bool true]) (l.set k (wFl x)) (some ⟨g, 0, none⟩) m := by
            have h9 := field_lin hown' (by omega) hkL HN21.out (by first | rfl | exact hb4.block g hg3) (by assumption) hcell (y := (wFl x)) (Q := (P)) (vs := [.bool true]) (by decide) (sub_fl x P) (hqs _ hB) (sin_fl (hxs _ hB))
            rw [hL1] at h9
            exact h9
          have hc18 : w3.cell? ⟨g, k * n21 + 18, none⟩ = some (.bool x.fl) := hcw 18 _ rfl
          go_wp2_with (at_builtin; refine Lib.wpList_append_run _ rfl _ _ _ _ rfl _ _ rfl rfl _ _ hrun ?_)
          refine (CM.out _ _ _ (hlin.on (by first | exact Below.refl _ _ | exact (Below.refl _ _).alloc (Nat.le_refl _) _))).mono ?_
          rintro e w5 ⟨rfl, hb5⟩
          go_wp2_with fail
          refine (awake_any _).mono ?_
          rintro e w6 ⟨rfl, hb6⟩
          go_wp2_with fail
          go_ret
          exact ⟨rfl, by (repeat (first | (with_reducible exact Below.refl _ _) | (with_reducible assumption) | (with_reducible apply bl_alloc) | (with_reducible apply bl_drewN) | (with_reducible apply bl_drew) | (with_reducible refine bl_set ?_ (by first | (simp; done) | (simp; omega)) _) | (with_reducible refine bl_call ?_ (by assumption))))⟩
    · by_cases hf : bs x.f = []
      · have tf := Ex.emp_yes hf
        have CM := Lib.hid (fun p c W hi => check_gives (set_chk hkl hv (y := wF x) (by rw [hx]; rfl) (by rw [hx]; rfl) (one_f hone hf)) (p := p) (m := m) (c := c) (w := W) hi (set_sz hkl hs (by rw [hx]; rfl) (by rw [hx]; rfl) (szs_f hsx)))
        obtain ⟨n21, hn21⟩ : ∃ n : Nat, 21 = n := ⟨_, rfl⟩
        have hsz : ∀ w, (sizeOf 47).run Try.prog w = .ok n21 w := fun w => by rw [Try.sizeOf47, hn21]
        have HN21 := Lib.hid hn21
        clear hn21
        go_enter Try.func7, Try.ntmps7
        go_wp2_with fail
        refine (HS.out _ (HH.out.on (by (repeat (first | (with_reducible exact Below.refl _ _) | (with_reducible assumption) | (with_reducible apply bl_alloc) | (with_reducible apply bl_drewN) | (with_reducible apply bl_drew) | (with_reducible refine bl_set ?_ (by first | (simp; done) | (simp; omega)) _) | (with_reducible refine bl_call ?_ (by assumption))))))).mono ?_
        rintro e w1 ⟨rfl, hb1⟩
        go_wp2_with fail
        refine (HC.out _ (HH.out.on (by (repeat (first | (with_reducible exact Below.refl _ _) | (with_reducible assumption) | (with_reducible apply bl_alloc) | (with_reducible apply bl_drewN) | (with_reducible apply bl_drew) | (with_reducible refine bl_set ?_ (by first | (simp; done) | (simp; omega)) _) | (with_reducible refine bl_call ?_ (by assumption))))))).mono ?_
        rintro e w2 ⟨rfl, hb2⟩
        have hbw : Below w.heap.size w (w2.alloc (.cells #[] 47)) := by (repeat (first | (with_reducible exact Below.refl _ _) | (with_reducible assumption) | (with_reducible apply bl_alloc) | (with_reducible apply bl_drewN) | (with_reducible apply bl_drew) | (with_reducible refine bl_set ?_ (by first | (simp; done) | (simp; omega)) _) | (with_reducible refine bl_call ?_ (by assumption))))
        obtain ⟨L, v', w3, hL1, hL2, hL3, hrun, hown, hgr⟩ := app_run (ownS_none w2) (Lin.below hbw (show Lin (Lo w.heap.size) w l p m from HH.out)) c (by simp) (by omega)
        have hown' : OwnS w3 w2.heap.size v' m L := by have h9 := hown; rw [Nat.zero_add, List.nil_append] at h9; exact h9
        have hkL : k < L.length := by omega
        obtain ⟨g, cap, cur, rfl, hg, hcur, hcap⟩ : ∃ g cap cur, v' = .slice (some ⟨g, 0, none⟩) m cap ∧ w2.heap.size ≤ g ∧ w3.heap[g]? = some (.cells cur 47 (0, 0)) ∧ m ≤ cap := by
          rcases hown'.2 with ⟨-, h0⟩ | ⟨g, cap, cur, h1, h2, h3, h4, -⟩
          · omega
          · exact ⟨g, cap, cur, h1, h2, h3, h4⟩
        have hg3 : g < w3.heap.size := (Array.getElem?_eq_some_iff.1 hcur).1
        have hb3 : Below w.heap.size w w3 := hbw.grown hgr (by have := hb1.size; have := hb2.size; simp; omega) (by intro k hk; have := hb1.size; have := hb2.size; simp [Value.ownBlock] at hk; omega)
        have hLx : L[k].1 = x := by
          rw [← HX.out]
          have h1 : (L.map (·.1))[k]'(by simpa using hkL) = L[k].1 := by simp
          rw [← h1]
          congr 1
        obtain ⟨P, hP⟩ : ∃ P, L[k].2 = P := ⟨_, rfl⟩
        have hcell : cell21 w3 g (k * 21) x P := fun r u hu => by
          have hr : r < 21 := by have := (Array.getElem?_eq_some_iff.1 hu).1; rwa [cs_size] at this
          rw [hown'.cellAt (k * 21 + r) (by omega), flatS_get hkL hr, hLx, hP]
          exact hu
        have hfz : ∀ o, w3.frozen? ⟨g, o, none⟩ = false := fun o => frozen_of_row w3 g o cur _ hcur
        have hqs : ∀ W, Below w.heap.size w3 W → ∀ q ∈ L, SIn W q.1 q.2 := fun W hW q hq => by
          have h2 : Below w.heap.size (w2.alloc (.cells #[] 47)) w3 := (Below.refl _ _).grown hgr (by have := hb1.size; have := hb2.size; simp; omega) (by intro k hk; have := hb1.size; have := hb2.size; simp [Value.ownBlock] at hk; omega)
          exact (((hL3 q hq).below h2).below hW).all
        have hxs : ∀ W, Below w.heap.size w3 W → SIn W x P := fun W hW => by rw [← hLx, ← hP]; exact hqs W hW _ (List.getElem_mem hkL)
        have hcw := (show cell21 w3 g (0 + k * 21) x P by rw [Nat.zero_add]; exact hcell).at HN21.out
        rw [Nat.zero_add] at hcw
        have hcsz : (cs x P).size = n21 := HN21.out
        have ld1 := hcw.ldN HN21.out
        have ld2 := hcw.loadVar
        have ld3 := hcw.loadAt
        have st1 := st_store x P
        have st2 := st_storeVar x P
        have st3 := st_storeAt x P
        have hk0 : (0 : Int) ≤ (k : Int) := by omega
        have hk1 : (k : Int) < (m : Int) := by omega
        have hgw : w.heap.size ≤ g := by have := hb1.size; have := hb2.size; omega
        have hB : Below w.heap.size w3 (putN g (w3) (k * n21 + 2) [.string tA]) := putN_below hgw (by with_reducible first | exact Below.refl _ _ | exact hb4.mono hb3.size)
        have hPB : Below w.heap.size w (putN g (w3) (k * n21 + 2) [.string tA]) := putN_below hgw (by with_reducible first | exact hb3 | exact bl_call hb3 hb4)
        have hlin : LIn (putN g (w3) (k * n21 + 2) [.string tA]) (l.set k (wF x)) (some ⟨g, 0, none⟩) m := by
          have h9 := field_lin hown' (by omega) hkL HN21.out (by first | rfl | exact hb4.block g hg3) (by assumption) hcell (y := (wF x)) (Q := (P)) (vs := [.string tA]) (by decide) (sub_f x P) (hqs _ hB) (sin_f (hxs _ hB))
          rw [hL1] at h9
          exact h9
        have hc18 : w3.cell? ⟨g, k * n21 + 2, none⟩ = some (.string x.f) := hcw 2 _ rfl
        go_wp2_with (at_builtin; refine Lib.wpList_append_run _ rfl _ _ _ _ rfl _ _ rfl rfl _ _ hrun ?_)
        refine (CM.out _ _ _ (hlin.on (by first | exact Below.refl _ _ | exact (Below.refl _ _).alloc (Nat.le_refl _) _))).mono ?_
        rintro e w5 ⟨rfl, hb5⟩
        go_wp2_with fail
        refine (awake_any _).mono ?_
        rintro e w6 ⟨rfl, hb6⟩
        go_wp2_with fail
        go_ret
        exact ⟨rfl, by (repeat (first | (with_reducible exact Below.refl _ _) | (with_reducible assumption) | (with_reducible apply bl_alloc) | (with_reducible apply bl_drewN) | (with_reducible apply bl_drew) | (with_reducible refine bl_set ?_ (by first | (simp; done) | (simp; omega)) _) | (with_reducible refine bl_call ?_ (by assumption))))⟩
      · have tf := Ex.emp_no hf
        obtain ⟨n21, hn21⟩ : ∃ n : Nat, 21 = n := ⟨_, rfl⟩
        have hsz : ∀ w, (sizeOf 47).run Try.prog w = .ok n21 w := fun w => by rw [Try.sizeOf47, hn21]
        have HN21 := Lib.hid hn21
        clear hn21
        go_enter Try.func7, Try.ntmps7
        go_wp2_with fail
        refine (HS.out _ (HH.out.on (by (repeat (first | (with_reducible exact Below.refl _ _) | (with_reducible assumption) | (with_reducible apply bl_alloc) | (with_reducible apply bl_drewN) | (with_reducible apply bl_drew) | (with_reducible refine bl_set ?_ (by first | (simp; done) | (simp; omega)) _) | (with_reducible refine bl_call ?_ (by assumption))))))).mono ?_
        rintro e w1 ⟨rfl, hb1⟩
        go_wp2_with fail
        refine (HC.out _ (HH.out.on (by (repeat (first | (with_reducible exact Below.refl _ _) | (with_reducible assumption) | (with_reducible apply bl_alloc) | (with_reducible apply bl_drewN) | (with_reducible apply bl_drew) | (with_reducible refine bl_set ?_ (by first | (simp; done) | (simp; omega)) _) | (with_reducible refine bl_call ?_ (by assumption))))))).mono ?_
        rintro e w2 ⟨rfl, hb2⟩
        have hbw : Below w.heap.size w (w2.alloc (.cells #[] 47)) := by (repeat (first | (with_reducible exact Below.refl _ _) | (with_reducible assumption) | (with_reducible apply bl_alloc) | (with_reducible apply bl_drewN) | (with_reducible apply bl_drew) | (with_reducible refine bl_set ?_ (by first | (simp; done) | (simp; omega)) _) | (with_reducible refine bl_call ?_ (by assumption))))
        obtain ⟨L, v', w3, hL1, hL2, hL3, hrun, hown, hgr⟩ := app_run (ownS_none w2) (Lin.below hbw (show Lin (Lo w.heap.size) w l p m from HH.out)) c (by simp) (by omega)
        have hown' : OwnS w3 w2.heap.size v' m L := by have h9 := hown; rw [Nat.zero_add, List.nil_append] at h9; exact h9
        have hkL : k < L.length := by omega
        obtain ⟨g, cap, cur, rfl, hg, hcur, hcap⟩ : ∃ g cap cur, v' = .slice (some ⟨g, 0, none⟩) m cap ∧ w2.heap.size ≤ g ∧ w3.heap[g]? = some (.cells cur 47 (0, 0)) ∧ m ≤ cap := by
          rcases hown'.2 with ⟨-, h0⟩ | ⟨g, cap, cur, h1, h2, h3, h4, -⟩
          · omega
          · exact ⟨g, cap, cur, h1, h2, h3, h4⟩
        have hg3 : g < w3.heap.size := (Array.getElem?_eq_some_iff.1 hcur).1
        have hb3 : Below w.heap.size w w3 := hbw.grown hgr (by have := hb1.size; have := hb2.size; simp; omega) (by intro k hk; have := hb1.size; have := hb2.size; simp [Value.ownBlock] at hk; omega)
        have hLx : L[k].1 = x := by
          rw [← HX.out]
          have h1 : (L.map (·.1))[k]'(by simpa using hkL) = L[k].1 := by simp
          rw [← h1]
          congr 1
        obtain ⟨P, hP⟩ : ∃ P, L[k].2 = P := ⟨_, rfl⟩
        have hcell : cell21 w3 g (k * 21) x P := fun r u hu => by
          have hr : r < 21 := by have := (Array.getElem?_eq_some_iff.1 hu).1; rwa [cs_size] at this
          rw [hown'.cellAt (k * 21 + r) (by omega), flatS_get hkL hr, hLx, hP]
          exact hu
        have hfz : ∀ o, w3.frozen? ⟨g, o, none⟩ = false := fun o => frozen_of_row w3 g o cur _ hcur
        have hqs : ∀ W, Below w.heap.size w3 W → ∀ q ∈ L, SIn W q.1 q.2 := fun W hW q hq => by
          have h2 : Below w.heap.size (w2.alloc (.cells #[] 47)) w3 := (Below.refl _ _).grown hgr (by have := hb1.size; have := hb2.size; simp; omega) (by intro k hk; have := hb1.size; have := hb2.size; simp [Value.ownBlock] at hk; omega)
          exact (((hL3 q hq).below h2).below hW).all
        have hxs : ∀ W, Below w.heap.size w3 W → SIn W x P := fun W hW => by rw [← hLx, ← hP]; exact hqs W hW _ (List.getElem_mem hkL)
        have hcw := (show cell21 w3 g (0 + k * 21) x P by rw [Nat.zero_add]; exact hcell).at HN21.out
        rw [Nat.zero_add] at hcw
        have hcsz : (cs x P).size = n21 := HN21.out
        have ld1 := hcw.ldN HN21.out
        have ld2 := hcw.loadVar
        have ld3 := hcw.loadAt
        have st1 := st_store x P
        have st2 := st_storeVar x P
        have st3 := st_storeAt x P
        have hk0 : (0 : Int) ≤ (k : Int) := by omega
        have hk1 : (k : Int) < (m : Int) := by omega
        go_wp2_with (at_builtin; refine Lib.wpList_append_run _ rfl _ _ _ _ rfl _ _ rfl rfl _ _ hrun ?_)
        refine (awake_any _).mono ?_
        rintro e w9 ⟨rfl, hb9⟩
        go_wp2_with fail
        go_ret
        exact ⟨rfl, by (repeat (first | (with_reducible exact Below.refl _ _) | (with_reducible assumption) | (with_reducible apply bl_alloc) | (with_reducible apply bl_drewN) | (with_reducible apply bl_drew) | (with_reducible refine bl_set ?_ (by first | (simp; done) | (simp; omega)) _) | (with_reducible refine bl_call ?_ (by assumption))))⟩
    · by_cases hf : x.g.o = 0
      · have tf : (x.g.o == 0) = true := by rw [hf]; rfl
        have CM := Lib.hid (fun p c W hi => check_gives (set_chk hkl hv (y := wG x) (by rw [hx]; rfl) (by rw [hx]; rfl) (one_g hone hf)) (p := p) (m := m) (c := c) (w := W) hi (set_sz hkl hs (by rw [hx]; rfl) (by rw [hx]; rfl) (szs_g hsx)))
        obtain ⟨n21, hn21⟩ : ∃ n : Nat, 21 = n := ⟨_, rfl⟩
        have hsz : ∀ w, (sizeOf 47).run Try.prog w = .ok n21 w := fun w => by rw [Try.sizeOf47, hn21]
        have HN21 := Lib.hid hn21
        clear hn21
        go_enter Try.func7, Try.ntmps7
        go_wp2_with fail
        refine (HS.out _ (HH.out.on (by (repeat (first | (with_reducible exact Below.refl _ _) | (with_reducible assumption) | (with_reducible apply bl_alloc) | (with_reducible apply bl_drewN) | (with_reducible apply bl_drew) | (with_reducible refine bl_set ?_ (by first | (simp; done) | (simp; omega)) _) | (with_reducible refine bl_call ?_ (by assumption))))))).mono ?_
        rintro e w1 ⟨rfl, hb1⟩
        go_wp2_with fail
        refine (HC.out _ (HH.out.on (by (repeat (first | (with_reducible exact Below.refl _ _) | (with_reducible assumption) | (with_reducible apply bl_alloc) | (with_reducible apply bl_drewN) | (with_reducible apply bl_drew) | (with_reducible refine bl_set ?_ (by first | (simp; done) | (simp; omega)) _) | (with_reducible refine bl_call ?_ (by assumption))))))).mono ?_
        rintro e w2 ⟨rfl, hb2⟩
        have hbw : Below w.heap.size w (w2.alloc (.cells #[] 47)) := by (repeat (first | (with_reducible exact Below.refl _ _) | (with_reducible assumption) | (with_reducible apply bl_alloc) | (with_reducible apply bl_drewN) | (with_reducible apply bl_drew) | (with_reducible refine bl_set ?_ (by first | (simp; done) | (simp; omega)) _) | (with_reducible refine bl_call ?_ (by assumption))))
        obtain ⟨L, v', w3, hL1, hL2, hL3, hrun, hown, hgr⟩ := app_run (ownS_none w2) (Lin.below hbw (show Lin (Lo w.heap.size) w l p m from HH.out)) c (by simp) (by omega)
        have hown' : OwnS w3 w2.heap.size v' m L := by have h9 := hown; rw [Nat.zero_add, List.nil_append] at h9; exact h9
        have hkL : k < L.length := by omega
        obtain ⟨g, cap, cur, rfl, hg, hcur, hcap⟩ : ∃ g cap cur, v' = .slice (some ⟨g, 0, none⟩) m cap ∧ w2.heap.size ≤ g ∧ w3.heap[g]? = some (.cells cur 47 (0, 0)) ∧ m ≤ cap := by
          rcases hown'.2 with ⟨-, h0⟩ | ⟨g, cap, cur, h1, h2, h3, h4, -⟩
          · omega
          · exact ⟨g, cap, cur, h1, h2, h3, h4⟩
        have hg3 : g < w3.heap.size := (Array.getElem?_eq_some_iff.1 hcur).1
        have hb3 : Below w.heap.size w w3 := hbw.grown hgr (by have := hb1.size; have := hb2.size; simp; omega) (by intro k hk; have := hb1.size; have := hb2.size; simp [Value.ownBlock] at hk; omega)
        have hLx : L[k].1 = x := by
          rw [← HX.out]
          have h1 : (L.map (·.1))[k]'(by simpa using hkL) = L[k].1 := by simp
          rw [← h1]
          congr 1
        obtain ⟨P, hP⟩ : ∃ P, L[k].2 = P := ⟨_, rfl⟩
        have hcell : cell21 w3 g (k * 21) x P := fun r u hu => by
          have hr : r < 21 := by have := (Array.getElem?_eq_some_iff.1 hu).1; rwa [cs_size] at this
          rw [hown'.cellAt (k * 21 + r) (by omega), flatS_get hkL hr, hLx, hP]
          exact hu
        have hfz : ∀ o, w3.frozen? ⟨g, o, none⟩ = false := fun o => frozen_of_row w3 g o cur _ hcur
        have hqs : ∀ W, Below w.heap.size w3 W → ∀ q ∈ L, SIn W q.1 q.2 := fun W hW q hq => by
          have h2 : Below w.heap.size (w2.alloc (.cells #[] 47)) w3 := (Below.refl _ _).grown hgr (by have := hb1.size; have := hb2.size; simp; omega) (by intro k hk; have := hb1.size; have := hb2.size; simp [Value.ownBlock] at hk; omega)
          exact (((hL3 q hq).below h2).below hW).all
        have hxs : ∀ W, Below w.heap.size w3 W → SIn W x P := fun W hW => by rw [← hLx, ← hP]; exact hqs W hW _ (List.getElem_mem hkL)
        have hcw := (show cell21 w3 g (0 + k * 21) x P by rw [Nat.zero_add]; exact hcell).at HN21.out
        rw [Nat.zero_add] at hcw
        have hcsz : (cs x P).size = n21 := HN21.out
        have ld1 := hcw.ldN HN21.out
        have ld2 := hcw.loadVar
        have ld3 := hcw.loadAt
        have st1 := st_store x P
        have st2 := st_storeVar x P
        have st3 := st_storeAt x P
        have hk0 : (0 : Int) ≤ (k : Int) := by omega
        have hk1 : (k : Int) < (m : Int) := by omega
        go_wp2_with (at_builtin; refine Lib.wpList_append_run _ rfl _ _ _ _ rfl _ _ rfl rfl _ _ hrun ?_)
        refine (number1 _).mono ?_
        rintro e w5 ⟨rfl, hb5⟩
        have hb4 : Below w3.heap.size w3 w5 := by (repeat (first | (with_reducible exact Below.refl _ _) | (with_reducible assumption) | (with_reducible apply bl_alloc) | (with_reducible apply bl_drewN) | (with_reducible apply bl_drew) | (with_reducible refine bl_set ?_ (by first | (simp; done) | (simp; omega)) _) | (with_reducible refine bl_call ?_ (by assumption))))
        have hg5 : g < w5.heap.size := Nat.lt_of_lt_of_le hg3 hb4.size
        have hfz5 : ∀ o, w5.frozen? ⟨g, o, none⟩ = false := fun o => (hb4.frozen (p := ⟨g, o, none⟩) hg3).trans (hfz o)
        have hc5 : cell21 w5 g (k * n21) x P := hcw.keep (hb4.block g hg3)
        have hgw : w.heap.size ≤ g := by have := hb1.size; have := hb2.size; omega
        have hB : Below w.heap.size w3 (putN g (w5) (k * n21 + 7) gV) := putN_below hgw (by with_reducible first | exact Below.refl _ _ | exact hb4.mono hb3.size)
        have hPB : Below w.heap.size w (putN g (w5) (k * n21 + 7) gV) := putN_below hgw (by with_reducible first | exact hb3 | exact bl_call hb3 hb4)
        have hlin : LIn (putN g (w5) (k * n21 + 7) gV) (l.set k (wG x)) (some ⟨g, 0, none⟩) m := by
          have h9 := field_lin hown' (by omega) hkL HN21.out (by first | rfl | exact hb4.block g hg3) (by assumption) hcell (y := (wG x)) (Q := (plG P)) (vs := gV) (by decide) (sub_g x P) (hqs _ hB) (sin_g (hxs _ hB))
          rw [hL1] at h9
          exact h9
        have gsz : gA.size = 4 := rfl
        have ht5 := cell_there (q := 4) hc5 hfz5 (i := 7) (by decide)
        have s1 : (storeCells ⟨g, k * n21 + 7, none⟩ gA.toList 0).run Try.prog w5 = .ok () (putN g w5 (k * n21 + 7) gV) := by rw [putN_eq]; exact st_mid (A := gA) ht5 gA_one
        have s2 : (storeVar 41 ⟨g, k * n21 + 7, none⟩ (.agg gA)).run Try.prog w5 = .ok () (putN g w5 (k * n21 + 7) gV) := by rw [putN_eq]; exact run_storeVar_mid (P := Try.prog) w5 g _ 41 gA ht5 e_info gA_one
        have s3 : (Instr.storeAt 41 (.pointer (some ⟨g, k * n21 + 7, none⟩)) (.agg gA)).run Try.prog w5 = .ok () (putN g w5 (k * n21 + 7) gV) := by rw [putN_eq]; exact run_storeAt_mid (P := Try.prog) w5 g _ 41 gA ht5 e_info gA_one
        go_wp2_with fail
        refine (CM.out _ _ _ (hlin.on (by first | exact Below.refl _ _ | exact (Below.refl _ _).alloc (Nat.le_refl _) _))).mono ?_
        rintro e w5 ⟨rfl, hb5⟩
        go_wp2_with fail
        refine (awake_any _).mono ?_
        rintro e w6 ⟨rfl, hb6⟩
        go_wp2_with fail
        go_ret
        exact ⟨rfl, by (repeat (first | (with_reducible exact Below.refl _ _) | (with_reducible assumption) | (with_reducible apply bl_alloc) | (with_reducible apply bl_drewN) | (with_reducible apply bl_drew) | (with_reducible refine bl_set ?_ (by first | (simp; done) | (simp; omega)) _) | (with_reducible refine bl_call ?_ (by assumption))))⟩
      · have tf : (x.g.o == 0) = false := beq_eq_false_iff_ne.2 hf
        obtain ⟨n21, hn21⟩ : ∃ n : Nat, 21 = n := ⟨_, rfl⟩
        have hsz : ∀ w, (sizeOf 47).run Try.prog w = .ok n21 w := fun w => by rw [Try.sizeOf47, hn21]
        have HN21 := Lib.hid hn21
        clear hn21
        go_enter Try.func7, Try.ntmps7
        go_wp2_with fail
        refine (HS.out _ (HH.out.on (by (repeat (first | (with_reducible exact Below.refl _ _) | (with_reducible assumption) | (with_reducible apply bl_alloc) | (with_reducible apply bl_drewN) | (with_reducible apply bl_drew) | (with_reducible refine bl_set ?_ (by first | (simp; done) | (simp; omega)) _) | (with_reducible refine bl_call ?_ (by assumption))))))).mono ?_
        rintro e w1 ⟨rfl, hb1⟩
        go_wp2_with fail
        refine (HC.out _ (HH.out.on (by (repeat (first | (with_reducible exact Below.refl _ _) | (with_reducible assumption) | (with_reducible apply bl_alloc) | (with_reducible apply bl_drewN) | (with_reducible apply bl_drew) | (with_reducible refine bl_set ?_ (by first | (simp; done) | (simp; omega)) _) | (with_reducible refine bl_call ?_ (by assumption))))))).mono ?_
        rintro e w2 ⟨rfl, hb2⟩
        have hbw : Below w.heap.size w (w2.alloc (.cells #[] 47)) := by (repeat (first | (with_reducible exact Below.refl _ _) | (with_reducible assumption) | (with_reducible apply bl_alloc) | (with_reducible apply bl_drewN) | (with_reducible apply bl_drew) | (with_reducible refine bl_set ?_ (by first | (simp; done) | (simp; omega)) _) | (with_reducible refine bl_call ?_ (by assumption))))
        obtain ⟨L, v', w3, hL1, hL2, hL3, hrun, hown, hgr⟩ := app_run (ownS_none w2) (Lin.below hbw (show Lin (Lo w.heap.size) w l p m from HH.out)) c (by simp) (by omega)
        have hown' : OwnS w3 w2.heap.size v' m L := by have h9 := hown; rw [Nat.zero_add, List.nil_append] at h9; exact h9
        have hkL : k < L.length := by omega
        obtain ⟨g, cap, cur, rfl, hg, hcur, hcap⟩ : ∃ g cap cur, v' = .slice (some ⟨g, 0, none⟩) m cap ∧ w2.heap.size ≤ g ∧ w3.heap[g]? = some (.cells cur 47 (0, 0)) ∧ m ≤ cap := by
          rcases hown'.2 with ⟨-, h0⟩ | ⟨g, cap, cur, h1, h2, h3, h4, -⟩
          · omega
          · exact ⟨g, cap, cur, h1, h2, h3, h4⟩
        have hg3 : g < w3.heap.size := (Array.getElem?_eq_some_iff.1 hcur).1
        have hb3 : Below w.heap.size w w3 := hbw.grown hgr (by have := hb1.size; have := hb2.size; simp; omega) (by intro k hk; have := hb1.size; have := hb2.size; simp [Value.ownBlock] at hk; omega)
        have hLx : L[k].1 = x := by
          rw [← HX.out]
          have h1 : (L.map (·.1))[k]'(by simpa using hkL) = L[k].1 := by simp
          rw [← h1]
          congr 1
        obtain ⟨P, hP⟩ : ∃ P, L[k].2 = P := ⟨_, rfl⟩
        have hcell : cell21 w3 g (k * 21) x P := fun r u hu => by
          have hr : r < 21 := by have := (Array.getElem?_eq_some_iff.1 hu).1; rwa [cs_size] at this
          rw [hown'.cellAt (k * 21 + r) (by omega), flatS_get hkL hr, hLx, hP]
          exact hu
        have hfz : ∀ o, w3.frozen? ⟨g, o, none⟩ = false := fun o => frozen_of_row w3 g o cur _ hcur
        have hqs : ∀ W, Below w.heap.size w3 W → ∀ q ∈ L, SIn W q.1 q.2 := fun W hW q hq => by
          have h2 : Below w.heap.size (w2.alloc (.cells #[] 47)) w3 := (Below.refl _ _).grown hgr (by have := hb1.size; have := hb2.size; simp; omega) (by intro k hk; have := hb1.size; have := hb2.size; simp [Value.ownBlock] at hk; omega)
          exact (((hL3 q hq).below h2).below hW).all
        have hxs : ∀ W, Below w.heap.size w3 W → SIn W x P := fun W hW => by rw [← hLx, ← hP]; exact hqs W hW _ (List.getElem_mem hkL)
        have hcw := (show cell21 w3 g (0 + k * 21) x P by rw [Nat.zero_add]; exact hcell).at HN21.out
        rw [Nat.zero_add] at hcw
        have hcsz : (cs x P).size = n21 := HN21.out
        have ld1 := hcw.ldN HN21.out
        have ld2 := hcw.loadVar
        have ld3 := hcw.loadAt
        have st1 := st_store x P
        have st2 := st_storeVar x P
        have st3 := st_storeAt x P
        have hk0 : (0 : Int) ≤ (k : Int) := by omega
        have hk1 : (k : Int) < (m : Int) := by omega
        go_wp2_with (at_builtin; refine Lib.wpList_append_run _ rfl _ _ _ _ rfl _ _ rfl rfl _ _ hrun ?_)
        refine (awake_any _).mono ?_
        rintro e w9 ⟨rfl, hb9⟩
        go_wp2_with fail
        go_ret
        exact ⟨rfl, by (repeat (first | (with_reducible exact Below.refl _ _) | (with_reducible assumption) | (with_reducible apply bl_alloc) | (with_reducible apply bl_drewN) | (with_reducible apply bl_drew) | (with_reducible refine bl_set ?_ (by first | (simp; done) | (simp; omega)) _) | (with_reducible refine bl_call ?_ (by assumption))))⟩
    · by_cases hf : x.di.op = 0
      · have tf : (x.di.op == 0) = true := by rw [hf]; rfl
        have CM := Lib.hid (fun p c W hi => check_gives (set_chk hkl hv (y := wD x) (by rw [hx]; rfl) (by rw [hx]; rfl) (one_d hone hf)) (p := p) (m := m) (c := c) (w := W) hi (set_sz hkl hs (by rw [hx]; rfl) (by rw [hx]; rfl) hsx))
        obtain ⟨n21, hn21⟩ : ∃ n : Nat, 21 = n := ⟨_, rfl⟩
        have hsz : ∀ w, (sizeOf 47).run Try.prog w = .ok n21 w := fun w => by rw [Try.sizeOf47, hn21]
        have HN21 := Lib.hid hn21
        clear hn21
        go_enter Try.func7, Try.ntmps7
        go_wp2_with fail
        refine (HS.out _ (HH.out.on (by (repeat (first | (with_reducible exact Below.refl _ _) | (with_reducible assumption) | (with_reducible apply bl_alloc) | (with_reducible apply bl_drewN) | (with_reducible apply bl_drew) | (with_reducible refine bl_set ?_ (by first | (simp; done) | (simp; omega)) _) | (with_reducible refine bl_call ?_ (by assumption))))))).mono ?_
        rintro e w1 ⟨rfl, hb1⟩
        go_wp2_with fail
        refine (HC.out _ (HH.out.on (by (repeat (first | (with_reducible exact Below.refl _ _) | (with_reducible assumption) | (with_reducible apply bl_alloc) | (with_reducible apply bl_drewN) | (with_reducible apply bl_drew) | (with_reducible refine bl_set ?_ (by first | (simp; done) | (simp; omega)) _) | (with_reducible refine bl_call ?_ (by assumption))))))).mono ?_
        rintro e w2 ⟨rfl, hb2⟩
        have hbw : Below w.heap.size w (w2.alloc (.cells #[] 47)) := by (repeat (first | (with_reducible exact Below.refl _ _) | (with_reducible assumption) | (with_reducible apply bl_alloc) | (with_reducible apply bl_drewN) | (with_reducible apply bl_drew) | (with_reducible refine bl_set ?_ (by first | (simp; done) | (simp; omega)) _) | (with_reducible refine bl_call ?_ (by assumption))))
        obtain ⟨L, v', w3, hL1, hL2, hL3, hrun, hown, hgr⟩ := app_run (ownS_none w2) (Lin.below hbw (show Lin (Lo w.heap.size) w l p m from HH.out)) c (by simp) (by omega)
        have hown' : OwnS w3 w2.heap.size v' m L := by have h9 := hown; rw [Nat.zero_add, List.nil_append] at h9; exact h9
        have hkL : k < L.length := by omega
        obtain ⟨g, cap, cur, rfl, hg, hcur, hcap⟩ : ∃ g cap cur, v' = .slice (some ⟨g, 0, none⟩) m cap ∧ w2.heap.size ≤ g ∧ w3.heap[g]? = some (.cells cur 47 (0, 0)) ∧ m ≤ cap := by
          rcases hown'.2 with ⟨-, h0⟩ | ⟨g, cap, cur, h1, h2, h3, h4, -⟩
          · omega
          · exact ⟨g, cap, cur, h1, h2, h3, h4⟩
        have hg3 : g < w3.heap.size := (Array.getElem?_eq_some_iff.1 hcur).1
        have hb3 : Below w.heap.size w w3 := hbw.grown hgr (by have := hb1.size; have := hb2.size; simp; omega) (by intro k hk; have := hb1.size; have := hb2.size; simp [Value.ownBlock] at hk; omega)
        have hLx : L[k].1 = x := by
          rw [← HX.out]
          have h1 : (L.map (·.1))[k]'(by simpa using hkL) = L[k].1 := by simp
          rw [← h1]
          congr 1
        obtain ⟨P, hP⟩ : ∃ P, L[k].2 = P := ⟨_, rfl⟩
        have hcell : cell21 w3 g (k * 21) x P := fun r u hu => by
          have hr : r < 21 := by have := (Array.getElem?_eq_some_iff.1 hu).1; rwa [cs_size] at this
          rw [hown'.cellAt (k * 21 + r) (by omega), flatS_get hkL hr, hLx, hP]
          exact hu
        have hfz : ∀ o, w3.frozen? ⟨g, o, none⟩ = false := fun o => frozen_of_row w3 g o cur _ hcur
        have hqs : ∀ W, Below w.heap.size w3 W → ∀ q ∈ L, SIn W q.1 q.2 := fun W hW q hq => by
          have h2 : Below w.heap.size (w2.alloc (.cells #[] 47)) w3 := (Below.refl _ _).grown hgr (by have := hb1.size; have := hb2.size; simp; omega) (by intro k hk; have := hb1.size; have := hb2.size; simp [Value.ownBlock] at hk; omega)
          exact (((hL3 q hq).below h2).below hW).all
        have hxs : ∀ W, Below w.heap.size w3 W → SIn W x P := fun W hW => by rw [← hLx, ← hP]; exact hqs W hW _ (List.getElem_mem hkL)
        have hcw := (show cell21 w3 g (0 + k * 21) x P by rw [Nat.zero_add]; exact hcell).at HN21.out
        rw [Nat.zero_add] at hcw
        have hcsz : (cs x P).size = n21 := HN21.out
        have ld1 := hcw.ldN HN21.out
        have ld2 := hcw.loadVar
        have ld3 := hcw.loadAt
        have st1 := st_store x P
        have st2 := st_storeVar x P
        have st3 := st_storeAt x P
        have hk0 : (0 : Int) ≤ (k : Int) := by omega
        have hk1 : (k : Int) < (m : Int) := by omega
        have hb4 : Below w3.heap.size w3 (w3.alloc (.cells (cs x P) 47)) := by (repeat (first | (with_reducible exact Below.refl _ _) | (with_reducible assumption) | (with_reducible apply bl_alloc) | (with_reducible apply bl_drewN) | (with_reducible apply bl_drew) | (with_reducible refine bl_set ?_ (by first | (simp; done) | (simp; omega)) _) | (with_reducible refine bl_call ?_ (by assumption))))
        obtain ⟨W4, hW4⟩ : ∃ W, w3.alloc (.cells (cs x P) 47) = W := ⟨_, rfl⟩
        rw [hW4] at hb4
        have hg5 : g < W4.heap.size := Nat.lt_of_lt_of_le hg3 hb4.size
        have hfz5 : ∀ o, W4.frozen? ⟨g, o, none⟩ = false := fun o => (hb4.frozen (p := ⟨g, o, none⟩) hg3).trans (hfz o)
        have hc5 : cell21 W4 g (k * n21) x P := hcw.keep (hb4.block g hg3)
        have hgw : w.heap.size ≤ g := by have := hb1.size; have := hb2.size; omega
        have hB : Below w.heap.size w3 (putN g (W4) (k * n21 + 12) dV) := putN_below hgw (by with_reducible first | exact Below.refl _ _ | exact hb4.mono hb3.size)
        have hPB : Below w.heap.size w (putN g (W4) (k * n21 + 12) dV) := putN_below hgw (by with_reducible first | exact hb3 | exact bl_call hb3 hb4)
        have hlin : LIn (putN g (W4) (k * n21 + 12) dV) (l.set k (wD x)) (some ⟨g, 0, none⟩) m := by
          have h9 := field_lin hown' (by omega) hkL HN21.out (by first | rfl | exact hb4.block g hg3) (by assumption) hcell (y := (wD x)) (Q := (plD P)) (vs := dV) (by decide) (sub_d x P) (hqs _ hB) (sin_d (hxs _ hB))
          rw [hL1] at h9
          exact h9
        have gsz : dA.size = 6 := rfl
        have ht5 := cell_there (q := 6) hc5 hfz5 (i := 12) (by decide)
        have s1 : (storeCells ⟨g, k * n21 + 12, none⟩ dA.toList 0).run Try.prog W4 = .ok () (putN g W4 (k * n21 + 12) dV) := by rw [putN_eq]; exact st_mid (A := dA) ht5 dA_one
        have s2 : (storeVar 45 ⟨g, k * n21 + 12, none⟩ (.agg dA)).run Try.prog W4 = .ok () (putN g W4 (k * n21 + 12) dV) := by rw [putN_eq]; exact run_storeVar_mid (P := Try.prog) W4 g _ 45 dA ht5 d_info dA_one
        have s3 : (Instr.storeAt 45 (.pointer (some ⟨g, k * n21 + 12, none⟩)) (.agg dA)).run Try.prog W4 = .ok () (putN g W4 (k * n21 + 12) dV) := by rw [putN_eq]; exact run_storeAt_mid (P := Try.prog) W4 g _ 45 dA ht5 d_info dA_one
        clear hb4 hg5 hfz5 hc5 ht5
        subst hW4
        go_wp2_with (first | (refine wpList_buildTo rfl 45 _ rfl _ rfl dA (by kernel_rfl) ?_) | (at_builtin; refine Lib.wpList_append_run _ rfl _ _ _ _ rfl _ _ rfl rfl _ _ hrun ?_))
        refine (CM.out _ _ _ (hlin.on (by first | exact Below.refl _ _ | exact (Below.refl _ _).alloc (Nat.le_refl _) _))).mono ?_
        rintro e w5 ⟨rfl, hb5⟩
        go_wp2_with fail
        refine (awake_any _).mono ?_
        rintro e w6 ⟨rfl, hb6⟩
        go_wp2_with fail
        go_ret
        exact ⟨rfl, by (repeat (first | (with_reducible exact Below.refl _ _) | (with_reducible assumption) | (with_reducible apply bl_alloc) | (with_reducible apply bl_drewN) | (with_reducible apply bl_drew) | (with_reducible refine bl_set ?_ (by first | (simp; done) | (simp; omega)) _) | (with_reducible refine bl_call ?_ (by assumption))))⟩
      · have tf : (x.di.op == 0) = false := beq_eq_false_iff_ne.2 hf
        obtain ⟨n21, hn21⟩ : ∃ n : Nat, 21 = n := ⟨_, rfl⟩
        have hsz : ∀ w, (sizeOf 47).run Try.prog w = .ok n21 w := fun w => by rw [Try.sizeOf47, hn21]
        have HN21 := Lib.hid hn21
        clear hn21
        go_enter Try.func7, Try.ntmps7
        go_wp2_with fail
        refine (HS.out _ (HH.out.on (by (repeat (first | (with_reducible exact Below.refl _ _) | (with_reducible assumption) | (with_reducible apply bl_alloc) | (with_reducible apply bl_drewN) | (with_reducible apply bl_drew) | (with_reducible refine bl_set ?_ (by first | (simp; done) | (simp; omega)) _) | (with_reducible refine bl_call ?_ (by assumption))))))).mono ?_
        rintro e w1 ⟨rfl, hb1⟩
        go_wp2_with fail
        refine (HC.out _ (HH.out.on (by (repeat (first | (with_reducible exact Below.refl _ _) | (with_reducible assumption) | (with_reducible apply bl_alloc) | (with_reducible apply bl_drewN) | (with_reducible apply bl_drew) | (with_reducible refine bl_set ?_ (by first | (simp; done) | (simp; omega)) _) | (with_reducible refine bl_call ?_ (by assumption))))))).mono ?_
        rintro e w2 ⟨rfl, hb2⟩
        have hbw : Below w.heap.size w (w2.alloc (.cells #[] 47)) := by (repeat (first | (with_reducible exact Below.refl _ _) | (with_reducible assumption) | (with_reducible apply bl_alloc) | (with_reducible apply bl_drewN) | (with_reducible apply bl_drew) | (with_reducible refine bl_set ?_ (by first | (simp; done) | (simp; omega)) _) | (with_reducible refine bl_call ?_ (by assumption))))
        obtain ⟨L, v', w3, hL1, hL2, hL3, hrun, hown, hgr⟩ := app_run (ownS_none w2) (Lin.below hbw (show Lin (Lo w.heap.size) w l p m from HH.out)) c (by simp) (by omega)
        have hown' : OwnS w3 w2.heap.size v' m L := by have h9 := hown; rw [Nat.zero_add, List.nil_append] at h9; exact h9
        have hkL : k < L.length := by omega
        obtain ⟨g, cap, cur, rfl, hg, hcur, hcap⟩ : ∃ g cap cur, v' = .slice (some ⟨g, 0, none⟩) m cap ∧ w2.heap.size ≤ g ∧ w3.heap[g]? = some (.cells cur 47 (0, 0)) ∧ m ≤ cap := by
          rcases hown'.2 with ⟨-, h0⟩ | ⟨g, cap, cur, h1, h2, h3, h4, -⟩
          · omega
          · exact ⟨g, cap, cur, h1, h2, h3, h4⟩
        have hg3 : g < w3.heap.size := (Array.getElem?_eq_some_iff.1 hcur).1
        have hb3 : Below w.heap.size w w3 := hbw.grown hgr (by have := hb1.size; have := hb2.size; simp; omega) (by intro k hk; have := hb1.size; have := hb2.size; simp [Value.ownBlock] at hk; omega)
        have hLx : L[k].1 = x := by
          rw [← HX.out]
          have h1 : (L.map (·.1))[k]'(by simpa using hkL) = L[k].1 := by simp
          rw [← h1]
          congr 1
        obtain ⟨P, hP⟩ : ∃ P, L[k].2 = P := ⟨_, rfl⟩
        have hcell : cell21 w3 g (k * 21) x P := fun r u hu => by
          have hr : r < 21 := by have := (Array.getElem?_eq_some_iff.1 hu).1; rwa [cs_size] at this
          rw [hown'.cellAt (k * 21 + r) (by omega), flatS_get hkL hr, hLx, hP]
          exact hu
        have hfz : ∀ o, w3.frozen? ⟨g, o, none⟩ = false := fun o => frozen_of_row w3 g o cur _ hcur
        have hqs : ∀ W, Below w.heap.size w3 W → ∀ q ∈ L, SIn W q.1 q.2 := fun W hW q hq => by
          have h2 : Below w.heap.size (w2.alloc (.cells #[] 47)) w3 := (Below.refl _ _).grown hgr (by have := hb1.size; have := hb2.size; simp; omega) (by intro k hk; have := hb1.size; have := hb2.size; simp [Value.ownBlock] at hk; omega)
          exact (((hL3 q hq).below h2).below hW).all
        have hxs : ∀ W, Below w.heap.size w3 W → SIn W x P := fun W hW => by rw [← hLx, ← hP]; exact hqs W hW _ (List.getElem_mem hkL)
        have hcw := (show cell21 w3 g (0 + k * 21) x P by rw [Nat.zero_add]; exact hcell).at HN21.out
        rw [Nat.zero_add] at hcw
        have hcsz : (cs x P).size = n21 := HN21.out
        have ld1 := hcw.ldN HN21.out
        have ld2 := hcw.loadVar
        have ld3 := hcw.loadAt
        have st1 := st_store x P
        have st2 := st_storeVar x P
        have st3 := st_storeAt x P
        have hk0 : (0 : Int) ≤ (k : Int) := by omega
        have hk1 : (k : Int) < (m : Int) := by omega
        go_wp2_with (at_builtin; refine Lib.wpList_append_run _ rfl _ _ _ _ rfl _ _ rfl rfl _ _ hrun ?_)
        refine (awake_any _).mono ?_
        rintro e w9 ⟨rfl, hb9⟩
        go_wp2_with fail
        go_ret
        exact ⟨rfl, by (repeat (first | (with_reducible exact Below.refl _ _) | (with_reducible assumption) | (with_reducible apply bl_alloc) | (with_reducible apply bl_drewN) | (with_reducible apply bl_drew) | (with_reducible refine bl_set ?_ (by first | (simp; done) | (simp; omega)) _) | (with_reducible refine bl_call ?_ (by assumption))))⟩
end Go.Proofs.Ytonlmnlpofgccaa.Sm
