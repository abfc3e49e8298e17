/-
  Parts of this proof: How lists of statements among the arguments are read, and what the bound on the arguments' bulk gives. The contract of Keyword. The contract of Check.
-/
import Derived.Test.YtaaffmbnhjaebaaGreatZDCheck2
import Derived.JoinedCond
namespace Go.Proofs.YtaaffmbnhjaebaaGreat.Sm
open Go.ChangeShapes Go.WideShapes Go.ChangeAt Go.RowKit Go.Joins Go.Deep
open Go.Proofs.YtaaffmbnhjaebaaGreat.Ex (Ex Kin In Lo cell4 kin_iff block_lt add_off)
set_option maxHeartbeats 2000000
set_option linter.unusedVariables false
section
variable {H : Type} {enc : TypeId × Value → H}
abbrev bk (d : DataW H) : Nat := Rows.uptoBulk d
abbrev bkA (l : List (DataW H)) : Nat := Rows.uptoBulkAll l
theorem bk_one (d : DataW H) : 1 ≤ bk d := by
 cases d with
 | lit l => cases l <;> simp [bk, Rows.uptoBulk]
 | nil => simp [bk, Rows.uptoBulk]
 | ptr d => simp [bk, Rows.uptoBulk]
 | slice elems spare => simp [bk, Rows.uptoBulk]
 | agg parts => simp [bk, Rows.uptoBulk]
 | iface t d => simp [bk, Rows.uptoBulk]
 | map entries => simp [bk, Rows.uptoBulk]
 | held h => simp [bk, Rows.uptoBulk]
theorem bk_mem {d : DataW H} {l : List (DataW H)} (h : d ∈ l) : bk d ≤ bkA l := by
 induction l with
 | nil => cases h
 | cons x r ih =>
  simp only [bkA, bk, Rows.uptoBulkAll] at ih ⊢
  rcases List.mem_cons.1 h with rfl | h
  · omega
  · have := ih h; omega
theorem sum_cnt (E : Nat → Ex) (D : Nat → DataW H) : ∀ (l : List Nat), (∀ i ∈ l, 5 * Ex.cnt (E i) ≤ bk (D i)) → 5 * Ex.cntL (l.map E) ≤ bkA (l.map D)
 | [], _ => by simp [Ex.cntL]
 | i :: t, h => by
  have h1 := h i List.mem_cons_self
  have h2 := sum_cnt E D t fun j hj => h j (List.mem_cons_of_mem _ hj)
  simp only [List.map_cons, Ex.cntL, bkA, bk, Rows.uptoBulkAll] at h1 h2 ⊢
  omega
theorem list4 {α : Type} {l : List α} {a b c d : α} (h : l.length = 4) (h0 : l[0]? = some a) (h1 : l[1]? = some b) (h2 : l[2]? = some c) (h3 : l[3]? = some d) : l = [a, b, c, d] := by
 match l, h with
 | [w, x, y, z], _ => simp at h0 h1 h2 h3; subst h0 h1 h2 h3; rfl
theorem zPFrame_0 {p : Prop} (h : p := by
 intro i
 by_cases hil : i < len
 · obtain ⟨e, p, m', c', h1, h2, h4, h3⟩ := hcell i hil
   refine ⟨e, fun _ => ⟨p, m', c', Ex.cell4_of fun r hr => ?_, h2, h4, h3⟩⟩
   have := h1 r hr
   rwa [add_off, add_off] at this
 · exact ⟨.mk 0 ⟨#[]⟩ 0 [], fun h => absurd h hil⟩
 ) : p := h
theorem zPFrame_1 {p : Prop} (h : p := by
 refine kin_iff.2 ⟨by simp, by omega, .inr ⟨b, off, rfl, hb, hb, Lib.hid fun k hk => ?_⟩⟩
 simp only [List.length_map, List.length_range] at hk
 simp only [List.getElem_map, List.getElem_range]
 obtain ⟨p, m', c', h1, h2, -⟩ := hE k hk
 exact ⟨p, m', c', h1, h2⟩
 ) : p := h
theorem zPFrame_2 {p : Prop} (h : p := by
 refine ⟨e, p, m', c', fun r hr => ?_, hin, hcn, fun x hx => Nat.le_trans (hw x hx) hDb⟩
 rw [hat r (by omega), hx2]
 match r, hr with
 | 0, _ => rfl
 | 1, _ => rfl
 | 2, _ => rfl
 | 3, _ => rfl
 ) : p := h
theorem zPFrame_3 {p : Prop} (h : p := by
 simp only [List.map_cons, List.map_nil, bk, Rows.uptoBulk, Rows.uptoBulkAll]
 omega
 ) : p := h
theorem zPFrame_4 {p : Prop} (h : p := by rw [hlen]; simp) : p := h
set_option maxRecDepth 100000 in
theorem ex_up {w : World} (N : Nat) : ∀ {fuel : Nat} {cs : List Value} {y : DataW H × List MemPlace}, SizeOf.sizeOf y.1 ≤ N → cs.length = 4 → DataW.trod enc Tryz.prog w 0 (fun _ => true) true fuel 171 cs = some y →
 ∃ (e : Ex) (p : Option Addr) (m c : Nat), cs = [.int .i64 e.o, .string e.s, .int .i64 e.n, .slice p m c] ∧ In w e p m ∧ 5 * Ex.cnt e ≤ bk y.1 ∧ ∀ x ∈ Ex.pre e, x.s.size ≤ bk y.1 := by
 induction N with
 | zero =>
  intro fuel cs y hs
  exfalso
  cases h : y.1 <;> rw [h] at hs <;> simp at hs
 | succ N ih =>
  intro fuel cs y hN hl hf
  obtain ⟨f0, f1, f2, f3, hs, h1, hC, t0, t1, t2, t3⟩ := Ex.ex_is
  obtain ⟨c0, c1, c2, c3, rfl⟩ := Ex.four_of hl
  obtain ⟨ys, m, -, hy, -, hlen, hg⟩ := DataW.trod_struct hs hf
  obtain ⟨o0, k0⟩ := hone_of h1 0 f0 rfl
  have e0 := hg 0 f0 rfl
  rw [o0, k0, t0] at e0
  obtain ⟨y0, g0⟩ : ∃ y, ys[0]? = some y := ⟨ys[0]'zPFrame_4, List.getElem?_eq_getElem _⟩
  rw [g0] at e0
  have e0 : DataW.trod enc Tryz.prog w 0 (fun _ => true) true m 168 [c0] = some y0 := by simpa [Value.cells] using e0
  obtain ⟨o1, k1⟩ := hone_of h1 1 f1 rfl
  have e1 := hg 1 f1 rfl
  rw [o1, k1, t1] at e1
  obtain ⟨y1, g1⟩ : ∃ y, ys[1]? = some y := ⟨ys[1]'zPFrame_4, List.getElem?_eq_getElem _⟩
  rw [g1] at e1
  have e1 : DataW.trod enc Tryz.prog w 0 (fun _ => true) true m 9 [c1] = some y1 := by simpa [Value.cells] using e1
  obtain ⟨o2, k2⟩ := hone_of h1 2 f2 rfl
  have e2 := hg 2 f2 rfl
  rw [o2, k2, t2] at e2
  obtain ⟨y2, g2⟩ : ∃ y, ys[2]? = some y := ⟨ys[2]'zPFrame_4, List.getElem?_eq_getElem _⟩
  rw [g2] at e2
  have e2 : DataW.trod enc Tryz.prog w 0 (fun _ => true) true m 3 [c2] = some y2 := by simpa [Value.cells] using e2
  obtain ⟨o3, k3⟩ := hone_of h1 3 f3 rfl
  have e3 := hg 3 f3 rfl
  rw [o3, k3, t3] at e3
  obtain ⟨y3, g3⟩ : ∃ y, ys[3]? = some y := ⟨ys[3]'zPFrame_4, List.getElem?_eq_getElem _⟩
  rw [g3] at e3
  have e3 : DataW.trod enc Tryz.prog w 0 (fun _ => true) true m 169 [c3] = some y3 := by simpa [Value.cells] using e3
  obtain ⟨a0, q0, -, -⟩ := DataW.trod_int Tryz.underlying168 e0
  obtain ⟨s, q1, d1, -⟩ := DataW.trod_string Tryz.underlying9 e1
  obtain ⟨a2, q2, -, -⟩ := DataW.trod_int Tryz.underlying3 e2
  simp only [List.cons.injEq, and_true] at q0 q1 q2
  subst q0 q1 q2
  have hyb : bk y.1 = 1 + bk y0.1 + bk y1.1 + bk y2.1 + bk y3.1 := by
   have hys : ys = [y0, y1, y2, y3] := list4 hlen g0 g1 g2 g3
   rw [hy, hys]
   exact zPFrame_3
  have hb0 := bk_one y0.1
  have hb2 := bk_one y2.1
  have hb1 : bk y1.1 = s.size + 1 := by rw [d1]; simp only [bk, Rows.uptoBulk, Array.length_toList]; rfl
  have hb3 := bk_one y3.1
  have hw1 : s.size ≤ bk y.1 := by omega
  have hs3 : SizeOf.sizeOf y3.1 < SizeOf.sizeOf y.1 := by
   rw [hy]
   show SizeOf.sizeOf y3.1 < SizeOf.sizeOf (DataW.agg (ys.map (·.1)))
   have hm : y3.1 ∈ ys.map (·.1) := List.mem_map.2 ⟨y3, List.mem_of_getElem? g3, rfl⟩
   have := List.sizeOf_lt_of_mem hm
   rw [DataW.agg.sizeOf_spec]
   omega
  rcases open_slice Tryz.underlying169 e3 with ⟨hcs, -⟩ | ⟨a, len, cap, mm, n, D, Pl, hcs, -, hl3, hm3, hmm, hx, hi⟩
  · injection hcs with hcs hnil
    subst hcs
    refine ⟨.mk a0 s a2 [], none, 0, 0, rfl, Ex.Kin.zero, by rw [Ex.cnt_one, Ex.cntL]; omega, fun x hx => ?_⟩
    rw [Ex.pre_one, Ex.preL] at hx
    rw [List.mem_singleton.1 hx]
    exact hw1
  · injection hcs with hcs hnil
    subst hcs
    simp only [if_true] at hmm
    have hd : y3.1 = .slice ((List.range len).map D) ((List.range (mm - len)).map fun j => D (len + j)) := congrArg Prod.fst hx
    have hcell : ∀ i, i < len → ∃ (e : Ex) (p : Option Addr) (m c : Nat), (∀ r, r < 4 → w.cell? ((a.add (i * 4)).add r) = some (Ex.c4 e p m c r)) ∧ In w e p m ∧ 5 * Ex.cnt e ≤ bk (D i) ∧ ∀ x ∈ Ex.pre e, x.s.size ≤ bk y.1 := by
     intro i hil
     obtain ⟨cs', hc, ht'⟩ := hi i (by omega)
     rw [hC] at hc
     obtain ⟨-, hcl, hat⟩ := World.cells?_some hc
     have hDm : D i ∈ (List.range len).map D := List.mem_map.2 ⟨i, List.mem_range.2 hil, rfl⟩
     have hsz : SizeOf.sizeOf (D i) ≤ N := by
      have h1 := List.sizeOf_lt_of_mem hDm
      rw [hd, DataW.slice.sizeOf_spec] at hs3
      omega
     have hDb : bk (D i) ≤ bk y.1 := by
      have h1 := bk_mem hDm
      have h2 : bk y3.1 = bkA ((List.range len).map D) + bkA ((List.range (mm - len)).map fun j => D (len + j)) + 1 := by rw [hd]; simp only [bk, bkA, Rows.uptoBulk]
      omega
     obtain ⟨e, p, m', c', hx2, hin, hcn, hw⟩ := ih (cs := cs') (y := (D i, Pl i)) hsz (by omega) ht'
     exact zPFrame_2
    unfold maxLen at hm3
    by_cases h0 : len = 0
    · subst h0
      refine ⟨.mk a0 s a2 [], some a, 0, cap, rfl, Ex.Kin.zero, by rw [Ex.cnt_one, Ex.cntL]; omega, fun x hx => ?_⟩
      rw [Ex.pre_one, Ex.preL] at hx
      rw [List.mem_singleton.1 hx]
      exact hw1
    · obtain ⟨b, off, spot⟩ := a
      obtain ⟨e0, p0, m0, c0, hx0, -⟩ := hcell 0 (by omega)
      have hspot : spot = none := by simpa [Addr.add] using World.cell?_spot (hx0 0 (by omega))
      subst hspot
      have hb : b < w.heap.size := by
       have := hx0 0 (by omega)
       rw [add_off, add_off] at this
       exact block_lt this
      have hex : ∀ i, ∃ e : Ex, i < len → ∃ p m c, cell4 w b (off + i * 4) e p m c ∧ In w e p m ∧ 5 * Ex.cnt e ≤ bk (D i) ∧ ∀ x ∈ Ex.pre e, x.s.size ≤ bk y.1 := by
       exact zPFrame_0
      have hE : ∀ i, i < len → ∃ p m c, cell4 w b (off + i * 4) (hex i).choose p m c ∧ In w (hex i).choose p m ∧ 5 * Ex.cnt (hex i).choose ≤ bk (D i) ∧ ∀ x ∈ Ex.pre (hex i).choose, x.s.size ≤ bk y.1 := fun i hi => (hex i).choose_spec hi
      have hsum := sum_cnt (fun i => (hex i).choose) D (List.range len) fun i hi => by
       obtain ⟨p, m', c', -, -, h3, -⟩ := hE i (List.mem_range.1 hi)
       exact h3
      have h2 : bk y3.1 = bkA ((List.range len).map D) + bkA ((List.range (mm - len)).map fun j => D (len + j)) + 1 := by rw [hd]; simp only [bk, bkA, Rows.uptoBulk]
      refine ⟨.mk a0 s a2 ((List.range len).map fun i => (hex i).choose), some ⟨b, off, none⟩, len, cap, rfl, ?_, by rw [Ex.cnt_one]; omega, fun x hx => ?_⟩
      · exact zPFrame_1
      · rw [Ex.pre_one] at hx
        rcases List.mem_cons.1 hx with rfl | hx
        · exact hw1
        · obtain ⟨z, hz, hxz⟩ := Ex.preL_mem' hx
          obtain ⟨i, hi2, rfl⟩ := List.mem_map.1 hz
          obtain ⟨p, m', c', -, -, -, h3⟩ := hE i (List.mem_range.1 hi2)
          exact h3 x hxz
theorem exs_up {w : World} {fuel : Nat} {v : Value} {y : DataW H × List MemPlace} (h : DataW.trod enc Tryz.prog w 0 (fun _ => true) true fuel 169 [v] = some y) :
 ∃ (l : List Ex) (p : Option Addr) (m c : Nat), v = .slice p m c ∧ In w (.mk 0 nE 0 l) p m ∧ 5 * Ex.cntL l ≤ bk y.1 ∧ ∀ z ∈ l, ∀ x ∈ Ex.pre z, x.s.size ≤ bk y.1 := by
 rcases open_slice Tryz.underlying169 h with ⟨hcs, hy⟩ | ⟨a, len, cap, mm, n, D, Pl, hcs, -, hl3, hm3, hmm, hx, hi⟩
 · injection hcs with hcs hnil
   subst hcs
   exact ⟨[], none, 0, 0, rfl, Ex.Kin.zero, by rw [Ex.cntL]; omega, fun z hz => by cases hz⟩
 · injection hcs with hcs hnil
   subst hcs
   simp only [if_true] at hmm
   obtain ⟨f0, f1, f2, f3, hs, h1, hC, t0, t1, t2, t3⟩ := Ex.ex_is
   have hd : y.1 = .slice ((List.range len).map D) ((List.range (mm - len)).map fun j => D (len + j)) := congrArg Prod.fst hx
   have h2 : bk y.1 = bkA ((List.range len).map D) + bkA ((List.range (mm - len)).map fun j => D (len + j)) + 1 := by rw [hd]; simp only [bk, bkA, Rows.uptoBulk]
   have hcell : ∀ i, i < len → ∃ (e : Ex) (p : Option Addr) (m c : Nat), (∀ r, r < 4 → w.cell? ((a.add (i * 4)).add r) = some (Ex.c4 e p m c r)) ∧ In w e p m ∧ 5 * Ex.cnt e ≤ bk (D i) ∧ ∀ x ∈ Ex.pre e, x.s.size ≤ bk y.1 := by
    intro i hil
    obtain ⟨cs', hc, ht'⟩ := hi i (by omega)
    rw [hC] at hc
    obtain ⟨-, hcl, hat⟩ := World.cells?_some hc
    have hDm : D i ∈ (List.range len).map D := List.mem_map.2 ⟨i, List.mem_range.2 hil, rfl⟩
    have hDb : bk (D i) ≤ bk y.1 := by have h1 := bk_mem hDm; omega
    obtain ⟨e, p, m', c', hx2, hin, hcn, hw⟩ := ex_up (w := w) _ (cs := cs') (y := (D i, Pl i)) (Nat.le_refl _) (by omega) ht'
    exact zPFrame_2
   unfold maxLen at hm3
   by_cases h0 : len = 0
   · subst h0
     exact ⟨[], some a, 0, cap, rfl, Ex.Kin.zero, by rw [Ex.cntL]; omega, fun z hz => by cases hz⟩
   · obtain ⟨b, off, spot⟩ := a
     obtain ⟨e0, p0, m0, c0, hx0, -⟩ := hcell 0 (by omega)
     have hspot : spot = none := by simpa [Addr.add] using World.cell?_spot (hx0 0 (by omega))
     subst hspot
     have hb : b < w.heap.size := by
      have := hx0 0 (by omega)
      rw [add_off, add_off] at this
      exact block_lt this
     have hex : ∀ i, ∃ e : Ex, i < len → ∃ p m c, cell4 w b (off + i * 4) e p m c ∧ In w e p m ∧ 5 * Ex.cnt e ≤ bk (D i) ∧ ∀ x ∈ Ex.pre e, x.s.size ≤ bk y.1 := by
      exact zPFrame_0
     have hE : ∀ i, i < len → ∃ p m c, cell4 w b (off + i * 4) (hex i).choose p m c ∧ In w (hex i).choose p m ∧ 5 * Ex.cnt (hex i).choose ≤ bk (D i) ∧ ∀ x ∈ Ex.pre (hex i).choose, x.s.size ≤ bk y.1 := fun i hi => (hex i).choose_spec hi
     have hsum := sum_cnt (fun i => (hex i).choose) D (List.range len) fun i hi => by
      obtain ⟨p, m', c', -, -, h3, -⟩ := hE i (List.mem_range.1 hi)
      exact h3
     refine ⟨(List.range len).map fun i => (hex i).choose, some ⟨b, off, none⟩, len, cap, rfl, ?_, by omega, fun z hz x hx => ?_⟩
     · exact zPFrame_1
     · obtain ⟨i, hi2, rfl⟩ := List.mem_map.1 hz
       obtain ⟨p, m', c', -, -, -, h3⟩ := hE i (List.mem_range.1 hi2)
       exact h3 x hx
theorem c_int : Tryz.prog.cellsOf 3 = 1 := by kernel_rfl
theorem bkA_lits (k : IntKind) (l : List Int) : bkA (lits (H := H) k l) = l.length := by
 induction l with
 | nil => rfl
 | cons x t ih =>
  simp only [lits, List.map_cons, bkA, Rows.uptoBulkAll, Rows.uptoBulk, List.length_cons] at ih ⊢
  omega
theorem ints_up {w : World} {fuel : Nat} {v : Value} {y : DataW H × List MemPlace} (h : DataW.trod enc Tryz.prog w 0 (fun _ => true) true fuel 86 [v] = some y) :
 ∃ (l : List Int) (p : Option Addr) (m c : Nat), v = .slice p m c ∧ Ints (Lo w.heap.size) w l p m ∧ l.length ≤ bk y.1 := by
 rcases open_ints Tryz.underlying86 Tryz.underlying3 c_int h with ⟨hcs, -⟩ | ⟨a, len, cap, zs, hcs, -, hl, hm, hz, hy, hcell, -⟩
 · simp only [List.cons.injEq, and_true] at hcs
   exact ⟨[], none, 0, 0, hcs, ⟨rfl, by omega, .inl rfl⟩, Nat.zero_le _⟩
 · simp only [List.cons.injEq, and_true] at hcs
   simp only [if_true] at hz
   have hd : y.1 = .slice (lits .i64 (zs.take len)) (lits .i64 (zs.drop len)) := congrArg Prod.fst hy
   have h2 : bk y.1 = bkA (lits (H := H) .i64 (zs.take len)) + bkA (lits (H := H) .i64 (zs.drop len)) + 1 := by rw [hd]; simp only [bk, bkA, Rows.uptoBulk]
   rw [bkA_lits] at h2
   have hlen : (zs.take len).length = len := by simp; omega
   refine ⟨zs.take len, some a, len, cap, hcs, ⟨hlen, by unfold maxLen at hm; omega, ?_⟩, by omega⟩
   by_cases h0 : len = 0
   · exact .inl h0
   · obtain ⟨b, off, spot⟩ := a
     have hspot : spot = none := by simpa [Addr.add] using World.cell?_spot (hcell 0 (by omega))
     subst hspot
     have hc : ∀ j, j < len → w.cell? ⟨b, off + j, none⟩ = some (.int .i64 (zs.getD j 0)) := fun j hj => by rw [← add_off]; exact hcell j (by omega)
     have hb := block_lt (hc 0 (by omega))
     refine .inr ⟨b, off, rfl, hb, hb, Lib.hid fun k hk => ?_⟩
     rw [hc k (by omega)]
     simp [List.getD, List.getElem?_eq_getElem (show k < zs.length by omega)]
theorem cof_api_StmtOp : Tryz.prog.cellsOf 167 = 1 := by kernel_rfl
theorem cof_string : Tryz.prog.cellsOf 9 = 1 := by kernel_rfl
theorem cof_api_Expr : Tryz.prog.cellsOf 171 = 4 := by kernel_rfl
theorem cof_Lapi_Expr : Tryz.prog.cellsOf 169 = 1 := by kernel_rfl
theorem cof_api_Dist : Tryz.prog.cellsOf 88 = 6 := by kernel_rfl
theorem cof_bool : Tryz.prog.cellsOf 4 = 1 := by kernel_rfl
theorem cof_Lapi_Stmt : Tryz.prog.cellsOf 77 = 1 := by kernel_rfl
theorem cof_api_DistOp : Tryz.prog.cellsOf 85 = 1 := by kernel_rfl
theorem cof_Lint : Tryz.prog.cellsOf 86 = 1 := by kernel_rfl
theorem dist_is : ∃ f0 f1 f2 f3 f4 f5 : Field, Tryz.prog.underlying 88 = some (.struct #[f0, f1, f2, f3, f4, f5]) ∧ Tryz.prog.cellsOf 88 = 6 ∧ (f0.type = 85 ∧ f0.offset = 0) ∧ (f1.type = 3 ∧ f1.offset = 1) ∧ (f2.type = 3 ∧ f2.offset = 2) ∧ (f3.type = 3 ∧ f3.offset = 3) ∧ (f4.type = 86 ∧ f4.offset = 4) ∧ (f5.type = 86 ∧ f5.offset = 5) :=
 ⟨_, _, _, _, _, _, Tryz.underlying88, by kernel_rfl, ⟨rfl, rfl⟩, ⟨rfl, rfl⟩, ⟨rfl, rfl⟩, ⟨rfl, rfl⟩, ⟨rfl, rfl⟩, ⟨rfl, rfl⟩⟩
theorem stmt_is : ∃ f0 f1 f2 f3 f4 f5 f6 f7 f8 f9 : Field, Tryz.prog.underlying 173 = some (.struct #[f0, f1, f2, f3, f4, f5, f6, f7, f8, f9]) ∧ Tryz.prog.cellsOf 173 = 21 ∧ (f0.type = 167 ∧ f0.offset = 0) ∧ (f1.type = 9 ∧ f1.offset = 1) ∧ (f2.type = 9 ∧ f2.offset = 2) ∧ (f3.type = 171 ∧ f3.offset = 3) ∧ (f4.type = 171 ∧ f4.offset = 7) ∧ (f5.type = 169 ∧ f5.offset = 11) ∧ (f6.type = 88 ∧ f6.offset = 12) ∧ (f7.type = 4 ∧ f7.offset = 18) ∧ (f8.type = 77 ∧ f8.offset = 19) ∧ (f9.type = 77 ∧ f9.offset = 20) :=
 ⟨_, _, _, _, _, _, _, _, _, _, Tryz.underlying173, by kernel_rfl, ⟨rfl, rfl⟩, ⟨rfl, rfl⟩, ⟨rfl, rfl⟩, ⟨rfl, rfl⟩, ⟨rfl, rfl⟩, ⟨rfl, rfl⟩, ⟨rfl, rfl⟩, ⟨rfl, rfl⟩, ⟨rfl, rfl⟩, ⟨rfl, rfl⟩⟩
theorem list6_of {l : List Value} (h : l.length = 6) : ∃ c0 c1 c2 c3 c4 c5, l = [c0, c1, c2, c3, c4, c5] := by
 match l, h with
 | [c0, c1, c2, c3, c4, c5], _ => exact ⟨c0, c1, c2, c3, c4, c5, rfl⟩
theorem list21_of {l : List Value} (h : l.length = 21) : ∃ c0 c1 c2 c3 c4 c5 c6 c7 c8 c9 c10 c11 c12 c13 c14 c15 c16 c17 c18 c19 c20, l = [c0, c1, c2, c3, c4, c5, c6, c7, c8, c9, c10, c11, c12, c13, c14, c15, c16, c17, c18, c19, c20] := by
 match l, h with
 | [c0, c1, c2, c3, c4, c5, c6, c7, c8, c9, c10, c11, c12, c13, c14, c15, c16, c17, c18, c19, c20], _ => exact ⟨c0, c1, c2, c3, c4, c5, c6, c7, c8, c9, c10, c11, c12, c13, c14, c15, c16, c17, c18, c19, c20, rfl⟩
theorem listy6 {α : Type} {l : List α} {y0 y1 y2 y3 y4 y5 : α} (h : l.length = 6) (g0 : l[0]? = some y0) (g1 : l[1]? = some y1) (g2 : l[2]? = some y2) (g3 : l[3]? = some y3) (g4 : l[4]? = some y4) (g5 : l[5]? = some y5) : l = [y0, y1, y2, y3, y4, y5] := by
 match l, h with
 | [z0, z1, z2, z3, z4, z5], _ => simp at g0 g1 g2 g3 g4 g5; subst g0 g1 g2 g3 g4 g5; rfl
theorem listy10 {α : Type} {l : List α} {y0 y1 y2 y3 y4 y5 y6 y7 y8 y9 : α} (h : l.length = 10) (g0 : l[0]? = some y0) (g1 : l[1]? = some y1) (g2 : l[2]? = some y2) (g3 : l[3]? = some y3) (g4 : l[4]? = some y4) (g5 : l[5]? = some y5) (g6 : l[6]? = some y6) (g7 : l[7]? = some y7) (g8 : l[8]? = some y8) (g9 : l[9]? = some y9) : l = [y0, y1, y2, y3, y4, y5, y6, y7, y8, y9] := by
 match l, h with
 | [z0, z1, z2, z3, z4, z5, z6, z7, z8, z9], _ => simp at g0 g1 g2 g3 g4 g5 g6 g7 g8 g9; subst g0 g1 g2 g3 g4 g5 g6 g7 g8 g9; rfl
set_option maxRecDepth 100000 in
theorem dist_up {w : World} {fuel : Nat} {cl : List Value} {y : DataW H × List MemPlace} (hl : cl.length = 6) (hf : DataW.trod enc Tryz.prog w 0 (fun _ => true) true fuel 88 cl = some y) :
 ∃ (d : Dt) (vp : Option Addr) (vm vc : Nat) (wp : Option Addr) (wm wc : Nat), cl = [.int .i64 d.op, .int .i64 d.a, .int .i64 d.b, .int .i64 d.n, .slice vp vm vc, .slice wp wm wc] ∧ Ints (Lo w.heap.size) w d.vs vp vm ∧ Ints (Lo w.heap.size) w d.ws wp wm ∧ d.vs.length + d.ws.length ≤ bk y.1 := by
 obtain ⟨f0, f1, f2, f3, f4, f5, hs, hC, t0, t1, t2, t3, t4, t5⟩ := dist_is
 obtain ⟨c0, c1, c2, c3, c4, c5, rfl⟩ := list6_of hl
 obtain ⟨ys, m, -, hy, -, hlen, hg⟩ := DataW.trod_struct hs hf
 have e0 := hg 0 f0 rfl
 rw [t0.1, t0.2, cof_api_DistOp] at e0
 obtain ⟨y0, g0⟩ : ∃ y, ys[0]? = some y := ⟨ys[0]'zPFrame_4, List.getElem?_eq_getElem _⟩
 rw [g0] at e0
 have e0 : DataW.trod enc Tryz.prog w 0 (fun _ => true) true m 85 [c0] = some y0 := e0
 have e1 := hg 1 f1 rfl
 rw [t1.1, t1.2, c_int] at e1
 obtain ⟨y1, g1⟩ : ∃ y, ys[1]? = some y := ⟨ys[1]'zPFrame_4, List.getElem?_eq_getElem _⟩
 rw [g1] at e1
 have e1 : DataW.trod enc Tryz.prog w 0 (fun _ => true) true m 3 [c1] = some y1 := e1
 have e2 := hg 2 f2 rfl
 rw [t2.1, t2.2, c_int] at e2
 obtain ⟨y2, g2⟩ : ∃ y, ys[2]? = some y := ⟨ys[2]'zPFrame_4, List.getElem?_eq_getElem _⟩
 rw [g2] at e2
 have e2 : DataW.trod enc Tryz.prog w 0 (fun _ => true) true m 3 [c2] = some y2 := e2
 have e3 := hg 3 f3 rfl
 rw [t3.1, t3.2, c_int] at e3
 obtain ⟨y3, g3⟩ : ∃ y, ys[3]? = some y := ⟨ys[3]'zPFrame_4, List.getElem?_eq_getElem _⟩
 rw [g3] at e3
 have e3 : DataW.trod enc Tryz.prog w 0 (fun _ => true) true m 3 [c3] = some y3 := e3
 have e4 := hg 4 f4 rfl
 rw [t4.1, t4.2, cof_Lint] at e4
 obtain ⟨y4, g4⟩ : ∃ y, ys[4]? = some y := ⟨ys[4]'zPFrame_4, List.getElem?_eq_getElem _⟩
 rw [g4] at e4
 have e4 : DataW.trod enc Tryz.prog w 0 (fun _ => true) true m 86 [c4] = some y4 := e4
 have e5 := hg 5 f5 rfl
 rw [t5.1, t5.2, cof_Lint] at e5
 obtain ⟨y5, g5⟩ : ∃ y, ys[5]? = some y := ⟨ys[5]'zPFrame_4, List.getElem?_eq_getElem _⟩
 rw [g5] at e5
 have e5 : DataW.trod enc Tryz.prog w 0 (fun _ => true) true m 86 [c5] = some y5 := e5
 have hyb : bk y.1 = 1 + bk y0.1 + bk y1.1 + bk y2.1 + bk y3.1 + bk y4.1 + bk y5.1 := by
  rw [hy, listy6 hlen g0 g1 g2 g3 g4 g5]
  exact zPFrame_3
 obtain ⟨a0, q0, -, -⟩ := DataW.trod_int Tryz.underlying85 e0
 obtain ⟨a1, q1, -, -⟩ := DataW.trod_int Tryz.underlying3 e1
 obtain ⟨a2, q2, -, -⟩ := DataW.trod_int Tryz.underlying3 e2
 obtain ⟨a3, q3, -, -⟩ := DataW.trod_int Tryz.underlying3 e3
 obtain ⟨vs, vp, vm, vc, q4, h4, b4⟩ := ints_up e4
 obtain ⟨ws, wp, wm, wc, q5, h5, b5⟩ := ints_up e5
 simp only [List.cons.injEq, and_true] at q0 q1 q2 q3
 subst q0 q1 q2 q3 q4 q5
 exact ⟨⟨a0, a1, a2, a3, vs, ws⟩, vp, vm, vc, wp, wm, wc, rfl, h4, h5, by show vs.length + ws.length ≤ _; omega⟩
theorem sum_sz (E : Nat → St) (D : Nat → DataW H) : ∀ (l : List Nat), (∀ i ∈ l, sz (E i) ≤ bk (D i)) → szL (l.map E) ≤ bkA (l.map D)
 | [], _ => by simp [szL]
 | i :: t, h => by
  have h1 := h i List.mem_cons_self
  have h2 := sum_sz E D t fun j hj => h j (List.mem_cons_of_mem _ hj)
  simp only [List.map_cons, szL, bkA, bk, Rows.uptoBulkAll] at h1 h2 ⊢
  omega
def Fits (B : Nat) (x : St) : Prop := x.nm.size ≤ B ∧ x.f.size ≤ B ∧ (5 * Ex.cnt x.e ≤ B ∧ ∀ z ∈ Ex.pre x.e, z.s.size ≤ B) ∧ (5 * Ex.cnt x.g ≤ B ∧ ∀ z ∈ Ex.pre x.g, z.s.size ≤ B) ∧ ∀ u ∈ x.ar, 5 * Ex.cnt u ≤ B ∧ ∀ z ∈ Ex.pre u, z.s.size ≤ B
theorem Fits.mono {B C : Nat} {x : St} (hBC : B ≤ C) (h : Fits B x) : Fits C x :=
 ⟨by have := h.1; omega, by have := h.2.1; omega, ⟨by have := h.2.2.1.1; omega, fun z hz => Nat.le_trans (h.2.2.1.2 z hz) hBC⟩, ⟨by have := h.2.2.2.1.1; omega, fun z hz => Nat.le_trans (h.2.2.2.1.2 z hz) hBC⟩, fun u hu => ⟨by have := (h.2.2.2.2 u hu).1; omega, fun z hz => Nat.le_trans ((h.2.2.2.2 u hu).2 z hz) hBC⟩⟩
theorem lst_of {w : World} {fuel : Nat} {v : Value} {y : DataW H × List MemPlace} (h : DataW.trod enc Tryz.prog w 0 (fun _ => true) true fuel 77 [v] = some y)
 (ih : ∀ (fuel : Nat) (cl : List Value) (u : DataW H × List MemPlace), SizeOf.sizeOf u.1 < SizeOf.sizeOf y.1 → cl.length = 21 → DataW.trod enc Tryz.prog w 0 (fun _ => true) true fuel 173 cl = some u → ∃ (x : St) (P : Pl), cl = (cs x P).toList ∧ SIn w x P ∧ sz x ≤ bk u.1 ∧ ∀ z ∈ ord x, Fits (bk u.1) z) :
 ∃ (l : List St) (p : Option Addr) (m c : Nat), v = .slice p m c ∧ LIn w l p m ∧ m ≤ c ∧ szL l ≤ bk y.1 ∧ ∀ z ∈ ordL l, Fits (bk y.1) z := by
 rcases open_slice Tryz.underlying77 h with ⟨hcs, hy⟩ | ⟨a, len, cap, mm, n, D, Pl0, hcs, -, hl3, hm3, hmm, hx, hi⟩
 · injection hcs with hcs hnil
   subst hcs
   exact ⟨[], none, 0, 0, rfl, Lin.nil, Nat.le_refl _, by rw [szL]; omega, fun z hz => by cases hz⟩
 · injection hcs with hcs hnil
   subst hcs
   simp only [if_true] at hmm
   obtain ⟨f0, f1, f2, f3, f4, f5, f6, f7, f8, f9, hs, hC, -⟩ := stmt_is
   have hd : y.1 = .slice ((List.range len).map D) ((List.range (mm - len)).map fun j => D (len + j)) := congrArg Prod.fst hx
   have h2 : bk y.1 = bkA ((List.range len).map D) + bkA ((List.range (mm - len)).map fun j => D (len + j)) + 1 := by rw [hd]; simp only [bk, bkA, Rows.uptoBulk]
   have hcell : ∀ i, i < len → ∃ (x : St) (P : Pl), (∀ r u, (cs x P)[r]? = some u → w.cell? ((a.add (i * 21)).add r) = some u) ∧ SIn w x P ∧ sz x ≤ bk (D i) ∧ ∀ z ∈ ord x, Fits (bk y.1) z := by
    intro i hil
    obtain ⟨cs', hc, ht'⟩ := hi i (by omega)
    rw [hC] at hc
    obtain ⟨-, hcl, hat⟩ := World.cells?_some hc
    have hDm : D i ∈ (List.range len).map D := List.mem_map.2 ⟨i, List.mem_range.2 hil, rfl⟩
    have hDb : bk (D i) ≤ bk y.1 := by have h1 := bk_mem hDm; omega
    have hsz : SizeOf.sizeOf (D i) < SizeOf.sizeOf y.1 := by
     have h1 := List.sizeOf_lt_of_mem hDm
     rw [hd, DataW.slice.sizeOf_spec]
     omega
    obtain ⟨x, P, hx2, hin, hcn, hw⟩ := ih _ cs' (D i, Pl0 i) hsz (by omega) ht'
    refine ⟨x, P, fun r u hr => ?_, hin, hcn, fun z hz => (hw z hz).mono hDb⟩
    have hr21 : r < 21 := by
     have := (Array.getElem?_eq_some_iff.1 hr).1
     rwa [cs_size] at this
    rw [hat r (by omega), hx2, Array.getElem?_toList]
    exact hr
   unfold maxLen at hm3
   by_cases h0 : len = 0
   · subst h0
     exact ⟨[], some a, 0, cap, rfl, Lin.nil, Nat.zero_le _, by rw [szL]; omega, fun z hz => by cases hz⟩
   · obtain ⟨b, off, spot⟩ := a
     obtain ⟨x0, P0, hx0, -⟩ := hcell 0 (by omega)
     have hspot : spot = none := by simpa [Addr.add] using World.cell?_spot (hx0 0 _ (cs0 _ _))
     subst hspot
     have hb : b < w.heap.size := by
      have := hx0 0 _ (cs0 _ _)
      rw [add_off, add_off] at this
      exact block_lt this
     have hex : ∀ i, ∃ x : St, i < len → ∃ P, cell21 w b (off + i * 21) x P ∧ SIn w x P ∧ sz x ≤ bk (D i) ∧ ∀ z ∈ ord x, Fits (bk y.1) z := by
      intro i
      by_cases hil : i < len
      · obtain ⟨x, P, h1, h2, h4, h3⟩ := hcell i hil
        refine ⟨x, fun _ => ⟨P, fun r u hr => ?_, h2, h4, h3⟩⟩
        have := h1 r u hr
        rwa [add_off, add_off] at this
      · exact ⟨.mk 0 nE nE zE zE [] zD false [] [], fun h => absurd h hil⟩
     have hE : ∀ i, i < len → ∃ P, cell21 w b (off + i * 21) (hex i).choose P ∧ SIn w (hex i).choose P ∧ sz (hex i).choose ≤ bk (D i) ∧ ∀ z ∈ ord (hex i).choose, Fits (bk y.1) z := fun i hi => (hex i).choose_spec hi
     have hsum := sum_sz (fun i => (hex i).choose) D (List.range len) fun i hi => by
      obtain ⟨P, -, -, h3, -⟩ := hE i (List.mem_range.1 hi)
      exact h3
     refine ⟨(List.range len).map fun i => (hex i).choose, some ⟨b, off, none⟩, len, cap, rfl, ?_, hl3, by omega, fun z hz => ?_⟩
     · refine ⟨by simp, by omega, .inr ⟨b, off, rfl, hb, hb, Lib.hid fun k hk => ?_⟩⟩
       simp only [List.length_map, List.length_range] at hk
       simp only [List.getElem_map, List.getElem_range]
       obtain ⟨P, h1, h2, -⟩ := hE k hk
       exact ⟨P, h1, h2⟩
     · obtain ⟨u, hu, hzu⟩ := ordL_mem' hz
       obtain ⟨i, hi2, rfl⟩ := List.mem_map.1 hu
       obtain ⟨P, -, -, -, h3⟩ := hE i (List.mem_range.1 hi2)
       exact h3 z hzu
set_option maxRecDepth 100000 in
theorem st_up {w : World} (N : Nat) : ∀ (fuel : Nat) (cl : List Value) (y : DataW H × List MemPlace), SizeOf.sizeOf y.1 ≤ N → cl.length = 21 → DataW.trod enc Tryz.prog w 0 (fun _ => true) true fuel 173 cl = some y → ∃ (x : St) (P : Pl), cl = (cs x P).toList ∧ SIn w x P ∧ sz x ≤ bk y.1 ∧ ∀ z ∈ ord x, Fits (bk y.1) z := by
 induction N with
 | zero =>
  intro fuel cl y hs
  exfalso
  cases h : y.1 <;> rw [h] at hs <;> simp at hs
 | succ N ih =>
  intro fuel cl y hN hl hf
  obtain ⟨f0, f1, f2, f3, f4, f5, f6, f7, f8, f9, hs, hC, t0, t1, t2, t3, t4, t5, t6, t7, t8, t9⟩ := stmt_is
  obtain ⟨c0, c1, c2, c3, c4, c5, c6, c7, c8, c9, c10, c11, c12, c13, c14, c15, c16, c17, c18, c19, c20, rfl⟩ := list21_of hl
  obtain ⟨ys, m, -, hy, -, hlen, hg⟩ := DataW.trod_struct hs hf
  have e0 := hg 0 f0 rfl
  rw [t0.1, t0.2, cof_api_StmtOp] at e0
  obtain ⟨y0, g0⟩ : ∃ y, ys[0]? = some y := ⟨ys[0]'zPFrame_4, List.getElem?_eq_getElem _⟩
  rw [g0] at e0
  have e0 : DataW.trod enc Tryz.prog w 0 (fun _ => true) true m 167 [c0] = some y0 := e0
  have e1 := hg 1 f1 rfl
  rw [t1.1, t1.2, cof_string] at e1
  obtain ⟨y1, g1⟩ : ∃ y, ys[1]? = some y := ⟨ys[1]'zPFrame_4, List.getElem?_eq_getElem _⟩
  rw [g1] at e1
  have e1 : DataW.trod enc Tryz.prog w 0 (fun _ => true) true m 9 [c1] = some y1 := e1
  have e2 := hg 2 f2 rfl
  rw [t2.1, t2.2, cof_string] at e2
  obtain ⟨y2, g2⟩ : ∃ y, ys[2]? = some y := ⟨ys[2]'zPFrame_4, List.getElem?_eq_getElem _⟩
  rw [g2] at e2
  have e2 : DataW.trod enc Tryz.prog w 0 (fun _ => true) true m 9 [c2] = some y2 := e2
  have e3 := hg 3 f3 rfl
  rw [t3.1, t3.2, cof_api_Expr] at e3
  obtain ⟨y3, g3⟩ : ∃ y, ys[3]? = some y := ⟨ys[3]'zPFrame_4, List.getElem?_eq_getElem _⟩
  rw [g3] at e3
  have e3 : DataW.trod enc Tryz.prog w 0 (fun _ => true) true m 171 [c3, c4, c5, c6] = some y3 := e3
  have e4 := hg 4 f4 rfl
  rw [t4.1, t4.2, cof_api_Expr] at e4
  obtain ⟨y4, g4⟩ : ∃ y, ys[4]? = some y := ⟨ys[4]'zPFrame_4, List.getElem?_eq_getElem _⟩
  rw [g4] at e4
  have e4 : DataW.trod enc Tryz.prog w 0 (fun _ => true) true m 171 [c7, c8, c9, c10] = some y4 := e4
  have e5 := hg 5 f5 rfl
  rw [t5.1, t5.2, cof_Lapi_Expr] at e5
  obtain ⟨y5, g5⟩ : ∃ y, ys[5]? = some y := ⟨ys[5]'zPFrame_4, List.getElem?_eq_getElem _⟩
  rw [g5] at e5
  have e5 : DataW.trod enc Tryz.prog w 0 (fun _ => true) true m 169 [c11] = some y5 := e5
  have e6 := hg 6 f6 rfl
  rw [t6.1, t6.2, cof_api_Dist] at e6
  obtain ⟨y6, g6⟩ : ∃ y, ys[6]? = some y := ⟨ys[6]'zPFrame_4, List.getElem?_eq_getElem _⟩
  rw [g6] at e6
  have e6 : DataW.trod enc Tryz.prog w 0 (fun _ => true) true m 88 [c12, c13, c14, c15, c16, c17] = some y6 := e6
  have e7 := hg 7 f7 rfl
  rw [t7.1, t7.2, cof_bool] at e7
  obtain ⟨y7, g7⟩ : ∃ y, ys[7]? = some y := ⟨ys[7]'zPFrame_4, List.getElem?_eq_getElem _⟩
  rw [g7] at e7
  have e7 : DataW.trod enc Tryz.prog w 0 (fun _ => true) true m 4 [c18] = some y7 := e7
  have e8 := hg 8 f8 rfl
  rw [t8.1, t8.2, cof_Lapi_Stmt] at e8
  obtain ⟨y8, g8⟩ : ∃ y, ys[8]? = some y := ⟨ys[8]'zPFrame_4, List.getElem?_eq_getElem _⟩
  rw [g8] at e8
  have e8 : DataW.trod enc Tryz.prog w 0 (fun _ => true) true m 77 [c19] = some y8 := e8
  have e9 := hg 9 f9 rfl
  rw [t9.1, t9.2, cof_Lapi_Stmt] at e9
  obtain ⟨y9, g9⟩ : ∃ y, ys[9]? = some y := ⟨ys[9]'zPFrame_4, List.getElem?_eq_getElem _⟩
  rw [g9] at e9
  have e9 : DataW.trod enc Tryz.prog w 0 (fun _ => true) true m 77 [c20] = some y9 := e9
  have hyb : bk y.1 = 1 + bk y0.1 + bk y1.1 + bk y2.1 + bk y3.1 + bk y4.1 + bk y5.1 + bk y6.1 + bk y7.1 + bk y8.1 + bk y9.1 := by
   rw [hy, listy10 hlen g0 g1 g2 g3 g4 g5 g6 g7 g8 g9]
   exact zPFrame_3
  have hmem : ∀ u ∈ ys, SizeOf.sizeOf u.1 < SizeOf.sizeOf y.1 := fun u hu => by
   rw [hy]
   show SizeOf.sizeOf u.1 < SizeOf.sizeOf (DataW.agg (ys.map (·.1)))
   have hm : u.1 ∈ ys.map (·.1) := List.mem_map.2 ⟨u, hu, rfl⟩
   have := List.sizeOf_lt_of_mem hm
   rw [DataW.agg.sizeOf_spec]
   omega
  have hs8 := hmem y8 (List.mem_of_getElem? g8)
  have hs9 := hmem y9 (List.mem_of_getElem? g9)
  obtain ⟨a0, q0, -, -⟩ := DataW.trod_int Tryz.underlying167 e0
  obtain ⟨s1, q1, d1, -⟩ := DataW.trod_string Tryz.underlying9 e1
  obtain ⟨s2, q2, d2, -⟩ := DataW.trod_string Tryz.underlying9 e2
  obtain ⟨x3, p3, m3, k3, q3, h3, b3, z3⟩ := ex_up _ (Nat.le_refl _) rfl e3
  obtain ⟨x4, p4, m4, k4, q4, h4, b4, z4⟩ := ex_up _ (Nat.le_refl _) rfl e4
  obtain ⟨l5, p5, m5, k5, q5, h5, b5, z5⟩ := exs_up e5
  obtain ⟨d6, vp, vm, vc, wp, wm, wc, q6, h6, h6', b6⟩ := dist_up rfl e6
  obtain ⟨b, q7, -⟩ := DataW.trod_bool Tryz.underlying4 e7
  obtain ⟨l8, p8, m8, k8, q8, h8, -, b8, z8⟩ := lst_of e8 fun fuel cl u hu h1 h2 => ih fuel cl u (by omega) h1 h2
  obtain ⟨l9, p9, m9, k9, q9, h9, -, b9, z9⟩ := lst_of e9 fun fuel cl u hu h1 h2 => ih fuel cl u (by omega) h1 h2
  simp only [List.cons.injEq, and_true] at q0 q1 q2 q3 q4 q6 q7
  obtain ⟨q3a, q3b, q3c, q3d⟩ := q3
  obtain ⟨q4a, q4b, q4c, q4d⟩ := q4
  obtain ⟨q6a, q6b, q6c, q6d, q6e, q6f⟩ := q6
  have hb1 : bk y1.1 = s1.size + 1 := by rw [d1]; simp only [bk, Rows.uptoBulk, Array.length_toList]; rfl
  have hb2 : bk y2.1 = s2.size + 1 := by rw [d2]; simp only [bk, Rows.uptoBulk, Array.length_toList]; rfl
  subst q0 q1 q2 q3a q3b q3c q3d q4a q4b q4c q4d q5 q6a q6b q6c q6d q6e q6f q7 q8 q9
  refine ⟨.mk a0 s1 s2 x3 x4 l5 d6 b l8 l9, ⟨p3, m3, k3, p4, m4, k4, p5, m5, k5, vp, vm, vc, wp, wm, wc, p8, m8, k8, p9, m9, k9⟩, rfl, sin_iff.2 ⟨⟨h3, h4, h5, h6, h6'⟩, h8, h9⟩, ?_, ?_⟩
  · rw [sz_one]
    show sz0 x3 x4 l5 d6 + szL l8 + szL l9 ≤ _
    unfold sz0
    omega
  · intro z hz
    rw [ord_one] at hz
    rcases List.mem_cons.1 hz with rfl | hz
    · refine ⟨by show s1.size ≤ _; omega, by show s2.size ≤ _; omega, ⟨by show 5 * Ex.cnt x3 ≤ _; omega, fun z hz => ?_⟩, ⟨by show 5 * Ex.cnt x4 ≤ _; omega, fun z hz => ?_⟩, fun u hu => ⟨?_, fun z hz => ?_⟩⟩
      · have := z3 z hz; omega
      · have := z4 z hz; omega
      · have := Ex.cnt_mem (show u ∈ l5 from hu); omega
      · have := z5 u hu z hz; omega
    · rcases List.mem_append.1 hz with hz | hz
      · exact (z8 z hz).mono (by omega)
      · exact (z9 z hz).mono (by omega)
theorem szL_of_fits {l : List St} {B : Nat} (hB : B ≤ 1048576) (h : ∀ z ∈ ordL l, Fits B z) : SzL l := fun x hx => by
 obtain ⟨h1, h2, ⟨h3, h4⟩, ⟨h5, h6⟩, h7⟩ := h x hx
 exact ⟨by omega, by omega, ⟨fun y hy => by have := h4 y hy; omega, by omega⟩, ⟨fun y hy => by have := h6 y hy; omega, by omega⟩, fun y hy => ⟨fun z hz => by have := (h7 y hy).2 z hz; omega, by have := (h7 y hy).1; omega⟩⟩
end
end Go.Proofs.YtaaffmbnhjaebaaGreat.Sm
namespace Go.Proofs.YtaaffmbnhjaebaaGreat.Na
open Go.RowKit
set_option maxHeartbeats 4000000
theorem clash {x : Bool} (h : x = true) (g : x = false) : False := by rw [h] at g; cases g
theorem kw_yes {s : ByteArray} {c : List UInt8} (h : (s.toList == c) = true) (hc : kwl.contains c = true) : true = isKw (bs s) := by
 have e : bs s = c := by
  have g := eq_of_beq h
  rw [Lib.toList_data] at g
  exact g
 unfold isKw
 rw [e, hc]
theorem kw_any (s : ByteArray) : isKw (bs s) = kwl.any fun c => s.toList == c := by
 unfold isKw
 simp only [Lib.toList_data]
 rw [List.contains_eq_any_beq]
set_option maxRecDepth 100000 in
theorem keyword_any (s : ByteArray) (w : World) : Calls Tryz.prog 52 #[.string s] w fun e w' => e = .returned (.bool (isKw (bs s))) ∧ w' = w := by
 go_enter Tryz.func52, Tryz.ntmps52
 go_wp2_with fail
 all_goals first
  | exact (clash (by assumption) (by assumption)).elim
  | (go_ret; exact ⟨ret_bool (kw_yes (by assumption) (by decide)), rfl⟩)
  | (go_ret; exact ⟨ret_bool (by rw [kw_any]; simp only [kwl, List.any_cons, List.any_nil, Bool.or_false, *]), rfl⟩)
theorem keyword_at {s : ByteArray} {b : Bool} (h : isKw (bs s) = b) (w : World) : Calls Tryz.prog 52 #[.string s] w fun e w' => e = .returned (.bool b) ∧ w' = w := by rw [← h]; exact keyword_any s w
end Go.Proofs.YtaaffmbnhjaebaaGreat.Na
namespace Go.Proofs.YtaaffmbnhjaebaaGreat.Na
open Go.RowKit
set_option maxHeartbeats 2000000
theorem bs_cut (s : ByteArray) (a b : Nat) : bs (s.extract a b) = ((bs s).drop a).take (b - a) := by
 show (s.extract a b).data.toList = _
 rw [ByteArray.data_extract, Array.toList_extract]
theorem cut_size (s : ByteArray) (h : 1 ≤ s.size) : (s.extract 1 s.size).size + 1 = s.size := by rw [ByteArray.size_extract]; omega
theorem bs_tail (s : ByteArray) : bs (s.extract 1 s.size) = (bs s).drop 1 := by
 rw [bs_cut, List.take_of_length_le (by rw [List.length_drop, bs_len]; exact Nat.le_refl _)]
def Good (l : List UInt8) (k : Nat) : Prop := ∀ j, j < k → (h : j < l.length) → goodC l[j] = true
theorem good_one {l : List UInt8} (h0 : 0 < l.length) (h : ltrC l[0] = true) : Good l 1 := by
 intro j hj hl
 obtain rfl : j = 0 := by omega
 exact good_let h
theorem good_step {l : List UInt8} {k : Nat} (hk : k < l.length) (h : Good l k) (e : goodC l[k] = true) : Good l (k + 1) := by
 intro j hj hl
 rcases Nat.lt_or_ge j k with h1 | h1
 · exact h j h1 hl
 · obtain rfl : j = k := by omega
   exact e
theorem good_end {l : List UInt8} {k : Nat} (h : Good l k) (hk : l.length = k) (h1 : 1 ≤ l.length) (h2 : l.length ≤ 24) (h3 : ltrC (l[0]) = true) (h4 : isKw l = false) : chk l = 0 :=
 all_good h1 h2 h3 h4 fun j hj => h j (by omega) hj
theorem zNmCheck_0 {p : Prop} (h : p := by
 rintro e w3 ⟨rfl, rfl⟩
 go_wp2_with fail
 go_round
 case rel => exact ⟨k + 1, by omega, by go_num, HY2⟩
 case measure => simp [intOf]; omega
 ) : p := h
theorem zNmCheck_1 {p : Prop} (h : p := by
 go_wp2_with fail
 go_ret
 exact ⟨ret_int HR.out.symm, Below.refl _ _⟩
 ) : p := h
set_option maxRecDepth 100000 in
theorem check_any (s : ByteArray) (w : World) (hs : s.size ≤ 9223372036854775807) : Calls Tryz.prog 27 #[.string s] w (Gives (.int .i64 (chk (bs s))) w) := by
 have hs' : (s.size : Int) ≤ 9223372036854775807 := by omega
 by_cases h1 : s.size < 1
 · have t1 : decide ((s.size : Int) < 1) = true := decide_eq_true (by omega)
   have HR := Lib.hid (bad_short (l := bs s) (by rw [bs_len]; exact h1))
   go_enter Tryz.func27, Tryz.ntmps27
   exact zNmCheck_1
 have t1 : decide ((s.size : Int) < 1) = false := decide_eq_false (by omega)
 by_cases h2 : 24 < s.size
 · have t2 : decide (24 < (s.size : Int)) = true := decide_eq_true (by omega)
   have HR := Lib.hid (bad_long (l := bs s) (by rw [bs_len]; exact h2))
   go_enter Tryz.func27, Tryz.ntmps27
   exact zNmCheck_1
 have t2 : decide (24 < (s.size : Int)) = false := decide_eq_false (by omega)
 have c0 : (0 : Int) < (s.size : Int) := by omega
 have hs0 : 0 < s.size := by omega
 by_cases h3 : ltrI ((s[0]).toNat : Int) = true
 · by_cases h4 : isKw (bs s) = true
   · have HR := Lib.hid (bad_kw h4)
     go_enter Tryz.func27, Tryz.ntmps27
     go_wp2_with fail
     refine (letter_at h3 w).mono ?_
     rintro e w1 ⟨rfl, rfl⟩
     go_wp2_with fail
     refine (keyword_at h4 w1).mono ?_
     rintro e w1 ⟨rfl, rfl⟩
     exact zNmCheck_1
   · have h4' : isKw (bs s) = false := by simpa using h4
     go_enter Tryz.func27, Tryz.ntmps27
     go_wp2_with fail
     refine (letter_at h3 w).mono ?_
     rintro e w1 ⟨rfl, rfl⟩
     go_wp2_with fail
     refine (keyword_at h4' w1).mono ?_
     rintro e w1 ⟨rfl, rfl⟩
     have c1 : (1 : Int) ≤ (s.size : Int) := by omega
     have HL : Hid (1 ≤ (bs s).length ∧ (bs s).length ≤ 24) := Lib.hid (by rw [bs_len]; omega)
     have HC := Lib.hid (show ltrC (bs s)[0] = true from h3)
     have HK := Lib.hid h4'
     have HM := cut_size s (by omega)
     have HT := bs_tail s
     obtain ⟨c, w2, q1, hq1, hb2⟩ := bytes_S (s.extract 1 s.size) (by omega) w1
     obtain ⟨S, hS⟩ : ∃ S, s.extract 1 s.size = S := ⟨_, rfl⟩
     rw [hS] at HM HT hq1
     rw [show (s.extract 1 s.size).size = S.size by rw [hS]] at q1
     obtain ⟨M, eM⟩ : ∃ M, S.size = M := ⟨_, rfl⟩
     rw [eM] at HM hq1 q1
     have hM : (M : Int) ≤ 24 := by omega
     have HQ := Lib.hid hq1
     have HT' := Lib.hid HT
     have HM' := Lib.hid HM
     have HLs := Lib.hid (bs_len s)
     clear HT hq1 eM HM hS h3 h4 h4'
     go_wp2_with fail
     go_loop [27] (fun i => ∃ k : Nat, k ≤ M ∧ i = .int .i64 (k : Nat) ∧ Hid (Good (bs s) (k + 1))) (fun i => M - (intOf i).toNat)
     case atStart => exact ⟨0, Nat.zero_le _, rfl, Lib.hid (good_one HL.out.1 HC.out)⟩
     case round =>
      obtain ⟨k, hk, rfl, HG⟩ := hrel
      have d1 : (0 : Int) ≤ (k : Int) := by omega
      rcases Nat.lt_or_ge k M with h | h
      · have hks : k + 1 < (bs s).length := by rw [HLs.out, ← HM'.out]; omega
        obtain ⟨hlen, -, h0 | ⟨b, o, hp, hb, hcell⟩⟩ := HQ.out
        · omega
        · cases hp
          have hkl : k < (bs S).length := by omega
          have e1 := hcell.out k hkl
          have e2 : (bs S)[k] = (bs s)[k + 1] := by simp only [HT'.out, List.getElem_drop, Nat.add_comm]
          rw [e2, Nat.zero_add] at e1
          have d2 : (k : Int) < (M : Int) := by omega
          have HY := Lib.hid (fun h => good_step hks HG.out h)
          have HN := Lib.hid (fun h => bad_at hks h)
          have HD : Hid (goodC (bs s)[k + 1] = goodI (((bs s)[k + 1]).toNat : Int)) := Lib.hid rfl
          obtain ⟨x, hx⟩ : ∃ x : Int, (((bs s)[k + 1]).toNat : Int) = x := ⟨_, rfl⟩
          rw [hx] at e1 HD
          rw [HD.out] at HY HN
          clear hcell e2 hlen hkl hks hx HD
          by_cases g1 : ltrI x = true
          · have HY2 := Lib.hid (HY.out (good_let g1))
            clear HY HN
            go_wp2_with fail
            refine (letter_at g1 w2).mono ?_
            exact zNmCheck_0
          have g1' : ltrI x = false := by simpa using g1
          by_cases g2 : digI x = true
          · have HY2 := Lib.hid (HY.out (good_dig g2))
            clear HY HN g1
            go_wp2_with fail
            refine (letter_at g1' w2).mono ?_
            rintro e w3 ⟨rfl, rfl⟩
            go_wp2_with fail
            refine (digit_at g2 w3).mono ?_
            exact zNmCheck_0
          have g2' : digI x = false := by simpa using g2
          by_cases g3 : x = 95
          · have HY2 := Lib.hid (HY.out (good_low g3))
            subst g3
            clear HY HN g1 g2
            go_wp2_with fail
            refine (letter_at g1' w2).mono ?_
            rintro e w3 ⟨rfl, rfl⟩
            go_wp2_with fail
            refine (digit_at g2' w3).mono ?_
            exact zNmCheck_0
          · have HR := Lib.hid (HN.out (good_not g1' g2' g3))
            have q3 : (x == 95) = false := beq_eq_false_iff_ne.2 g3
            clear HY HN g1 g2
            go_wp2_with fail
            refine (letter_at g1' w2).mono ?_
            rintro e w3 ⟨rfl, rfl⟩
            go_wp2_with fail
            refine (digit_at g2' w3).mono ?_
            rintro e w3 ⟨rfl, rfl⟩
            go_wp2_with fail
            go_ret
            exact ⟨ret_int HR.out.symm, hb2⟩
      · obtain rfl : M = k := by omega
        have HR := Lib.hid (good_end HG.out (by rw [HLs.out, HM'.out]) HL.out.1 HL.out.2 HC.out HK.out)
        go_wp2_with fail
        go_ret
        exact ⟨ret_int HR.out.symm, hb2⟩
 · have h3' : ltrI ((s[0]).toNat : Int) = false := by simpa using h3
   have HR := Lib.hid (bad_head (l := bs s) (by rw [bs_len]; exact hs0) h3')
   go_enter Tryz.func27, Tryz.ntmps27
   go_wp2_with fail
   refine (letter_at h3' w).mono ?_
   rintro e w1 ⟨rfl, rfl⟩
   exact zNmCheck_1
end Go.Proofs.YtaaffmbnhjaebaaGreat.Na
