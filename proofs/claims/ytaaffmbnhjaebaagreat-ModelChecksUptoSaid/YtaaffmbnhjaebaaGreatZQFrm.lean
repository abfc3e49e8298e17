/-
  Parts of this proof: How models among the arguments are read, and what the bound on the arguments' bulk gives. The contracts of checkSchedule and checkResource. The contract of checkResource.
-/
import Derived.Test.YtaaffmbnhjaebaaGreatZPChk1
namespace Go.Proofs.YtaaffmbnhjaebaaGreat.Md
open Go.ChangeShapes Go.WideShapes Go.ChangeAt Go.RowKit Go.Joins Go.Deep
open Go.Proofs.YtaaffmbnhjaebaaGreat.Ex (Lo block_lt add_off)
open Go.Proofs.YtaaffmbnhjaebaaGreat.Sm (Ints ordL szL Fits bk bkA bk_one bk_mem ints_up dist_up lst_of st_up szL_of_fits nE)
set_option maxHeartbeats 2000000
set_option linter.unusedVariables false
section
variable {H : Type} {enc : TypeId × Value → H}
theorem bkA_len {d : Nat} : ∀ {l : List (DataW H)}, (∀ x ∈ l, d ≤ bk x) → d * l.length ≤ bkA l
 | [], _ => by simp
 | x :: t, h => by
  have h1 := h x List.mem_cons_self
  have h2 := bkA_len fun y hy => h y (List.mem_cons_of_mem _ hy)
  rw [List.length_cons, Nat.mul_add]
  simp only [bkA, bk, Rows.uptoBulkAll] at h1 h2 ⊢
  omega
theorem zQFrm_3 {p : Prop} (h : p := by omega) : p := h
theorem rows_up {α : Type} {L T : TypeId} {k : Nat} {R : Rec α} {Good : Nat → α → Prop} {d : Nat} (hm : ∀ {B C : Nat} {x : α}, B ≤ C → Good B x → Good C x) (hT : Tryz.prog.underlying L = some (.slice T)) (hC : Tryz.prog.cellsOf T = k) (hk : 0 < k) {w : World} {fuel : Nat} {v : Value} {y : DataW H × List MemPlace}
 (h : DataW.trod enc Tryz.prog w 0 (fun _ => true) true fuel L [v] = some y) (up : ∀ (fuel : Nat) (cl : List Value) (u : DataW H × List MemPlace), cl.length = k → DataW.trod enc Tryz.prog w 0 (fun _ => true) true fuel T cl = some u → ∃ (x : α) (c : Array Value), cl = c.toList ∧ c.size = k ∧ R (Lo w.heap.size) w x c ∧ Good (bk u.1) x ∧ d ≤ bk u.1) :
 ∃ (l : List α) (p : Option Addr) (m c : Nat), v = .slice p m c ∧ Rw k R (Lo w.heap.size) w l p m ∧ d * l.length ≤ bk y.1 ∧ ∀ x ∈ l, Good (bk y.1) x := by
 rcases open_slice hT h with ⟨hcs, hy⟩ | ⟨a, len, cap, mm, n, D, Pl0, hcs, -, hl3, hm3, hmm, hx, hi⟩
 · injection hcs with hcs hnil
   subst hcs
   exact ⟨[], none, 0, 0, rfl, Rw.nil, by simp, fun z hz => by cases hz⟩
 · injection hcs with hcs hnil
   subst hcs
   simp only [if_true] at hmm
   have hd : y.1 = .slice ((List.range len).map D) ((List.range (mm - len)).map fun j => D (len + j)) := congrArg Prod.fst hx
   have h2 : bk y.1 = bkA ((List.range len).map D) + bkA ((List.range (mm - len)).map fun j => D (len + j)) + 1 := by rw [hd]; simp only [bk, bkA, Rows.uptoBulk]
   have hcell : ∀ i, i < len → ∃ (x : α) (c : Array Value), c.size = k ∧ (∀ r u, c[r]? = some u → w.cell? ((a.add (i * k)).add r) = some u) ∧ R (Lo w.heap.size) w x c ∧ Good (bk y.1) x ∧ d ≤ bk (D i) := by
    intro i hil
    obtain ⟨cs', hc, ht'⟩ := hi i zQFrm_3
    rw [hC] at hc
    obtain ⟨-, hcl, hat⟩ := World.cells?_some hc
    have hDm : D i ∈ (List.range len).map D := List.mem_map.2 ⟨i, List.mem_range.2 hil, rfl⟩
    have hDb : bk (D i) ≤ bk y.1 := by have h1 := bk_mem hDm; omega
    obtain ⟨x, c, hx2, hcz, hin, hg, hdd⟩ := up _ cs' (D i, Pl0 i) zQFrm_3 ht'
    refine ⟨x, c, hcz, fun r u hr => ?_, hin, hm hDb hg, hdd⟩
    have hr21 : r < k := by
     have := (Array.getElem?_eq_some_iff.1 hr).1
     rwa [hcz] at this
    rw [hat r zQFrm_3, hx2, Array.getElem?_toList]
    exact hr
   have hlen := bkA_len (d := d) (l := (List.range len).map D) fun z hz => by
    obtain ⟨i, hi2, rfl⟩ := List.mem_map.1 hz
    obtain ⟨x, c, -, -, -, -, h⟩ := hcell i (List.mem_range.1 hi2)
    exact h
   rw [List.length_map, List.length_range] at hlen
   unfold maxLen at hm3
   by_cases h0 : len = 0
   · subst h0
     exact ⟨[], some a, 0, cap, rfl, Rw.nil, by simp, fun z hz => by cases hz⟩
   · obtain ⟨b, off, spot⟩ := a
     obtain ⟨x0, c0, hz0, hx0, -⟩ := hcell 0 zQFrm_3
     have hcx := hx0 0 _ (Array.getElem?_eq_getElem zQFrm_3)
     have hspot : spot = none := by simpa [Addr.add] using World.cell?_spot hcx
     subst hspot
     have hb : b < w.heap.size := by
      rw [add_off, add_off] at hcx
      exact block_lt hcx
     refine ⟨List.ofFn fun i : Fin len => (hcell i.1 i.2).choose, some ⟨b, off, none⟩, len, cap, rfl, ⟨by simp, by omega, .inr ⟨b, off, rfl, hb, hb, Lib.hid fun i hi2 => ?_⟩⟩, by rw [List.length_ofFn]; omega, fun x hx => ?_⟩
     · have hil : i < len := by simpa using hi2
       rw [List.getElem_ofFn]
       obtain ⟨c, q1, q2, q3, q4, q5⟩ := (hcell i hil).choose_spec
       refine ⟨c, q1, fun r u hr => ?_, q3⟩
       have := q2 r u hr
       rwa [add_off, add_off] at this
     · obtain ⟨i, rfl⟩ := List.mem_ofFn.1 hx
       obtain ⟨c, q1, q2, q3, q4, q5⟩ := (hcell i.1 i.2).choose_spec
       exact q4
theorem cells2_of {l : List Value} (h : l.length = 2) : ∃ c0 c1, l = [c0, c1] := by
 match l, h with
 | [c0, c1], _ => exact ⟨c0, c1, rfl⟩
theorem cells3_of {l : List Value} (h : l.length = 3) : ∃ c0 c1 c2, l = [c0, c1, c2] := by
 match l, h with
 | [c0, c1, c2], _ => exact ⟨c0, c1, c2, rfl⟩
theorem cells4_of {l : List Value} (h : l.length = 4) : ∃ c0 c1 c2 c3, l = [c0, c1, c2, c3] := by
 match l, h with
 | [c0, c1, c2, c3], _ => exact ⟨c0, c1, c2, c3, rfl⟩
theorem cells5_of {l : List Value} (h : l.length = 5) : ∃ c0 c1 c2 c3 c4, l = [c0, c1, c2, c3, c4] := by
 match l, h with
 | [c0, c1, c2, c3, c4], _ => exact ⟨c0, c1, c2, c3, c4, rfl⟩
theorem cells13_of {l : List Value} (h : l.length = 13) : ∃ c0 c1 c2 c3 c4 c5 c6 c7 c8 c9 c10 c11 c12, l = [c0, c1, c2, c3, c4, c5, c6, c7, c8, c9, c10, c11, c12] := by
 match l, h with
 | [c0, c1, c2, c3, c4, c5, c6, c7, c8, c9, c10, c11, c12], _ => exact ⟨c0, c1, c2, c3, c4, c5, c6, c7, c8, c9, c10, c11, c12, rfl⟩
theorem cells17_of {l : List Value} (h : l.length = 17) : ∃ c0 c1 c2 c3 c4 c5 c6 c7 c8 c9 c10 c11 c12 c13 c14 c15 c16, l = [c0, c1, c2, c3, c4, c5, c6, c7, c8, c9, c10, c11, c12, c13, c14, c15, c16] := by
 match l, h with
 | [c0, c1, c2, c3, c4, c5, c6, c7, c8, c9, c10, c11, c12, c13, c14, c15, c16], _ => exact ⟨c0, c1, c2, c3, c4, c5, c6, c7, c8, c9, c10, c11, c12, c13, c14, c15, c16, rfl⟩
theorem data2 {α : Type} {l : List α} {y0 y1 : α} (h : l.length = 2) (g0 : l[0]? = some y0) (g1 : l[1]? = some y1) : l = [y0, y1] := by
 match l, h with
 | [z0, z1], _ => simp at g0 g1; subst g0 g1; rfl
theorem data3 {α : Type} {l : List α} {y0 y1 y2 : α} (h : l.length = 3) (g0 : l[0]? = some y0) (g1 : l[1]? = some y1) (g2 : l[2]? = some y2) : l = [y0, y1, y2] := by
 match l, h with
 | [z0, z1, z2], _ => simp at g0 g1 g2; subst g0 g1 g2; rfl
theorem data4 {α : Type} {l : List α} {y0 y1 y2 y3 : α} (h : l.length = 4) (g0 : l[0]? = some y0) (g1 : l[1]? = some y1) (g2 : l[2]? = some y2) (g3 : l[3]? = some y3) : l = [y0, y1, y2, y3] := by
 match l, h with
 | [z0, z1, z2, z3], _ => simp at g0 g1 g2 g3; subst g0 g1 g2 g3; rfl
theorem data5 {α : Type} {l : List α} {y0 y1 y2 y3 y4 : α} (h : l.length = 5) (g0 : l[0]? = some y0) (g1 : l[1]? = some y1) (g2 : l[2]? = some y2) (g3 : l[3]? = some y3) (g4 : l[4]? = some y4) : l = [y0, y1, y2, y3, y4] := by
 match l, h with
 | [z0, z1, z2, z3, z4], _ => simp at g0 g1 g2 g3 g4; subst g0 g1 g2 g3 g4; rfl
theorem data13 {α : Type} {l : List α} {y0 y1 y2 y3 y4 y5 y6 y7 y8 y9 y10 y11 y12 : α} (h : l.length = 13) (g0 : l[0]? = some y0) (g1 : l[1]? = some y1) (g2 : l[2]? = some y2) (g3 : l[3]? = some y3) (g4 : l[4]? = some y4) (g5 : l[5]? = some y5) (g6 : l[6]? = some y6) (g7 : l[7]? = some y7) (g8 : l[8]? = some y8) (g9 : l[9]? = some y9) (g10 : l[10]? = some y10) (g11 : l[11]? = some y11) (g12 : l[12]? = some y12) : l = [y0, y1, y2, y3, y4, y5, y6, y7, y8, y9, y10, y11, y12] := by
 match l, h with
 | [z0, z1, z2, z3, z4, z5, z6, z7, z8, z9, z10, z11, z12], _ => simp at g0 g1 g2 g3 g4 g5 g6 g7 g8 g9 g10 g11 g12; subst g0 g1 g2 g3 g4 g5 g6 g7 g8 g9 g10 g11 g12; rfl
theorem cof_string : Tryz.prog.cellsOf 9 = 1 := by kernel_rfl
def RTx (B : Nat) (x : ByteArray) : Prop := x.size ≤ B
theorem txts_up {w : World} {fuel : Nat} {v : Value} {y : DataW H × List MemPlace} (h : DataW.trod enc Tryz.prog w 0 (fun _ => true) true fuel 37 [v] = some y) : ∃ (l : List ByteArray) (p : Option Addr) (m c : Nat), v = .slice p m c ∧ Rw 1 RTxt (Lo w.heap.size) w l p m ∧ 1 * l.length ≤ bk y.1 ∧ ∀ x ∈ l, x.size ≤ bk y.1 :=
 rows_up (R := RTxt) (Good := RTx) (d := 1) (fun hBC h => Nat.le_trans h hBC) Tryz.underlying37 cof_string zQFrm_3 h fun fuel cl u h1 h2 => by
  obtain ⟨c0, rfl⟩ : ∃ c0, cl = [c0] := by
   match cl, h1 with
   | [c], _ => exact ⟨c, rfl⟩
  obtain ⟨s, q, d, -⟩ := DataW.trod_string Tryz.underlying9 h2
  have z : bk u.1 = s.size + 1 := by rw [d]; simp only [bk, Rows.uptoBulk, Array.length_toList]; rfl
  simp only [List.cons.injEq, and_true] at q
  subst q
  exact ⟨s, #[.string s], rfl, rfl, rfl, by unfold RTx; omega, by omega⟩
theorem ints_up2 {w : World} {fuel : Nat} {v : Value} {y : DataW H × List MemPlace} (h : DataW.trod enc Tryz.prog w 0 (fun _ => true) true fuel 86 [v] = some y) :
 ∃ (l : List Int) (p : Option Addr) (m c : Nat), v = .slice p m c ∧ Ints (Lo w.heap.size) w l p m ∧ l.length ≤ bk y.1 := ints_up h
structure GChg (B : Nat) (x : Chg) : Prop where
 t : True
theorem GChg.mono {B C : Nat} {x : Chg} (hBC : B ≤ C) (h : GChg B x) : GChg C x where
 t := trivial
theorem cof_int : Tryz.prog.cellsOf 3 = 1 := by kernel_rfl
theorem Chg_is : ∃ f0 f1 : Field, Tryz.prog.underlying 163 = some (.struct #[f0, f1]) ∧ Tryz.prog.cellsOf 163 = 2 ∧ (f0.type = 3 ∧ f0.offset = 0) ∧ (f1.type = 3 ∧ f1.offset = 1) :=
 ⟨_, _, Tryz.underlying163, by kernel_rfl, ⟨rfl, rfl⟩, ⟨rfl, rfl⟩⟩
theorem zQFrm_0 {p : Prop} (h : p := by
 simp only [List.map_cons, List.map_nil, bk, Rows.uptoBulk, Rows.uptoBulkAll]
 omega
 ) : p := h
theorem zQFrm_2 {p : Prop} (h : p := by rw [hlen]; simp) : p := h
set_option maxRecDepth 100000 in
theorem Chg_up {w : World} {fuel : Nat} {cl : List Value} {y : DataW H × List MemPlace} (hl : cl.length = 2) (hf : DataW.trod enc Tryz.prog w 0 (fun _ => true) true fuel 163 cl = some y) : ∃ (x : Chg) (c : Array Value), cl = c.toList ∧ c.size = 2 ∧ RChg (Lo w.heap.size) w x c ∧ GChg (bk y.1) x ∧ 2 ≤ bk y.1 := by
 obtain ⟨f0, f1, hs, hC, t0, t1⟩ := Chg_is
 obtain ⟨c0, c1, rfl⟩ := cells2_of hl
 obtain ⟨ys, m, -, hy, -, hlen, hg⟩ := DataW.trod_struct hs hf
 have e0 := hg 0 f0 rfl
 rw [t0.1, t0.2, cof_int] at e0
 obtain ⟨y0, g0⟩ : ∃ y, ys[0]? = some y := ⟨ys[0]'zQFrm_2, List.getElem?_eq_getElem _⟩
 rw [g0] at e0
 have e0 : DataW.trod enc Tryz.prog w 0 (fun _ => true) true m 3 [c0] = some y0 := e0
 have e1 := hg 1 f1 rfl
 rw [t1.1, t1.2, cof_int] at e1
 obtain ⟨y1, g1⟩ : ∃ y, ys[1]? = some y := ⟨ys[1]'zQFrm_2, List.getElem?_eq_getElem _⟩
 rw [g1] at e1
 have e1 : DataW.trod enc Tryz.prog w 0 (fun _ => true) true m 3 [c1] = some y1 := e1
 have hyb : bk y.1 = 1 + bk y0.1 + bk y1.1 := by
  rw [hy, data2 hlen g0 g1]
  exact zQFrm_0
 have hb0 := bk_one y0.1
 obtain ⟨a0, q0, -, -⟩ := DataW.trod_int Tryz.underlying3 e0
 have hb1 := bk_one y1.1
 obtain ⟨a1, q1, -, -⟩ := DataW.trod_int Tryz.underlying3 e1
 simp only [List.cons.injEq, and_true] at q0 q1
 subst q0 q1
 exact ⟨⟨a0, a1⟩, cChg _, rfl, rfl, rfl, ⟨trivial⟩, by omega⟩
theorem Chgs_up {w : World} {fuel : Nat} {v : Value} {y : DataW H × List MemPlace} (h : DataW.trod enc Tryz.prog w 0 (fun _ => true) true fuel 84 [v] = some y) : ∃ (l : List Chg) (p : Option Addr) (m c : Nat), v = .slice p m c ∧ Rw 2 RChg (Lo w.heap.size) w l p m ∧ 2 * l.length ≤ bk y.1 ∧ ∀ x ∈ l, GChg (bk y.1) x :=
 rows_up (Good := GChg) (d := 2) (fun hBC h => GChg.mono hBC h) Tryz.underlying84 (by obtain ⟨_, _, -, hC, -⟩ := Chg_is; exact hC) zQFrm_3 h fun fuel cl u h1 h2 => Chg_up h1 h2
structure GVal (B : Nat) (x : Val) : Prop where
 nm : x.nm.size ≤ B
theorem GVal.mono {B C : Nat} {x : Val} (hBC : B ≤ C) (h : GVal B x) : GVal C x where
 nm := by have := h.nm; omega
theorem cof_simulator_api_Type : Tryz.prog.cellsOf 61 = 1 := by kernel_rfl
theorem Val_is : ∃ f0 f1 f2 : Field, Tryz.prog.underlying 63 = some (.struct #[f0, f1, f2]) ∧ Tryz.prog.cellsOf 63 = 3 ∧ (f0.type = 9 ∧ f0.offset = 0) ∧ (f1.type = 61 ∧ f1.offset = 1) ∧ (f2.type = 3 ∧ f2.offset = 2) :=
 ⟨_, _, _, Tryz.underlying63, by kernel_rfl, ⟨rfl, rfl⟩, ⟨rfl, rfl⟩, ⟨rfl, rfl⟩⟩
theorem zQFrm_1 {p : Prop} (h : p := by
 rw [hy, data3 hlen g0 g1 g2]
 exact zQFrm_0
 ) : p := h
set_option maxRecDepth 100000 in
theorem Val_up {w : World} {fuel : Nat} {cl : List Value} {y : DataW H × List MemPlace} (hl : cl.length = 3) (hf : DataW.trod enc Tryz.prog w 0 (fun _ => true) true fuel 63 cl = some y) : ∃ (x : Val) (c : Array Value), cl = c.toList ∧ c.size = 3 ∧ RVal (Lo w.heap.size) w x c ∧ GVal (bk y.1) x ∧ 2 ≤ bk y.1 := by
 obtain ⟨f0, f1, f2, hs, hC, t0, t1, t2⟩ := Val_is
 obtain ⟨c0, c1, c2, rfl⟩ := cells3_of hl
 obtain ⟨ys, m, -, hy, -, hlen, hg⟩ := DataW.trod_struct hs hf
 have e0 := hg 0 f0 rfl
 rw [t0.1, t0.2, cof_string] at e0
 obtain ⟨y0, g0⟩ : ∃ y, ys[0]? = some y := ⟨ys[0]'zQFrm_2, List.getElem?_eq_getElem _⟩
 rw [g0] at e0
 have e0 : DataW.trod enc Tryz.prog w 0 (fun _ => true) true m 9 [c0] = some y0 := e0
 have e1 := hg 1 f1 rfl
 rw [t1.1, t1.2, cof_simulator_api_Type] at e1
 obtain ⟨y1, g1⟩ : ∃ y, ys[1]? = some y := ⟨ys[1]'zQFrm_2, List.getElem?_eq_getElem _⟩
 rw [g1] at e1
 have e1 : DataW.trod enc Tryz.prog w 0 (fun _ => true) true m 61 [c1] = some y1 := e1
 have e2 := hg 2 f2 rfl
 rw [t2.1, t2.2, cof_int] at e2
 obtain ⟨y2, g2⟩ : ∃ y, ys[2]? = some y := ⟨ys[2]'zQFrm_2, List.getElem?_eq_getElem _⟩
 rw [g2] at e2
 have e2 : DataW.trod enc Tryz.prog w 0 (fun _ => true) true m 3 [c2] = some y2 := e2
 have hyb : bk y.1 = 1 + bk y0.1 + bk y1.1 + bk y2.1 := by
  exact zQFrm_1
 have hb0 := bk_one y0.1
 obtain ⟨s0, q0, d0, -⟩ := DataW.trod_string Tryz.underlying9 e0
 have z0 : bk y0.1 = s0.size + 1 := by rw [d0]; simp only [bk, Rows.uptoBulk, Array.length_toList]; rfl
 have hb1 := bk_one y1.1
 obtain ⟨a1, q1, -, -⟩ := DataW.trod_int Tryz.underlying61 e1
 have hb2 := bk_one y2.1
 obtain ⟨a2, q2, -, -⟩ := DataW.trod_int Tryz.underlying3 e2
 simp only [List.cons.injEq, and_true] at q0 q1 q2
 subst q0 q1 q2
 exact ⟨⟨s0, a1, a2⟩, cVal _, rfl, rfl, rfl, ⟨by show s0.size ≤ _; omega⟩, by omega⟩
theorem Vals_up {w : World} {fuel : Nat} {v : Value} {y : DataW H × List MemPlace} (h : DataW.trod enc Tryz.prog w 0 (fun _ => true) true fuel 22 [v] = some y) : ∃ (l : List Val) (p : Option Addr) (m c : Nat), v = .slice p m c ∧ Rw 3 RVal (Lo w.heap.size) w l p m ∧ 2 * l.length ≤ bk y.1 ∧ ∀ x ∈ l, GVal (bk y.1) x :=
 rows_up (Good := GVal) (d := 2) (fun hBC h => GVal.mono hBC h) Tryz.underlying22 (by obtain ⟨_, _, _, -, hC, -⟩ := Val_is; exact hC) zQFrm_3 h fun fuel cl u h1 h2 => Val_up h1 h2
structure GSto (B : Nat) (x : Sto) : Prop where
 nm : x.nm.size ≤ B
theorem GSto.mono {B C : Nat} {x : Sto} (hBC : B ≤ C) (h : GSto B x) : GSto C x where
 nm := by have := h.nm; omega
theorem cof_simulator_api_Policy : Tryz.prog.cellsOf 93 = 1 := by kernel_rfl
theorem Sto_is : ∃ f0 f1 f2 : Field, Tryz.prog.underlying 95 = some (.struct #[f0, f1, f2]) ∧ Tryz.prog.cellsOf 95 = 3 ∧ (f0.type = 9 ∧ f0.offset = 0) ∧ (f1.type = 3 ∧ f1.offset = 1) ∧ (f2.type = 93 ∧ f2.offset = 2) :=
 ⟨_, _, _, Tryz.underlying95, by kernel_rfl, ⟨rfl, rfl⟩, ⟨rfl, rfl⟩, ⟨rfl, rfl⟩⟩
set_option maxRecDepth 100000 in
theorem Sto_up {w : World} {fuel : Nat} {cl : List Value} {y : DataW H × List MemPlace} (hl : cl.length = 3) (hf : DataW.trod enc Tryz.prog w 0 (fun _ => true) true fuel 95 cl = some y) : ∃ (x : Sto) (c : Array Value), cl = c.toList ∧ c.size = 3 ∧ RSto (Lo w.heap.size) w x c ∧ GSto (bk y.1) x ∧ 2 ≤ bk y.1 := by
 obtain ⟨f0, f1, f2, hs, hC, t0, t1, t2⟩ := Sto_is
 obtain ⟨c0, c1, c2, rfl⟩ := cells3_of hl
 obtain ⟨ys, m, -, hy, -, hlen, hg⟩ := DataW.trod_struct hs hf
 have e0 := hg 0 f0 rfl
 rw [t0.1, t0.2, cof_string] at e0
 obtain ⟨y0, g0⟩ : ∃ y, ys[0]? = some y := ⟨ys[0]'zQFrm_2, List.getElem?_eq_getElem _⟩
 rw [g0] at e0
 have e0 : DataW.trod enc Tryz.prog w 0 (fun _ => true) true m 9 [c0] = some y0 := e0
 have e1 := hg 1 f1 rfl
 rw [t1.1, t1.2, cof_int] at e1
 obtain ⟨y1, g1⟩ : ∃ y, ys[1]? = some y := ⟨ys[1]'zQFrm_2, List.getElem?_eq_getElem _⟩
 rw [g1] at e1
 have e1 : DataW.trod enc Tryz.prog w 0 (fun _ => true) true m 3 [c1] = some y1 := e1
 have e2 := hg 2 f2 rfl
 rw [t2.1, t2.2, cof_simulator_api_Policy] at e2
 obtain ⟨y2, g2⟩ : ∃ y, ys[2]? = some y := ⟨ys[2]'zQFrm_2, List.getElem?_eq_getElem _⟩
 rw [g2] at e2
 have e2 : DataW.trod enc Tryz.prog w 0 (fun _ => true) true m 93 [c2] = some y2 := e2
 have hyb : bk y.1 = 1 + bk y0.1 + bk y1.1 + bk y2.1 := by
  exact zQFrm_1
 have hb0 := bk_one y0.1
 obtain ⟨s0, q0, d0, -⟩ := DataW.trod_string Tryz.underlying9 e0
 have z0 : bk y0.1 = s0.size + 1 := by rw [d0]; simp only [bk, Rows.uptoBulk, Array.length_toList]; rfl
 have hb1 := bk_one y1.1
 obtain ⟨a1, q1, -, -⟩ := DataW.trod_int Tryz.underlying3 e1
 have hb2 := bk_one y2.1
 obtain ⟨a2, q2, -, -⟩ := DataW.trod_int Tryz.underlying93 e2
 simp only [List.cons.injEq, and_true] at q0 q1 q2
 subst q0 q1 q2
 exact ⟨⟨s0, a1, a2⟩, cSto _, rfl, rfl, rfl, ⟨by show s0.size ≤ _; omega⟩, by omega⟩
theorem Stos_up {w : World} {fuel : Nat} {v : Value} {y : DataW H × List MemPlace} (h : DataW.trod enc Tryz.prog w 0 (fun _ => true) true fuel 35 [v] = some y) : ∃ (l : List Sto) (p : Option Addr) (m c : Nat), v = .slice p m c ∧ Rw 3 RSto (Lo w.heap.size) w l p m ∧ 2 * l.length ≤ bk y.1 ∧ ∀ x ∈ l, GSto (bk y.1) x :=
 rows_up (Good := GSto) (d := 2) (fun hBC h => GSto.mono hBC h) Tryz.underlying35 (by obtain ⟨_, _, _, -, hC, -⟩ := Sto_is; exact hC) zQFrm_3 h fun fuel cl u h1 h2 => Sto_up h1 h2
structure GBlt (B : Nat) (x : Blt) : Prop where
 nm : x.nm.size ≤ B
theorem GBlt.mono {B C : Nat} {x : Blt} (hBC : B ≤ C) (h : GBlt B x) : GBlt C x where
 nm := by have := h.nm; omega
theorem Blt_is : ∃ f0 f1 f2 : Field, Tryz.prog.underlying 97 = some (.struct #[f0, f1, f2]) ∧ Tryz.prog.cellsOf 97 = 3 ∧ (f0.type = 9 ∧ f0.offset = 0) ∧ (f1.type = 3 ∧ f1.offset = 1) ∧ (f2.type = 3 ∧ f2.offset = 2) :=
 ⟨_, _, _, Tryz.underlying97, by kernel_rfl, ⟨rfl, rfl⟩, ⟨rfl, rfl⟩, ⟨rfl, rfl⟩⟩
set_option maxRecDepth 100000 in
theorem Blt_up {w : World} {fuel : Nat} {cl : List Value} {y : DataW H × List MemPlace} (hl : cl.length = 3) (hf : DataW.trod enc Tryz.prog w 0 (fun _ => true) true fuel 97 cl = some y) : ∃ (x : Blt) (c : Array Value), cl = c.toList ∧ c.size = 3 ∧ RBlt (Lo w.heap.size) w x c ∧ GBlt (bk y.1) x ∧ 2 ≤ bk y.1 := by
 obtain ⟨f0, f1, f2, hs, hC, t0, t1, t2⟩ := Blt_is
 obtain ⟨c0, c1, c2, rfl⟩ := cells3_of hl
 obtain ⟨ys, m, -, hy, -, hlen, hg⟩ := DataW.trod_struct hs hf
 have e0 := hg 0 f0 rfl
 rw [t0.1, t0.2, cof_string] at e0
 obtain ⟨y0, g0⟩ : ∃ y, ys[0]? = some y := ⟨ys[0]'zQFrm_2, List.getElem?_eq_getElem _⟩
 rw [g0] at e0
 have e0 : DataW.trod enc Tryz.prog w 0 (fun _ => true) true m 9 [c0] = some y0 := e0
 have e1 := hg 1 f1 rfl
 rw [t1.1, t1.2, cof_int] at e1
 obtain ⟨y1, g1⟩ : ∃ y, ys[1]? = some y := ⟨ys[1]'zQFrm_2, List.getElem?_eq_getElem _⟩
 rw [g1] at e1
 have e1 : DataW.trod enc Tryz.prog w 0 (fun _ => true) true m 3 [c1] = some y1 := e1
 have e2 := hg 2 f2 rfl
 rw [t2.1, t2.2, cof_int] at e2
 obtain ⟨y2, g2⟩ : ∃ y, ys[2]? = some y := ⟨ys[2]'zQFrm_2, List.getElem?_eq_getElem _⟩
 rw [g2] at e2
 have e2 : DataW.trod enc Tryz.prog w 0 (fun _ => true) true m 3 [c2] = some y2 := e2
 have hyb : bk y.1 = 1 + bk y0.1 + bk y1.1 + bk y2.1 := by
  exact zQFrm_1
 have hb0 := bk_one y0.1
 obtain ⟨s0, q0, d0, -⟩ := DataW.trod_string Tryz.underlying9 e0
 have z0 : bk y0.1 = s0.size + 1 := by rw [d0]; simp only [bk, Rows.uptoBulk, Array.length_toList]; rfl
 have hb1 := bk_one y1.1
 obtain ⟨a1, q1, -, -⟩ := DataW.trod_int Tryz.underlying3 e1
 have hb2 := bk_one y2.1
 obtain ⟨a2, q2, -, -⟩ := DataW.trod_int Tryz.underlying3 e2
 simp only [List.cons.injEq, and_true] at q0 q1 q2
 subst q0 q1 q2
 exact ⟨⟨s0, a1, a2⟩, cBlt _, rfl, rfl, rfl, ⟨by show s0.size ≤ _; omega⟩, by omega⟩
theorem Blts_up {w : World} {fuel : Nat} {v : Value} {y : DataW H × List MemPlace} (h : DataW.trod enc Tryz.prog w 0 (fun _ => true) true fuel 36 [v] = some y) : ∃ (l : List Blt) (p : Option Addr) (m c : Nat), v = .slice p m c ∧ Rw 3 RBlt (Lo w.heap.size) w l p m ∧ 2 * l.length ≤ bk y.1 ∧ ∀ x ∈ l, GBlt (bk y.1) x :=
 rows_up (Good := GBlt) (d := 2) (fun hBC h => GBlt.mono hBC h) Tryz.underlying36 (by obtain ⟨_, _, _, -, hC, -⟩ := Blt_is; exact hC) zQFrm_3 h fun fuel cl u h1 h2 => Blt_up h1 h2
structure GFld (B : Nat) (x : Fld) : Prop where
 nm : x.nm.size ≤ B
theorem GFld.mono {B C : Nat} {x : Fld} (hBC : B ≤ C) (h : GFld B x) : GFld C x where
 nm := by have := h.nm; omega
theorem Fld_is : ∃ f0 f1 : Field, Tryz.prog.underlying 103 = some (.struct #[f0, f1]) ∧ Tryz.prog.cellsOf 103 = 2 ∧ (f0.type = 9 ∧ f0.offset = 0) ∧ (f1.type = 61 ∧ f1.offset = 1) :=
 ⟨_, _, Tryz.underlying103, by kernel_rfl, ⟨rfl, rfl⟩, ⟨rfl, rfl⟩⟩
set_option maxRecDepth 100000 in
theorem Fld_up {w : World} {fuel : Nat} {cl : List Value} {y : DataW H × List MemPlace} (hl : cl.length = 2) (hf : DataW.trod enc Tryz.prog w 0 (fun _ => true) true fuel 103 cl = some y) : ∃ (x : Fld) (c : Array Value), cl = c.toList ∧ c.size = 2 ∧ RFld (Lo w.heap.size) w x c ∧ GFld (bk y.1) x ∧ 2 ≤ bk y.1 := by
 obtain ⟨f0, f1, hs, hC, t0, t1⟩ := Fld_is
 obtain ⟨c0, c1, rfl⟩ := cells2_of hl
 obtain ⟨ys, m, -, hy, -, hlen, hg⟩ := DataW.trod_struct hs hf
 have e0 := hg 0 f0 rfl
 rw [t0.1, t0.2, cof_string] at e0
 obtain ⟨y0, g0⟩ : ∃ y, ys[0]? = some y := ⟨ys[0]'zQFrm_2, List.getElem?_eq_getElem _⟩
 rw [g0] at e0
 have e0 : DataW.trod enc Tryz.prog w 0 (fun _ => true) true m 9 [c0] = some y0 := e0
 have e1 := hg 1 f1 rfl
 rw [t1.1, t1.2, cof_simulator_api_Type] at e1
 obtain ⟨y1, g1⟩ : ∃ y, ys[1]? = some y := ⟨ys[1]'zQFrm_2, List.getElem?_eq_getElem _⟩
 rw [g1] at e1
 have e1 : DataW.trod enc Tryz.prog w 0 (fun _ => true) true m 61 [c1] = some y1 := e1
 have hyb : bk y.1 = 1 + bk y0.1 + bk y1.1 := by
  rw [hy, data2 hlen g0 g1]
  exact zQFrm_0
 have hb0 := bk_one y0.1
 obtain ⟨s0, q0, d0, -⟩ := DataW.trod_string Tryz.underlying9 e0
 have z0 : bk y0.1 = s0.size + 1 := by rw [d0]; simp only [bk, Rows.uptoBulk, Array.length_toList]; rfl
 have hb1 := bk_one y1.1
 obtain ⟨a1, q1, -, -⟩ := DataW.trod_int Tryz.underlying61 e1
 simp only [List.cons.injEq, and_true] at q0 q1
 subst q0 q1
 exact ⟨⟨s0, a1⟩, cFld _, rfl, rfl, rfl, ⟨by show s0.size ≤ _; omega⟩, by omega⟩
theorem Flds_up {w : World} {fuel : Nat} {v : Value} {y : DataW H × List MemPlace} (h : DataW.trod enc Tryz.prog w 0 (fun _ => true) true fuel 76 [v] = some y) : ∃ (l : List Fld) (p : Option Addr) (m c : Nat), v = .slice p m c ∧ Rw 2 RFld (Lo w.heap.size) w l p m ∧ 2 * l.length ≤ bk y.1 ∧ ∀ x ∈ l, GFld (bk y.1) x :=
 rows_up (Good := GFld) (d := 2) (fun hBC h => GFld.mono hBC h) Tryz.underlying76 (by obtain ⟨_, _, -, hC, -⟩ := Fld_is; exact hC) zQFrm_3 h fun fuel cl u h1 h2 => Fld_up h1 h2
structure GTrm (B : Nat) (x : Trm) : Prop where
 wh : x.wh.size ≤ B
 nm : x.nm.size ≤ B
theorem GTrm.mono {B C : Nat} {x : Trm} (hBC : B ≤ C) (h : GTrm B x) : GTrm C x where
 wh := by have := h.wh; omega
 nm := by have := h.nm; omega
theorem Trm_is : ∃ f0 f1 f2 : Field, Tryz.prog.underlying 54 = some (.struct #[f0, f1, f2]) ∧ Tryz.prog.cellsOf 54 = 3 ∧ (f0.type = 3 ∧ f0.offset = 0) ∧ (f1.type = 9 ∧ f1.offset = 1) ∧ (f2.type = 9 ∧ f2.offset = 2) :=
 ⟨_, _, _, Tryz.underlying54, by kernel_rfl, ⟨rfl, rfl⟩, ⟨rfl, rfl⟩, ⟨rfl, rfl⟩⟩
set_option maxRecDepth 100000 in
theorem Trm_up {w : World} {fuel : Nat} {cl : List Value} {y : DataW H × List MemPlace} (hl : cl.length = 3) (hf : DataW.trod enc Tryz.prog w 0 (fun _ => true) true fuel 54 cl = some y) : ∃ (x : Trm) (c : Array Value), cl = c.toList ∧ c.size = 3 ∧ RTrm (Lo w.heap.size) w x c ∧ GTrm (bk y.1) x ∧ 2 ≤ bk y.1 := by
 obtain ⟨f0, f1, f2, hs, hC, t0, t1, t2⟩ := Trm_is
 obtain ⟨c0, c1, c2, rfl⟩ := cells3_of hl
 obtain ⟨ys, m, -, hy, -, hlen, hg⟩ := DataW.trod_struct hs hf
 have e0 := hg 0 f0 rfl
 rw [t0.1, t0.2, cof_int] at e0
 obtain ⟨y0, g0⟩ : ∃ y, ys[0]? = some y := ⟨ys[0]'zQFrm_2, List.getElem?_eq_getElem _⟩
 rw [g0] at e0
 have e0 : DataW.trod enc Tryz.prog w 0 (fun _ => true) true m 3 [c0] = some y0 := e0
 have e1 := hg 1 f1 rfl
 rw [t1.1, t1.2, cof_string] at e1
 obtain ⟨y1, g1⟩ : ∃ y, ys[1]? = some y := ⟨ys[1]'zQFrm_2, List.getElem?_eq_getElem _⟩
 rw [g1] at e1
 have e1 : DataW.trod enc Tryz.prog w 0 (fun _ => true) true m 9 [c1] = some y1 := e1
 have e2 := hg 2 f2 rfl
 rw [t2.1, t2.2, cof_string] at e2
 obtain ⟨y2, g2⟩ : ∃ y, ys[2]? = some y := ⟨ys[2]'zQFrm_2, List.getElem?_eq_getElem _⟩
 rw [g2] at e2
 have e2 : DataW.trod enc Tryz.prog w 0 (fun _ => true) true m 9 [c2] = some y2 := e2
 have hyb : bk y.1 = 1 + bk y0.1 + bk y1.1 + bk y2.1 := by
  exact zQFrm_1
 have hb0 := bk_one y0.1
 obtain ⟨a0, q0, -, -⟩ := DataW.trod_int Tryz.underlying3 e0
 have hb1 := bk_one y1.1
 obtain ⟨s1, q1, d1, -⟩ := DataW.trod_string Tryz.underlying9 e1
 have z1 : bk y1.1 = s1.size + 1 := by rw [d1]; simp only [bk, Rows.uptoBulk, Array.length_toList]; rfl
 have hb2 := bk_one y2.1
 obtain ⟨s2, q2, d2, -⟩ := DataW.trod_string Tryz.underlying9 e2
 have z2 : bk y2.1 = s2.size + 1 := by rw [d2]; simp only [bk, Rows.uptoBulk, Array.length_toList]; rfl
 simp only [List.cons.injEq, and_true] at q0 q1 q2
 subst q0 q1 q2
 exact ⟨⟨a0, s1, s2⟩, cTrm _, rfl, rfl, rfl, ⟨by show s1.size ≤ _; omega, by show s2.size ≤ _; omega⟩, by omega⟩
theorem Trms_up {w : World} {fuel : Nat} {v : Value} {y : DataW H × List MemPlace} (h : DataW.trod enc Tryz.prog w 0 (fun _ => true) true fuel 55 [v] = some y) : ∃ (l : List Trm) (p : Option Addr) (m c : Nat), v = .slice p m c ∧ Rw 3 RTrm (Lo w.heap.size) w l p m ∧ 2 * l.length ≤ bk y.1 ∧ ∀ x ∈ l, GTrm (bk y.1) x :=
 rows_up (Good := GTrm) (d := 2) (fun hBC h => GTrm.mono hBC h) Tryz.underlying55 (by obtain ⟨_, _, _, -, hC, -⟩ := Trm_is; exact hC) zQFrm_3 h fun fuel cl u h1 h2 => Trm_up h1 h2
structure GLnk (B : Nat) (x : Lnk) : Prop where
 fr : x.fr.size ≤ B
 tt : x.tt.size ≤ B
theorem GLnk.mono {B C : Nat} {x : Lnk} (hBC : B ≤ C) (h : GLnk B x) : GLnk C x where
 fr := by have := h.fr; omega
 tt := by have := h.tt; omega
theorem Lnk_is : ∃ f0 f1 f2 : Field, Tryz.prog.underlying 49 = some (.struct #[f0, f1, f2]) ∧ Tryz.prog.cellsOf 49 = 3 ∧ (f0.type = 9 ∧ f0.offset = 0) ∧ (f1.type = 9 ∧ f1.offset = 1) ∧ (f2.type = 3 ∧ f2.offset = 2) :=
 ⟨_, _, _, Tryz.underlying49, by kernel_rfl, ⟨rfl, rfl⟩, ⟨rfl, rfl⟩, ⟨rfl, rfl⟩⟩
set_option maxRecDepth 100000 in
theorem Lnk_up {w : World} {fuel : Nat} {cl : List Value} {y : DataW H × List MemPlace} (hl : cl.length = 3) (hf : DataW.trod enc Tryz.prog w 0 (fun _ => true) true fuel 49 cl = some y) : ∃ (x : Lnk) (c : Array Value), cl = c.toList ∧ c.size = 3 ∧ RLnk (Lo w.heap.size) w x c ∧ GLnk (bk y.1) x ∧ 2 ≤ bk y.1 := by
 obtain ⟨f0, f1, f2, hs, hC, t0, t1, t2⟩ := Lnk_is
 obtain ⟨c0, c1, c2, rfl⟩ := cells3_of hl
 obtain ⟨ys, m, -, hy, -, hlen, hg⟩ := DataW.trod_struct hs hf
 have e0 := hg 0 f0 rfl
 rw [t0.1, t0.2, cof_string] at e0
 obtain ⟨y0, g0⟩ : ∃ y, ys[0]? = some y := ⟨ys[0]'zQFrm_2, List.getElem?_eq_getElem _⟩
 rw [g0] at e0
 have e0 : DataW.trod enc Tryz.prog w 0 (fun _ => true) true m 9 [c0] = some y0 := e0
 have e1 := hg 1 f1 rfl
 rw [t1.1, t1.2, cof_string] at e1
 obtain ⟨y1, g1⟩ : ∃ y, ys[1]? = some y := ⟨ys[1]'zQFrm_2, List.getElem?_eq_getElem _⟩
 rw [g1] at e1
 have e1 : DataW.trod enc Tryz.prog w 0 (fun _ => true) true m 9 [c1] = some y1 := e1
 have e2 := hg 2 f2 rfl
 rw [t2.1, t2.2, cof_int] at e2
 obtain ⟨y2, g2⟩ : ∃ y, ys[2]? = some y := ⟨ys[2]'zQFrm_2, List.getElem?_eq_getElem _⟩
 rw [g2] at e2
 have e2 : DataW.trod enc Tryz.prog w 0 (fun _ => true) true m 3 [c2] = some y2 := e2
 have hyb : bk y.1 = 1 + bk y0.1 + bk y1.1 + bk y2.1 := by
  exact zQFrm_1
 have hb0 := bk_one y0.1
 obtain ⟨s0, q0, d0, -⟩ := DataW.trod_string Tryz.underlying9 e0
 have z0 : bk y0.1 = s0.size + 1 := by rw [d0]; simp only [bk, Rows.uptoBulk, Array.length_toList]; rfl
 have hb1 := bk_one y1.1
 obtain ⟨s1, q1, d1, -⟩ := DataW.trod_string Tryz.underlying9 e1
 have z1 : bk y1.1 = s1.size + 1 := by rw [d1]; simp only [bk, Rows.uptoBulk, Array.length_toList]; rfl
 have hb2 := bk_one y2.1
 obtain ⟨a2, q2, -, -⟩ := DataW.trod_int Tryz.underlying3 e2
 simp only [List.cons.injEq, and_true] at q0 q1 q2
 subst q0 q1 q2
 exact ⟨⟨s0, s1, a2⟩, cLnk _, rfl, rfl, rfl, ⟨by show s0.size ≤ _; omega, by show s1.size ≤ _; omega⟩, by omega⟩
theorem Lnks_up {w : World} {fuel : Nat} {v : Value} {y : DataW H × List MemPlace} (h : DataW.trod enc Tryz.prog w 0 (fun _ => true) true fuel 24 [v] = some y) : ∃ (l : List Lnk) (p : Option Addr) (m c : Nat), v = .slice p m c ∧ Rw 3 RLnk (Lo w.heap.size) w l p m ∧ 2 * l.length ≤ bk y.1 ∧ ∀ x ∈ l, GLnk (bk y.1) x :=
 rows_up (Good := GLnk) (d := 2) (fun hBC h => GLnk.mono hBC h) Tryz.underlying24 (by obtain ⟨_, _, _, -, hC, -⟩ := Lnk_is; exact hC) zQFrm_3 h fun fuel cl u h1 h2 => Lnk_up h1 h2
theorem cof_simulator_api_Dist : Tryz.prog.cellsOf 88 = 6 := by kernel_rfl
theorem Flt_is : ∃ f0 f1 f2 : Field, Tryz.prog.underlying 90 = some (.struct #[f0, f1, f2]) ∧ Tryz.prog.cellsOf 90 = 13 ∧ (f0.type = 9 ∧ f0.offset = 0) ∧ (f1.type = 88 ∧ f1.offset = 1) ∧ (f2.type = 88 ∧ f2.offset = 7) :=
 ⟨_, _, _, Tryz.underlying90, by kernel_rfl, ⟨rfl, rfl⟩, ⟨rfl, rfl⟩, ⟨rfl, rfl⟩⟩
set_option maxRecDepth 100000 in
theorem Flt_up {w : World} {fuel : Nat} {cl : List Value} {y : DataW H × List MemPlace} (hl : cl.length = 13) (hf : DataW.trod enc Tryz.prog w 0 (fun _ => true) true fuel 90 cl = some y) : ∃ (x : Res) (P : PRes), cl = [.string x.fs, .int .i64 x.up.op, .int .i64 x.up.a, .int .i64 x.up.b, .int .i64 x.up.n, .slice P.upvp P.upvm P.upvc, .slice P.upwp P.upwm P.upwc, .int .i64 x.dn.op, .int .i64 x.dn.a, .int .i64 x.dn.b, .int .i64 x.dn.n, .slice P.dnvp P.dnvm P.dnvc, .slice P.dnwp P.dnwm P.dnwc] ∧ OFlt w x P ∧ x.fs.size ≤ bk y.1 := by
 obtain ⟨f0, f1, f2, hs, hC, t0, t1, t2⟩ := Flt_is
 obtain ⟨c0, c1, c2, c3, c4, c5, c6, c7, c8, c9, c10, c11, c12, rfl⟩ := cells13_of hl
 obtain ⟨ys, m, -, hy, -, hlen, hg⟩ := DataW.trod_struct hs hf
 have e0 := hg 0 f0 rfl
 rw [t0.1, t0.2, cof_string] at e0
 obtain ⟨y0, g0⟩ : ∃ y, ys[0]? = some y := ⟨ys[0]'zQFrm_2, List.getElem?_eq_getElem _⟩
 rw [g0] at e0
 have e0 : DataW.trod enc Tryz.prog w 0 (fun _ => true) true m 9 [c0] = some y0 := e0
 have e1 := hg 1 f1 rfl
 rw [t1.1, t1.2, cof_simulator_api_Dist] at e1
 obtain ⟨y1, g1⟩ : ∃ y, ys[1]? = some y := ⟨ys[1]'zQFrm_2, List.getElem?_eq_getElem _⟩
 rw [g1] at e1
 have e1 : DataW.trod enc Tryz.prog w 0 (fun _ => true) true m 88 [c1, c2, c3, c4, c5, c6] = some y1 := e1
 have e2 := hg 2 f2 rfl
 rw [t2.1, t2.2, cof_simulator_api_Dist] at e2
 obtain ⟨y2, g2⟩ : ∃ y, ys[2]? = some y := ⟨ys[2]'zQFrm_2, List.getElem?_eq_getElem _⟩
 rw [g2] at e2
 have e2 : DataW.trod enc Tryz.prog w 0 (fun _ => true) true m 88 [c7, c8, c9, c10, c11, c12] = some y2 := e2
 have hyb : bk y.1 = 1 + bk y0.1 + bk y1.1 + bk y2.1 := by
  exact zQFrm_1
 have hb0 := bk_one y0.1
 obtain ⟨s0, q0, d0, -⟩ := DataW.trod_string Tryz.underlying9 e0
 have z0 : bk y0.1 = s0.size + 1 := by rw [d0]; simp only [bk, Rows.uptoBulk, Array.length_toList]; rfl
 have hb1 := bk_one y1.1
 obtain ⟨d1, vp1, vm1, vc1, wp1, wm1, wc1, q1, v1, w1, -⟩ := dist_up rfl e1
 have hb2 := bk_one y2.1
 obtain ⟨d2, vp2, vm2, vc2, wp2, wm2, wc2, q2, v2, w2, -⟩ := dist_up rfl e2
 simp only [List.cons.injEq, and_true] at q0 q1 q2
 obtain ⟨q1a, q1b, q1c, q1d, q1e, q1f⟩ := q1
 obtain ⟨q2a, q2b, q2c, q2d, q2e, q2f⟩ := q2
 subst q0 q1a q1b q1c q1d q1e q1f q2a q2b q2c q2d q2e q2f
 exact ⟨⟨nE, 0, [], 0, s0, d1, d2⟩, ⟨none, 0, 0, vp1, vm1, vc1, wp1, wm1, wc1, vp2, vm2, vc2, wp2, wm2, wc2⟩, rfl, ⟨v1, w1, v2, w2⟩, by show s0.size ≤ _; omega⟩
structure GRes (B : Nat) (x : Res) : Prop where
 nm : x.nm.size ≤ B
theorem GRes.mono {B C : Nat} {x : Res} (hBC : B ≤ C) (h : GRes B x) : GRes C x where
 nm := by have := h.nm; omega
theorem cof___api_Change : Tryz.prog.cellsOf 84 = 1 := by kernel_rfl
theorem cof_simulator_api_Fault : Tryz.prog.cellsOf 90 = 13 := by kernel_rfl
theorem Res_is : ∃ f0 f1 f2 f3 f4 : Field, Tryz.prog.underlying 92 = some (.struct #[f0, f1, f2, f3, f4]) ∧ Tryz.prog.cellsOf 92 = 17 ∧ (f0.type = 9 ∧ f0.offset = 0) ∧ (f1.type = 3 ∧ f1.offset = 1) ∧ (f2.type = 84 ∧ f2.offset = 2) ∧ (f3.type = 3 ∧ f3.offset = 3) ∧ (f4.type = 90 ∧ f4.offset = 4) :=
 ⟨_, _, _, _, _, Tryz.underlying92, by kernel_rfl, ⟨rfl, rfl⟩, ⟨rfl, rfl⟩, ⟨rfl, rfl⟩, ⟨rfl, rfl⟩, ⟨rfl, rfl⟩⟩
set_option maxRecDepth 100000 in
theorem Res_up {w : World} {fuel : Nat} {cl : List Value} {y : DataW H × List MemPlace} (hl : cl.length = 17) (hf : DataW.trod enc Tryz.prog w 0 (fun _ => true) true fuel 92 cl = some y) : ∃ (x : Res) (c : Array Value), cl = c.toList ∧ c.size = 17 ∧ RRes (Lo w.heap.size) w x c ∧ GRes (bk y.1) x ∧ 2 ≤ bk y.1 := by
 obtain ⟨f0, f1, f2, f3, f4, hs, hC, t0, t1, t2, t3, t4⟩ := Res_is
 obtain ⟨c0, c1, c2, c3, c4, c5, c6, c7, c8, c9, c10, c11, c12, c13, c14, c15, c16, rfl⟩ := cells17_of hl
 obtain ⟨ys, m, -, hy, -, hlen, hg⟩ := DataW.trod_struct hs hf
 have e0 := hg 0 f0 rfl
 rw [t0.1, t0.2, cof_string] at e0
 obtain ⟨y0, g0⟩ : ∃ y, ys[0]? = some y := ⟨ys[0]'zQFrm_2, List.getElem?_eq_getElem _⟩
 rw [g0] at e0
 have e0 : DataW.trod enc Tryz.prog w 0 (fun _ => true) true m 9 [c0] = some y0 := e0
 have e1 := hg 1 f1 rfl
 rw [t1.1, t1.2, cof_int] at e1
 obtain ⟨y1, g1⟩ : ∃ y, ys[1]? = some y := ⟨ys[1]'zQFrm_2, List.getElem?_eq_getElem _⟩
 rw [g1] at e1
 have e1 : DataW.trod enc Tryz.prog w 0 (fun _ => true) true m 3 [c1] = some y1 := e1
 have e2 := hg 2 f2 rfl
 rw [t2.1, t2.2, cof___api_Change] at e2
 obtain ⟨y2, g2⟩ : ∃ y, ys[2]? = some y := ⟨ys[2]'zQFrm_2, List.getElem?_eq_getElem _⟩
 rw [g2] at e2
 have e2 : DataW.trod enc Tryz.prog w 0 (fun _ => true) true m 84 [c2] = some y2 := e2
 have e3 := hg 3 f3 rfl
 rw [t3.1, t3.2, cof_int] at e3
 obtain ⟨y3, g3⟩ : ∃ y, ys[3]? = some y := ⟨ys[3]'zQFrm_2, List.getElem?_eq_getElem _⟩
 rw [g3] at e3
 have e3 : DataW.trod enc Tryz.prog w 0 (fun _ => true) true m 3 [c3] = some y3 := e3
 have e4 := hg 4 f4 rfl
 rw [t4.1, t4.2, cof_simulator_api_Fault] at e4
 obtain ⟨y4, g4⟩ : ∃ y, ys[4]? = some y := ⟨ys[4]'zQFrm_2, List.getElem?_eq_getElem _⟩
 rw [g4] at e4
 have e4 : DataW.trod enc Tryz.prog w 0 (fun _ => true) true m 90 [c4, c5, c6, c7, c8, c9, c10, c11, c12, c13, c14, c15, c16] = some y4 := e4
 have hyb : bk y.1 = 1 + bk y0.1 + bk y1.1 + bk y2.1 + bk y3.1 + bk y4.1 := by
  rw [hy, data5 hlen g0 g1 g2 g3 g4]
  exact zQFrm_0
 have hb0 := bk_one y0.1
 obtain ⟨s0, q0, d0, -⟩ := DataW.trod_string Tryz.underlying9 e0
 have z0 : bk y0.1 = s0.size + 1 := by rw [d0]; simp only [bk, Rows.uptoBulk, Array.length_toList]; rfl
 have hb1 := bk_one y1.1
 obtain ⟨a1, q1, -, -⟩ := DataW.trod_int Tryz.underlying3 e1
 have hb2 := bk_one y2.1
 obtain ⟨l2, p2, m2, k2, q2, h2, b2, z2⟩ := Chgs_up e2
 have hb3 := bk_one y3.1
 obtain ⟨a3, q3, -, -⟩ := DataW.trod_int Tryz.underlying3 e3
 have hb4 := bk_one y4.1
 obtain ⟨x4, P4, q4, OF4, zf4⟩ := Flt_up rfl e4
 simp only [List.cons.injEq, and_true] at q0 q1 q3 q4
 obtain ⟨q4a, q4b, q4c, q4d, q4e, q4f, q4g, q4h, q4i, q4j, q4k, q4l, q4m⟩ := q4
 subst q0 q1 q2 q3 q4a q4b q4c q4d q4e q4f q4g q4h q4i q4j q4k q4l q4m
 exact ⟨⟨s0, a1, l2, a3, x4.fs, x4.up, x4.dn⟩, cRes _ ⟨p2, m2, k2, P4.upvp, P4.upvm, P4.upvc, P4.upwp, P4.upwm, P4.upwc, P4.dnvp, P4.dnvm, P4.dnvc, P4.dnwp, P4.dnwm, P4.dnwc⟩, rfl, rfl, ⟨_, rfl, ⟨h2, OF4.uv, OF4.uw, OF4.dv, OF4.dw⟩⟩, ⟨by show s0.size ≤ _; omega⟩, by omega⟩
theorem Ress_up {w : World} {fuel : Nat} {v : Value} {y : DataW H × List MemPlace} (h : DataW.trod enc Tryz.prog w 0 (fun _ => true) true fuel 34 [v] = some y) : ∃ (l : List Res) (p : Option Addr) (m c : Nat), v = .slice p m c ∧ Rw 17 RRes (Lo w.heap.size) w l p m ∧ 2 * l.length ≤ bk y.1 ∧ ∀ x ∈ l, GRes (bk y.1) x :=
 rows_up (Good := GRes) (d := 2) (fun hBC h => GRes.mono hBC h) Tryz.underlying34 (by obtain ⟨_, _, _, _, _, -, hC, -⟩ := Res_is; exact hC) zQFrm_3 h fun fuel cl u h1 h2 => Res_up h1 h2
structure GRou (B : Nat) (x : Rou) : Prop where
 nm : x.nm.size ≤ B
 ps : ∀ y ∈ x.ps, GFld B y
 ls : ∀ y ∈ x.ls, GFld B y
 pl : 2 * (x.ps.length + x.ls.length) ≤ B
 bs : szL x.bo ≤ B
 bo : ∀ y ∈ ordL x.bo, Fits B y
theorem GRou.mono {B C : Nat} {x : Rou} (hBC : B ≤ C) (h : GRou B x) : GRou C x where
 nm := by have := h.nm; omega
 ps := fun y hy => (h.ps y hy).mono hBC
 ls := fun y hy => (h.ls y hy).mono hBC
 pl := by have := h.pl; omega
 bs := by have := h.bs; omega
 bo := fun y hy => (h.bo y hy).mono hBC
theorem cof___api_Field : Tryz.prog.cellsOf 76 = 1 := by kernel_rfl
theorem cof___api_Stmt : Tryz.prog.cellsOf 77 = 1 := by kernel_rfl
theorem Rou_is : ∃ f0 f1 f2 f3 : Field, Tryz.prog.underlying 79 = some (.struct #[f0, f1, f2, f3]) ∧ Tryz.prog.cellsOf 79 = 4 ∧ (f0.type = 9 ∧ f0.offset = 0) ∧ (f1.type = 76 ∧ f1.offset = 1) ∧ (f2.type = 76 ∧ f2.offset = 2) ∧ (f3.type = 77 ∧ f3.offset = 3) :=
 ⟨_, _, _, _, Tryz.underlying79, by kernel_rfl, ⟨rfl, rfl⟩, ⟨rfl, rfl⟩, ⟨rfl, rfl⟩, ⟨rfl, rfl⟩⟩
set_option maxRecDepth 100000 in
theorem Rou_up {w : World} {fuel : Nat} {cl : List Value} {y : DataW H × List MemPlace} (hl : cl.length = 4) (hf : DataW.trod enc Tryz.prog w 0 (fun _ => true) true fuel 79 cl = some y) : ∃ (x : Rou) (c : Array Value), cl = c.toList ∧ c.size = 4 ∧ RRou (Lo w.heap.size) w x c ∧ GRou (bk y.1) x ∧ 2 ≤ bk y.1 := by
 obtain ⟨f0, f1, f2, f3, hs, hC, t0, t1, t2, t3⟩ := Rou_is
 obtain ⟨c0, c1, c2, c3, rfl⟩ := cells4_of hl
 obtain ⟨ys, m, -, hy, -, hlen, hg⟩ := DataW.trod_struct hs hf
 have e0 := hg 0 f0 rfl
 rw [t0.1, t0.2, cof_string] at e0
 obtain ⟨y0, g0⟩ : ∃ y, ys[0]? = some y := ⟨ys[0]'zQFrm_2, List.getElem?_eq_getElem _⟩
 rw [g0] at e0
 have e0 : DataW.trod enc Tryz.prog w 0 (fun _ => true) true m 9 [c0] = some y0 := e0
 have e1 := hg 1 f1 rfl
 rw [t1.1, t1.2, cof___api_Field] at e1
 obtain ⟨y1, g1⟩ : ∃ y, ys[1]? = some y := ⟨ys[1]'zQFrm_2, List.getElem?_eq_getElem _⟩
 rw [g1] at e1
 have e1 : DataW.trod enc Tryz.prog w 0 (fun _ => true) true m 76 [c1] = some y1 := e1
 have e2 := hg 2 f2 rfl
 rw [t2.1, t2.2, cof___api_Field] at e2
 obtain ⟨y2, g2⟩ : ∃ y, ys[2]? = some y := ⟨ys[2]'zQFrm_2, List.getElem?_eq_getElem _⟩
 rw [g2] at e2
 have e2 : DataW.trod enc Tryz.prog w 0 (fun _ => true) true m 76 [c2] = some y2 := e2
 have e3 := hg 3 f3 rfl
 rw [t3.1, t3.2, cof___api_Stmt] at e3
 obtain ⟨y3, g3⟩ : ∃ y, ys[3]? = some y := ⟨ys[3]'zQFrm_2, List.getElem?_eq_getElem _⟩
 rw [g3] at e3
 have e3 : DataW.trod enc Tryz.prog w 0 (fun _ => true) true m 77 [c3] = some y3 := e3
 have hyb : bk y.1 = 1 + bk y0.1 + bk y1.1 + bk y2.1 + bk y3.1 := by
  rw [hy, data4 hlen g0 g1 g2 g3]
  exact zQFrm_0
 have hb0 := bk_one y0.1
 obtain ⟨s0, q0, d0, -⟩ := DataW.trod_string Tryz.underlying9 e0
 have z0 : bk y0.1 = s0.size + 1 := by rw [d0]; simp only [bk, Rows.uptoBulk, Array.length_toList]; rfl
 have hb1 := bk_one y1.1
 obtain ⟨l1, p1, m1, k1, q1, h1, b1, z1⟩ := Flds_up e1
 have hb2 := bk_one y2.1
 obtain ⟨l2, p2, m2, k2, q2, h2, b2, z2⟩ := Flds_up e2
 have hb3 := bk_one y3.1
 obtain ⟨l3, p3, m3, k3, q3, h3, -, b3, z3⟩ := lst_of e3 fun fuel cl u _ h1 h2 => st_up _ fuel cl u (Nat.le_refl _) h1 h2
 simp only [List.cons.injEq, and_true] at q0
 subst q0 q1 q2 q3
 exact ⟨⟨s0, l1, l2, l3⟩, cRou _ ⟨p1, m1, k1, p2, m2, k2, p3, m3, k3⟩, rfl, rfl, ⟨_, rfl, ⟨h1, h2, h3⟩⟩, ⟨by show s0.size ≤ _; omega, fun y hy => (z1 y hy).mono zQFrm_3, fun y hy => (z2 y hy).mono zQFrm_3, by show 2 * (l1.length + l2.length) ≤ _; omega, by show szL l3 ≤ _; omega, fun y hy => (z3 y hy).mono zQFrm_3⟩, by omega⟩
theorem Rous_up {w : World} {fuel : Nat} {v : Value} {y : DataW H × List MemPlace} (h : DataW.trod enc Tryz.prog w 0 (fun _ => true) true fuel 38 [v] = some y) : ∃ (l : List Rou) (p : Option Addr) (m c : Nat), v = .slice p m c ∧ Rw 4 RRou (Lo w.heap.size) w l p m ∧ 2 * l.length ≤ bk y.1 ∧ ∀ x ∈ l, GRou (bk y.1) x :=
 rows_up (Good := GRou) (d := 2) (fun hBC h => GRou.mono hBC h) Tryz.underlying38 (by obtain ⟨_, _, _, _, -, hC, -⟩ := Rou_is; exact hC) zQFrm_3 h fun fuel cl u h1 h2 => Rou_up h1 h2
structure GSta (B : Nat) (x : Sta) : Prop where
 t : True
theorem GSta.mono {B C : Nat} {x : Sta} (hBC : B ≤ C) (h : GSta B x) : GSta C x where
 t := trivial
theorem cof___int : Tryz.prog.cellsOf 86 = 1 := by kernel_rfl
theorem Sta_is : ∃ f0 f1 f2 f3 f4 : Field, Tryz.prog.underlying 105 = some (.struct #[f0, f1, f2, f3, f4]) ∧ Tryz.prog.cellsOf 105 = 5 ∧ (f0.type = 9 ∧ f0.offset = 0) ∧ (f1.type = 86 ∧ f1.offset = 1) ∧ (f2.type = 3 ∧ f2.offset = 2) ∧ (f3.type = 3 ∧ f3.offset = 3) ∧ (f4.type = 3 ∧ f4.offset = 4) :=
 ⟨_, _, _, _, _, Tryz.underlying105, by kernel_rfl, ⟨rfl, rfl⟩, ⟨rfl, rfl⟩, ⟨rfl, rfl⟩, ⟨rfl, rfl⟩, ⟨rfl, rfl⟩⟩
set_option maxRecDepth 100000 in
theorem Sta_up {w : World} {fuel : Nat} {cl : List Value} {y : DataW H × List MemPlace} (hl : cl.length = 5) (hf : DataW.trod enc Tryz.prog w 0 (fun _ => true) true fuel 105 cl = some y) : ∃ (x : Sta) (c : Array Value), cl = c.toList ∧ c.size = 5 ∧ RSta (Lo w.heap.size) w x c ∧ GSta (bk y.1) x ∧ 2 ≤ bk y.1 := by
 obtain ⟨f0, f1, f2, f3, f4, hs, hC, t0, t1, t2, t3, t4⟩ := Sta_is
 obtain ⟨c0, c1, c2, c3, c4, rfl⟩ := cells5_of hl
 obtain ⟨ys, m, -, hy, -, hlen, hg⟩ := DataW.trod_struct hs hf
 have e0 := hg 0 f0 rfl
 rw [t0.1, t0.2, cof_string] at e0
 obtain ⟨y0, g0⟩ : ∃ y, ys[0]? = some y := ⟨ys[0]'zQFrm_2, List.getElem?_eq_getElem _⟩
 rw [g0] at e0
 have e0 : DataW.trod enc Tryz.prog w 0 (fun _ => true) true m 9 [c0] = some y0 := e0
 have e1 := hg 1 f1 rfl
 rw [t1.1, t1.2, cof___int] at e1
 obtain ⟨y1, g1⟩ : ∃ y, ys[1]? = some y := ⟨ys[1]'zQFrm_2, List.getElem?_eq_getElem _⟩
 rw [g1] at e1
 have e1 : DataW.trod enc Tryz.prog w 0 (fun _ => true) true m 86 [c1] = some y1 := e1
 have e2 := hg 2 f2 rfl
 rw [t2.1, t2.2, cof_int] at e2
 obtain ⟨y2, g2⟩ : ∃ y, ys[2]? = some y := ⟨ys[2]'zQFrm_2, List.getElem?_eq_getElem _⟩
 rw [g2] at e2
 have e2 : DataW.trod enc Tryz.prog w 0 (fun _ => true) true m 3 [c2] = some y2 := e2
 have e3 := hg 3 f3 rfl
 rw [t3.1, t3.2, cof_int] at e3
 obtain ⟨y3, g3⟩ : ∃ y, ys[3]? = some y := ⟨ys[3]'zQFrm_2, List.getElem?_eq_getElem _⟩
 rw [g3] at e3
 have e3 : DataW.trod enc Tryz.prog w 0 (fun _ => true) true m 3 [c3] = some y3 := e3
 have e4 := hg 4 f4 rfl
 rw [t4.1, t4.2, cof_int] at e4
 obtain ⟨y4, g4⟩ : ∃ y, ys[4]? = some y := ⟨ys[4]'zQFrm_2, List.getElem?_eq_getElem _⟩
 rw [g4] at e4
 have e4 : DataW.trod enc Tryz.prog w 0 (fun _ => true) true m 3 [c4] = some y4 := e4
 have hyb : bk y.1 = 1 + bk y0.1 + bk y1.1 + bk y2.1 + bk y3.1 + bk y4.1 := by
  rw [hy, data5 hlen g0 g1 g2 g3 g4]
  exact zQFrm_0
 have hb0 := bk_one y0.1
 obtain ⟨s0, q0, d0, -⟩ := DataW.trod_string Tryz.underlying9 e0
 have z0 : bk y0.1 = s0.size + 1 := by rw [d0]; simp only [bk, Rows.uptoBulk, Array.length_toList]; rfl
 have hb1 := bk_one y1.1
 obtain ⟨l1, p1, m1, k1, q1, h1, b1⟩ := ints_up2 e1
 have hb2 := bk_one y2.1
 obtain ⟨a2, q2, -, -⟩ := DataW.trod_int Tryz.underlying3 e2
 have hb3 := bk_one y3.1
 obtain ⟨a3, q3, -, -⟩ := DataW.trod_int Tryz.underlying3 e3
 have hb4 := bk_one y4.1
 obtain ⟨a4, q4, -, -⟩ := DataW.trod_int Tryz.underlying3 e4
 simp only [List.cons.injEq, and_true] at q0 q2 q3 q4
 subst q0 q1 q2 q3 q4
 exact ⟨⟨s0, l1, a2, a3, a4⟩, cSta _ ⟨p1, m1, k1⟩, rfl, rfl, ⟨_, rfl, ⟨h1⟩⟩, ⟨trivial⟩, by omega⟩
theorem Stas_up {w : World} {fuel : Nat} {v : Value} {y : DataW H × List MemPlace} (h : DataW.trod enc Tryz.prog w 0 (fun _ => true) true fuel 39 [v] = some y) : ∃ (l : List Sta) (p : Option Addr) (m c : Nat), v = .slice p m c ∧ Rw 5 RSta (Lo w.heap.size) w l p m ∧ 2 * l.length ≤ bk y.1 ∧ ∀ x ∈ l, GSta (bk y.1) x :=
 rows_up (Good := GSta) (d := 2) (fun hBC h => GSta.mono hBC h) Tryz.underlying39 (by obtain ⟨_, _, _, _, _, -, hC, -⟩ := Sta_is; exact hC) zQFrm_3 h fun fuel cl u h1 h2 => Sta_up h1 h2
structure GLw (B : Nat) (x : Lw) : Prop where
 nm : x.nm.size ≤ B
theorem GLw.mono {B C : Nat} {x : Lw} (hBC : B ≤ C) (h : GLw B x) : GLw C x where
 nm := by have := h.nm; omega
theorem cof___api_Term : Tryz.prog.cellsOf 55 = 1 := by kernel_rfl
theorem Lw_is : ∃ f0 f1 f2 : Field, Tryz.prog.underlying 57 = some (.struct #[f0, f1, f2]) ∧ Tryz.prog.cellsOf 57 = 3 ∧ (f0.type = 9 ∧ f0.offset = 0) ∧ (f1.type = 55 ∧ f1.offset = 1) ∧ (f2.type = 3 ∧ f2.offset = 2) :=
 ⟨_, _, _, Tryz.underlying57, by kernel_rfl, ⟨rfl, rfl⟩, ⟨rfl, rfl⟩, ⟨rfl, rfl⟩⟩
set_option maxRecDepth 100000 in
theorem Lw_up {w : World} {fuel : Nat} {cl : List Value} {y : DataW H × List MemPlace} (hl : cl.length = 3) (hf : DataW.trod enc Tryz.prog w 0 (fun _ => true) true fuel 57 cl = some y) : ∃ (x : Lw) (c : Array Value), cl = c.toList ∧ c.size = 3 ∧ RLw (Lo w.heap.size) w x c ∧ GLw (bk y.1) x ∧ 2 ≤ bk y.1 := by
 obtain ⟨f0, f1, f2, hs, hC, t0, t1, t2⟩ := Lw_is
 obtain ⟨c0, c1, c2, rfl⟩ := cells3_of hl
 obtain ⟨ys, m, -, hy, -, hlen, hg⟩ := DataW.trod_struct hs hf
 have e0 := hg 0 f0 rfl
 rw [t0.1, t0.2, cof_string] at e0
 obtain ⟨y0, g0⟩ : ∃ y, ys[0]? = some y := ⟨ys[0]'zQFrm_2, List.getElem?_eq_getElem _⟩
 rw [g0] at e0
 have e0 : DataW.trod enc Tryz.prog w 0 (fun _ => true) true m 9 [c0] = some y0 := e0
 have e1 := hg 1 f1 rfl
 rw [t1.1, t1.2, cof___api_Term] at e1
 obtain ⟨y1, g1⟩ : ∃ y, ys[1]? = some y := ⟨ys[1]'zQFrm_2, List.getElem?_eq_getElem _⟩
 rw [g1] at e1
 have e1 : DataW.trod enc Tryz.prog w 0 (fun _ => true) true m 55 [c1] = some y1 := e1
 have e2 := hg 2 f2 rfl
 rw [t2.1, t2.2, cof_int] at e2
 obtain ⟨y2, g2⟩ : ∃ y, ys[2]? = some y := ⟨ys[2]'zQFrm_2, List.getElem?_eq_getElem _⟩
 rw [g2] at e2
 have e2 : DataW.trod enc Tryz.prog w 0 (fun _ => true) true m 3 [c2] = some y2 := e2
 have hyb : bk y.1 = 1 + bk y0.1 + bk y1.1 + bk y2.1 := by
  exact zQFrm_1
 have hb0 := bk_one y0.1
 obtain ⟨s0, q0, d0, -⟩ := DataW.trod_string Tryz.underlying9 e0
 have z0 : bk y0.1 = s0.size + 1 := by rw [d0]; simp only [bk, Rows.uptoBulk, Array.length_toList]; rfl
 have hb1 := bk_one y1.1
 obtain ⟨l1, p1, m1, k1, q1, h1, b1, z1⟩ := Trms_up e1
 have hb2 := bk_one y2.1
 obtain ⟨a2, q2, -, -⟩ := DataW.trod_int Tryz.underlying3 e2
 simp only [List.cons.injEq, and_true] at q0 q2
 subst q0 q1 q2
 exact ⟨⟨s0, l1, a2⟩, cLw _ ⟨p1, m1, k1⟩, rfl, rfl, ⟨_, rfl, ⟨h1⟩⟩, ⟨by show s0.size ≤ _; omega⟩, by omega⟩
theorem Lws_up {w : World} {fuel : Nat} {v : Value} {y : DataW H × List MemPlace} (h : DataW.trod enc Tryz.prog w 0 (fun _ => true) true fuel 40 [v] = some y) : ∃ (l : List Lw) (p : Option Addr) (m c : Nat), v = .slice p m c ∧ Rw 3 RLw (Lo w.heap.size) w l p m ∧ 2 * l.length ≤ bk y.1 ∧ ∀ x ∈ l, GLw (bk y.1) x :=
 rows_up (Good := GLw) (d := 2) (fun hBC h => GLw.mono hBC h) Tryz.underlying40 (by obtain ⟨_, _, _, -, hC, -⟩ := Lw_is; exact hC) zQFrm_3 h fun fuel cl u h1 h2 => Lw_up h1 h2
structure GSte (B : Nat) (x : Ste) : Prop where
 nm : x.nm.size ≤ B
 va : ∀ y ∈ x.va, GVal B y
 vaL : 2 * x.va.length ≤ B
 rs : ∀ y ∈ x.rs, GRes B y
 rsL : 2 * x.rs.length ≤ B
 st : ∀ y ∈ x.st, GSto B y
 stL : 2 * x.st.length ≤ B
 be : ∀ y ∈ x.be, GBlt B y
 beL : 2 * x.be.length ≤ B
 qu : ∀ y ∈ x.qu, y.size ≤ B
 quL : x.qu.length ≤ B
 sm : ∀ y ∈ x.sm, y.size ≤ B
 smL : x.sm.length ≤ B
 ta : ∀ y ∈ x.ta, y.size ≤ B
 taL : x.ta.length ≤ B
 le : ∀ y ∈ x.le, y.size ≤ B
 leL : x.le.length ≤ B
 co : ∀ y ∈ x.co, y.size ≤ B
 coL : x.co.length ≤ B
 ro : ∀ y ∈ x.ro, GRou B y
 roL : 2 * x.ro.length ≤ B
 ss : ∀ y ∈ x.ss, GSta B y
 ssL : 2 * x.ss.length ≤ B
 la : ∀ y ∈ x.la, GLw B y
 laL : 2 * x.la.length ≤ B
theorem GSte.mono {B C : Nat} {x : Ste} (hBC : B ≤ C) (h : GSte B x) : GSte C x where
 nm := by have := h.nm; omega
 va := fun y hy => (h.va y hy).mono hBC
 vaL := by have := h.vaL; omega
 rs := fun y hy => (h.rs y hy).mono hBC
 rsL := by have := h.rsL; omega
 st := fun y hy => (h.st y hy).mono hBC
 stL := by have := h.stL; omega
 be := fun y hy => (h.be y hy).mono hBC
 beL := by have := h.beL; omega
 qu := fun y hy => Nat.le_trans (h.qu y hy) hBC
 quL := by have := h.quL; omega
 sm := fun y hy => Nat.le_trans (h.sm y hy) hBC
 smL := by have := h.smL; omega
 ta := fun y hy => Nat.le_trans (h.ta y hy) hBC
 taL := by have := h.taL; omega
 le := fun y hy => Nat.le_trans (h.le y hy) hBC
 leL := by have := h.leL; omega
 co := fun y hy => Nat.le_trans (h.co y hy) hBC
 coL := by have := h.coL; omega
 ro := fun y hy => (h.ro y hy).mono hBC
 roL := by have := h.roL; omega
 ss := fun y hy => (h.ss y hy).mono hBC
 ssL := by have := h.ssL; omega
 la := fun y hy => (h.la y hy).mono hBC
 laL := by have := h.laL; omega
theorem cof___api_Value : Tryz.prog.cellsOf 22 = 1 := by kernel_rfl
theorem cof___api_ResourceDecl : Tryz.prog.cellsOf 34 = 1 := by kernel_rfl
theorem cof___api_StoreDecl : Tryz.prog.cellsOf 35 = 1 := by kernel_rfl
theorem cof___api_BeltDecl : Tryz.prog.cellsOf 36 = 1 := by kernel_rfl
theorem cof___string : Tryz.prog.cellsOf 37 = 1 := by kernel_rfl
theorem cof___api_Routine : Tryz.prog.cellsOf 38 = 1 := by kernel_rfl
theorem cof___api_Start : Tryz.prog.cellsOf 39 = 1 := by kernel_rfl
theorem cof___api_Law : Tryz.prog.cellsOf 40 = 1 := by kernel_rfl
theorem Ste_is : ∃ f0 f1 f2 f3 f4 f5 f6 f7 f8 f9 f10 f11 f12 : Field, Tryz.prog.underlying 42 = some (.struct #[f0, f1, f2, f3, f4, f5, f6, f7, f8, f9, f10, f11, f12]) ∧ Tryz.prog.cellsOf 42 = 13 ∧ (f0.type = 9 ∧ f0.offset = 0) ∧ (f1.type = 22 ∧ f1.offset = 1) ∧ (f2.type = 34 ∧ f2.offset = 2) ∧ (f3.type = 35 ∧ f3.offset = 3) ∧ (f4.type = 36 ∧ f4.offset = 4) ∧ (f5.type = 37 ∧ f5.offset = 5) ∧ (f6.type = 37 ∧ f6.offset = 6) ∧ (f7.type = 37 ∧ f7.offset = 7) ∧ (f8.type = 37 ∧ f8.offset = 8) ∧ (f9.type = 37 ∧ f9.offset = 9) ∧ (f10.type = 38 ∧ f10.offset = 10) ∧ (f11.type = 39 ∧ f11.offset = 11) ∧ (f12.type = 40 ∧ f12.offset = 12) :=
 ⟨_, _, _, _, _, _, _, _, _, _, _, _, _, Tryz.underlying42, by kernel_rfl, ⟨rfl, rfl⟩, ⟨rfl, rfl⟩, ⟨rfl, rfl⟩, ⟨rfl, rfl⟩, ⟨rfl, rfl⟩, ⟨rfl, rfl⟩, ⟨rfl, rfl⟩, ⟨rfl, rfl⟩, ⟨rfl, rfl⟩, ⟨rfl, rfl⟩, ⟨rfl, rfl⟩, ⟨rfl, rfl⟩, ⟨rfl, rfl⟩⟩
set_option maxRecDepth 100000 in
theorem Ste_up {w : World} {fuel : Nat} {cl : List Value} {y : DataW H × List MemPlace} (hl : cl.length = 13) (hf : DataW.trod enc Tryz.prog w 0 (fun _ => true) true fuel 42 cl = some y) : ∃ (x : Ste) (c : Array Value), cl = c.toList ∧ c.size = 13 ∧ RSte (Lo w.heap.size) w x c ∧ GSte (bk y.1) x ∧ 2 ≤ bk y.1 := by
 obtain ⟨f0, f1, f2, f3, f4, f5, f6, f7, f8, f9, f10, f11, f12, hs, hC, t0, t1, t2, t3, t4, t5, t6, t7, t8, t9, t10, t11, t12⟩ := Ste_is
 obtain ⟨c0, c1, c2, c3, c4, c5, c6, c7, c8, c9, c10, c11, c12, rfl⟩ := cells13_of hl
 obtain ⟨ys, m, -, hy, -, hlen, hg⟩ := DataW.trod_struct hs hf
 have e0 := hg 0 f0 rfl
 rw [t0.1, t0.2, cof_string] at e0
 obtain ⟨y0, g0⟩ : ∃ y, ys[0]? = some y := ⟨ys[0]'zQFrm_2, List.getElem?_eq_getElem _⟩
 rw [g0] at e0
 have e0 : DataW.trod enc Tryz.prog w 0 (fun _ => true) true m 9 [c0] = some y0 := e0
 have e1 := hg 1 f1 rfl
 rw [t1.1, t1.2, cof___api_Value] at e1
 obtain ⟨y1, g1⟩ : ∃ y, ys[1]? = some y := ⟨ys[1]'zQFrm_2, List.getElem?_eq_getElem _⟩
 rw [g1] at e1
 have e1 : DataW.trod enc Tryz.prog w 0 (fun _ => true) true m 22 [c1] = some y1 := e1
 have e2 := hg 2 f2 rfl
 rw [t2.1, t2.2, cof___api_ResourceDecl] at e2
 obtain ⟨y2, g2⟩ : ∃ y, ys[2]? = some y := ⟨ys[2]'zQFrm_2, List.getElem?_eq_getElem _⟩
 rw [g2] at e2
 have e2 : DataW.trod enc Tryz.prog w 0 (fun _ => true) true m 34 [c2] = some y2 := e2
 have e3 := hg 3 f3 rfl
 rw [t3.1, t3.2, cof___api_StoreDecl] at e3
 obtain ⟨y3, g3⟩ : ∃ y, ys[3]? = some y := ⟨ys[3]'zQFrm_2, List.getElem?_eq_getElem _⟩
 rw [g3] at e3
 have e3 : DataW.trod enc Tryz.prog w 0 (fun _ => true) true m 35 [c3] = some y3 := e3
 have e4 := hg 4 f4 rfl
 rw [t4.1, t4.2, cof___api_BeltDecl] at e4
 obtain ⟨y4, g4⟩ : ∃ y, ys[4]? = some y := ⟨ys[4]'zQFrm_2, List.getElem?_eq_getElem _⟩
 rw [g4] at e4
 have e4 : DataW.trod enc Tryz.prog w 0 (fun _ => true) true m 36 [c4] = some y4 := e4
 have e5 := hg 5 f5 rfl
 rw [t5.1, t5.2, cof___string] at e5
 obtain ⟨y5, g5⟩ : ∃ y, ys[5]? = some y := ⟨ys[5]'zQFrm_2, List.getElem?_eq_getElem _⟩
 rw [g5] at e5
 have e5 : DataW.trod enc Tryz.prog w 0 (fun _ => true) true m 37 [c5] = some y5 := e5
 have e6 := hg 6 f6 rfl
 rw [t6.1, t6.2, cof___string] at e6
 obtain ⟨y6, g6⟩ : ∃ y, ys[6]? = some y := ⟨ys[6]'zQFrm_2, List.getElem?_eq_getElem _⟩
 rw [g6] at e6
 have e6 : DataW.trod enc Tryz.prog w 0 (fun _ => true) true m 37 [c6] = some y6 := e6
 have e7 := hg 7 f7 rfl
 rw [t7.1, t7.2, cof___string] at e7
 obtain ⟨y7, g7⟩ : ∃ y, ys[7]? = some y := ⟨ys[7]'zQFrm_2, List.getElem?_eq_getElem _⟩
 rw [g7] at e7
 have e7 : DataW.trod enc Tryz.prog w 0 (fun _ => true) true m 37 [c7] = some y7 := e7
 have e8 := hg 8 f8 rfl
 rw [t8.1, t8.2, cof___string] at e8
 obtain ⟨y8, g8⟩ : ∃ y, ys[8]? = some y := ⟨ys[8]'zQFrm_2, List.getElem?_eq_getElem _⟩
 rw [g8] at e8
 have e8 : DataW.trod enc Tryz.prog w 0 (fun _ => true) true m 37 [c8] = some y8 := e8
 have e9 := hg 9 f9 rfl
 rw [t9.1, t9.2, cof___string] at e9
 obtain ⟨y9, g9⟩ : ∃ y, ys[9]? = some y := ⟨ys[9]'zQFrm_2, List.getElem?_eq_getElem _⟩
 rw [g9] at e9
 have e9 : DataW.trod enc Tryz.prog w 0 (fun _ => true) true m 37 [c9] = some y9 := e9
 have e10 := hg 10 f10 rfl
 rw [t10.1, t10.2, cof___api_Routine] at e10
 obtain ⟨y10, g10⟩ : ∃ y, ys[10]? = some y := ⟨ys[10]'zQFrm_2, List.getElem?_eq_getElem _⟩
 rw [g10] at e10
 have e10 : DataW.trod enc Tryz.prog w 0 (fun _ => true) true m 38 [c10] = some y10 := e10
 have e11 := hg 11 f11 rfl
 rw [t11.1, t11.2, cof___api_Start] at e11
 obtain ⟨y11, g11⟩ : ∃ y, ys[11]? = some y := ⟨ys[11]'zQFrm_2, List.getElem?_eq_getElem _⟩
 rw [g11] at e11
 have e11 : DataW.trod enc Tryz.prog w 0 (fun _ => true) true m 39 [c11] = some y11 := e11
 have e12 := hg 12 f12 rfl
 rw [t12.1, t12.2, cof___api_Law] at e12
 obtain ⟨y12, g12⟩ : ∃ y, ys[12]? = some y := ⟨ys[12]'zQFrm_2, List.getElem?_eq_getElem _⟩
 rw [g12] at e12
 have e12 : DataW.trod enc Tryz.prog w 0 (fun _ => true) true m 40 [c12] = some y12 := e12
 have hyb : bk y.1 = 1 + bk y0.1 + bk y1.1 + bk y2.1 + bk y3.1 + bk y4.1 + bk y5.1 + bk y6.1 + bk y7.1 + bk y8.1 + bk y9.1 + bk y10.1 + bk y11.1 + bk y12.1 := by
  rw [hy, data13 hlen g0 g1 g2 g3 g4 g5 g6 g7 g8 g9 g10 g11 g12]
  exact zQFrm_0
 have hb0 := bk_one y0.1
 obtain ⟨s0, q0, d0, -⟩ := DataW.trod_string Tryz.underlying9 e0
 have z0 : bk y0.1 = s0.size + 1 := by rw [d0]; simp only [bk, Rows.uptoBulk, Array.length_toList]; rfl
 have hb1 := bk_one y1.1
 obtain ⟨l1, p1, m1, k1, q1, h1, b1, z1⟩ := Vals_up e1
 have hb2 := bk_one y2.1
 obtain ⟨l2, p2, m2, k2, q2, h2, b2, z2⟩ := Ress_up e2
 have hb3 := bk_one y3.1
 obtain ⟨l3, p3, m3, k3, q3, h3, b3, z3⟩ := Stos_up e3
 have hb4 := bk_one y4.1
 obtain ⟨l4, p4, m4, k4, q4, h4, b4, z4⟩ := Blts_up e4
 have hb5 := bk_one y5.1
 obtain ⟨l5, p5, m5, k5, q5, h5, b5, z5⟩ := txts_up e5
 have hb6 := bk_one y6.1
 obtain ⟨l6, p6, m6, k6, q6, h6, b6, z6⟩ := txts_up e6
 have hb7 := bk_one y7.1
 obtain ⟨l7, p7, m7, k7, q7, h7, b7, z7⟩ := txts_up e7
 have hb8 := bk_one y8.1
 obtain ⟨l8, p8, m8, k8, q8, h8, b8, z8⟩ := txts_up e8
 have hb9 := bk_one y9.1
 obtain ⟨l9, p9, m9, k9, q9, h9, b9, z9⟩ := txts_up e9
 have hb10 := bk_one y10.1
 obtain ⟨l10, p10, m10, k10, q10, h10, b10, z10⟩ := Rous_up e10
 have hb11 := bk_one y11.1
 obtain ⟨l11, p11, m11, k11, q11, h11, b11, z11⟩ := Stas_up e11
 have hb12 := bk_one y12.1
 obtain ⟨l12, p12, m12, k12, q12, h12, b12, z12⟩ := Lws_up e12
 simp only [List.cons.injEq, and_true] at q0
 subst q0 q1 q2 q3 q4 q5 q6 q7 q8 q9 q10 q11 q12
 exact ⟨⟨s0, l1, l2, l3, l4, l5, l6, l7, l8, l9, l10, l11, l12⟩, cSte _ ⟨p1, m1, k1, p2, m2, k2, p3, m3, k3, p4, m4, k4, p5, m5, k5, p6, m6, k6, p7, m7, k7, p8, m8, k8, p9, m9, k9, p10, m10, k10, p11, m11, k11, p12, m12, k12⟩, rfl, rfl, ⟨_, rfl, ⟨h1, h2, h3, h4, h5, h6, h7, h8, h9, h10, h11, h12⟩⟩, ⟨by show s0.size ≤ _; omega, fun y hy => (z1 y hy).mono zQFrm_3, by show 2 * l1.length ≤ _; omega, fun y hy => (z2 y hy).mono zQFrm_3, by show 2 * l2.length ≤ _; omega, fun y hy => (z3 y hy).mono zQFrm_3, by show 2 * l3.length ≤ _; omega, fun y hy => (z4 y hy).mono zQFrm_3, by show 2 * l4.length ≤ _; omega, fun y hy => Nat.le_trans (z5 y hy) zQFrm_3, by show l5.length ≤ _; omega, fun y hy => Nat.le_trans (z6 y hy) zQFrm_3, by show l6.length ≤ _; omega, fun y hy => Nat.le_trans (z7 y hy) zQFrm_3, by show l7.length ≤ _; omega, fun y hy => Nat.le_trans (z8 y hy) zQFrm_3, by show l8.length ≤ _; omega, fun y hy => Nat.le_trans (z9 y hy) zQFrm_3, by show l9.length ≤ _; omega, fun y hy => (z10 y hy).mono zQFrm_3, by show 2 * l10.length ≤ _; omega, fun y hy => (z11 y hy).mono zQFrm_3, by show 2 * l11.length ≤ _; omega, fun y hy => (z12 y hy).mono zQFrm_3, by show 2 * l12.length ≤ _; omega⟩, by omega⟩
theorem Stes_up {w : World} {fuel : Nat} {v : Value} {y : DataW H × List MemPlace} (h : DataW.trod enc Tryz.prog w 0 (fun _ => true) true fuel 23 [v] = some y) : ∃ (l : List Ste) (p : Option Addr) (m c : Nat), v = .slice p m c ∧ Rw 13 RSte (Lo w.heap.size) w l p m ∧ 2 * l.length ≤ bk y.1 ∧ ∀ x ∈ l, GSte (bk y.1) x :=
 rows_up (Good := GSte) (d := 2) (fun hBC h => GSte.mono hBC h) Tryz.underlying23 (by obtain ⟨_, _, _, _, _, _, _, _, _, _, _, _, _, -, hC, -⟩ := Ste_is; exact hC) zQFrm_3 h fun fuel cl u h1 h2 => Ste_up h1 h2
structure GMdl (B : Nat) (x : Mdl) : Prop where
 nm : x.nm.size ≤ B
 pa : ∀ y ∈ x.pa, GVal B y
 paL : x.pa.length ≤ B
 si : ∀ y ∈ x.si, GSte B y
 siL : x.si.length ≤ B
 li : ∀ y ∈ x.li, GLnk B y
 liL : x.li.length ≤ B
theorem GMdl.mono {B C : Nat} {x : Mdl} (hBC : B ≤ C) (h : GMdl B x) : GMdl C x where
 nm := by have := h.nm; omega
 pa := fun y hy => (h.pa y hy).mono hBC
 paL := by have := h.paL; omega
 si := fun y hy => (h.si y hy).mono hBC
 siL := by have := h.siL; omega
 li := fun y hy => (h.li y hy).mono hBC
 liL := by have := h.liL; omega
theorem cof___api_SiteDecl : Tryz.prog.cellsOf 23 = 1 := by kernel_rfl
theorem cof___api_Link : Tryz.prog.cellsOf 24 = 1 := by kernel_rfl
theorem Mdl_is : ∃ f0 f1 f2 f3 : Field, Tryz.prog.underlying 26 = some (.struct #[f0, f1, f2, f3]) ∧ Tryz.prog.cellsOf 26 = 4 ∧ (f0.type = 9 ∧ f0.offset = 0) ∧ (f1.type = 22 ∧ f1.offset = 1) ∧ (f2.type = 23 ∧ f2.offset = 2) ∧ (f3.type = 24 ∧ f3.offset = 3) :=
 ⟨_, _, _, _, Tryz.underlying26, by kernel_rfl, ⟨rfl, rfl⟩, ⟨rfl, rfl⟩, ⟨rfl, rfl⟩, ⟨rfl, rfl⟩⟩
set_option maxRecDepth 100000 in
theorem Mdl_up {w : World} {fuel : Nat} {cl : List Value} {y : DataW H × List MemPlace} (hl : cl.length = 4) (hf : DataW.trod enc Tryz.prog w 0 (fun _ => true) true fuel 26 cl = some y) : ∃ (x : Mdl) (c : Array Value), cl = c.toList ∧ c.size = 4 ∧ RMdl (Lo w.heap.size) w x c ∧ GMdl (bk y.1) x ∧ 2 ≤ bk y.1 := by
 obtain ⟨f0, f1, f2, f3, hs, hC, t0, t1, t2, t3⟩ := Mdl_is
 obtain ⟨c0, c1, c2, c3, rfl⟩ := cells4_of hl
 obtain ⟨ys, m, -, hy, -, hlen, hg⟩ := DataW.trod_struct hs hf
 have e0 := hg 0 f0 rfl
 rw [t0.1, t0.2, cof_string] at e0
 obtain ⟨y0, g0⟩ : ∃ y, ys[0]? = some y := ⟨ys[0]'zQFrm_2, List.getElem?_eq_getElem _⟩
 rw [g0] at e0
 have e0 : DataW.trod enc Tryz.prog w 0 (fun _ => true) true m 9 [c0] = some y0 := e0
 have e1 := hg 1 f1 rfl
 rw [t1.1, t1.2, cof___api_Value] at e1
 obtain ⟨y1, g1⟩ : ∃ y, ys[1]? = some y := ⟨ys[1]'zQFrm_2, List.getElem?_eq_getElem _⟩
 rw [g1] at e1
 have e1 : DataW.trod enc Tryz.prog w 0 (fun _ => true) true m 22 [c1] = some y1 := e1
 have e2 := hg 2 f2 rfl
 rw [t2.1, t2.2, cof___api_SiteDecl] at e2
 obtain ⟨y2, g2⟩ : ∃ y, ys[2]? = some y := ⟨ys[2]'zQFrm_2, List.getElem?_eq_getElem _⟩
 rw [g2] at e2
 have e2 : DataW.trod enc Tryz.prog w 0 (fun _ => true) true m 23 [c2] = some y2 := e2
 have e3 := hg 3 f3 rfl
 rw [t3.1, t3.2, cof___api_Link] at e3
 obtain ⟨y3, g3⟩ : ∃ y, ys[3]? = some y := ⟨ys[3]'zQFrm_2, List.getElem?_eq_getElem _⟩
 rw [g3] at e3
 have e3 : DataW.trod enc Tryz.prog w 0 (fun _ => true) true m 24 [c3] = some y3 := e3
 have hyb : bk y.1 = 1 + bk y0.1 + bk y1.1 + bk y2.1 + bk y3.1 := by
  rw [hy, data4 hlen g0 g1 g2 g3]
  exact zQFrm_0
 have hb0 := bk_one y0.1
 obtain ⟨s0, q0, d0, -⟩ := DataW.trod_string Tryz.underlying9 e0
 have z0 : bk y0.1 = s0.size + 1 := by rw [d0]; simp only [bk, Rows.uptoBulk, Array.length_toList]; rfl
 have hb1 := bk_one y1.1
 obtain ⟨l1, p1, m1, k1, q1, h1, b1, z1⟩ := Vals_up e1
 have hb2 := bk_one y2.1
 obtain ⟨l2, p2, m2, k2, q2, h2, b2, z2⟩ := Stes_up e2
 have hb3 := bk_one y3.1
 obtain ⟨l3, p3, m3, k3, q3, h3, b3, z3⟩ := Lnks_up e3
 simp only [List.cons.injEq, and_true] at q0
 subst q0 q1 q2 q3
 exact ⟨⟨s0, l1, l2, l3⟩, cMdl _ ⟨p1, m1, k1, p2, m2, k2, p3, m3, k3⟩, rfl, rfl, ⟨_, rfl, ⟨h1, h2, h3⟩⟩, ⟨by show s0.size ≤ _; omega, fun y hy => (z1 y hy).mono zQFrm_3, by show l1.length ≤ _; omega, fun y hy => (z2 y hy).mono zQFrm_3, by show l2.length ≤ _; omega, fun y hy => (z3 y hy).mono zQFrm_3, by show l3.length ≤ _; omega⟩, by omega⟩
theorem zRou_of {B : Nat} {x : Rou} (hB : B ≤ 1048576) (h : GRou B x) : ZRou x where
 nm := by have := h.nm; omega
 fl := fun f hf => by
  rcases List.mem_append.1 hf with hf | hf
  · have := (h.ps f hf).nm; omega
  · have := (h.ls f hf).nm; omega
 ln := by have := h.pl; rw [List.length_append]; omega
 bo := szL_of_fits hB h.bo
end
end Go.Proofs.YtaaffmbnhjaebaaGreat.Md
namespace Go.Proofs.YtaaffmbnhjaebaaGreat.Md
open Go.RowKit Go.Maps
open Go.Proofs.YtaaffmbnhjaebaaGreat.Sm (orE orE_no orE_yes orE_right orE_assoc)
open Go.Proofs.YtaaffmbnhjaebaaGreat.Ex (Lo Gives take_one ret_int)
set_option maxHeartbeats 4000000
set_option linter.unusedVariables false
def lastC : Option Chg → List Chg → Option Chg
 | p, [] => p
 | _, c :: t => lastC (some c) t
theorem lastC_snoc : ∀ {p : Option Chg} {a : List Chg} {x : Chg}, lastC p (a ++ [x]) = some x
 | p, [], x => rfl
 | p, c :: t, x => by rw [List.cons_append, lastC]; exact lastC_snoc
theorem chgL_snoc {cy : Int} : ∀ {p : Option Chg} {a : List Chg} {x : Chg}, chgL cy p (a ++ [x]) = orE (chgL cy p a) (chgE cy (lastC p a) x)
 | p, [], x => by
  show orE (chgE cy p x) (chgL cy (some x) []) = orE 0 (chgE cy p x)
  rw [orE_yes]; exact orE_right _
 | p, c :: t, x => by rw [List.cons_append, chgL, chgL, chgL_snoc, orE_assoc]; rfl
theorem chgL_app {cy : Int} : ∀ {p : Option Chg} {a b : List Chg}, chgL cy p (a ++ b) = orE (chgL cy p a) (chgL cy (lastC p a) b)
 | p, [], b => orE_yes.symm
 | p, c :: t, b => by rw [List.cons_append, chgL, chgL, chgL_app, orE_assoc]; rfl
def prevC (l : List Chg) (k : Nat) : Option Chg := lastC none (l.take k)
theorem prev_succ {l : List Chg} {j : Nat} {y : Chg} (h : l[j]? = some y) : prevC l (j + 1) = some y := by unfold prevC; rw [take_one h, lastC_snoc]
theorem chgL_next {cy : Int} {l : List Chg} {k : Nat} {x : Chg} (hx : l[k]? = some x) (h : chgL cy none (l.take k) = 0) (h1 : chgE cy (prevC l k) x = 0) : chgL cy none (l.take (k + 1)) = 0 := by
 rw [take_one hx, chgL_snoc, h, orE_yes]; exact h1
theorem chgL_stop {cy : Int} {l : List Chg} {k : Nat} {x : Chg} (hx : l[k]? = some x) (h : chgL cy none (l.take k) = 0) (h1 : ¬ chgE cy (prevC l k) x = 0) : chgL cy none l = chgE cy (prevC l k) x := by
 obtain ⟨hk, e⟩ := List.getElem?_eq_some_iff.1 hx
 have h2 := List.take_append_drop k l
 rw [List.drop_eq_getElem_cons hk, e] at h2
 have h3 := chgL_app (cy := cy) (p := none) (a := l.take k) (b := x :: l.drop (k + 1))
 rw [h2, h, orE_yes, chgL] at h3
 rw [h3]
 exact orE_no h1
theorem zQSch_0 {p : Prop} (h : p := by
 go_wp2_with fail
 go_ret
 exact ⟨ret_int HN.out.symm, by have HBB := HW.out; exact bl⟩
 ) : p := h
theorem zQSch_1 {p : Prop} (h : p := by
 go_enter Tryz.func132, Tryz.ntmps132
 go_wp2_with fail
 go_ret
 exact ⟨rfl, bl⟩
 ) : p := h
set_option maxRecDepth 100000 in
theorem checkSchedule_any (l : List Chg) (p : Option Addr) (m c : Nat) (cy : Int) (w : World) (hl : Rw 2 RChg (Lo w.heap.size) w l p m) : Calls Tryz.prog 132 #[.slice p m c, .int .i64 cy] w (Gives (.int .i64 (schE l cy)) w) := by
 have HH := Lib.hid hl
 obtain ⟨hlm, hm⟩ := hl.len
 have HL := Lib.hid hlm
 clear hl
 by_cases hm0 : m = 0
 · subst hm0
   by_cases hc : cy = 0
   · subst hc
     rw [show schE l 0 = 0 by unfold schE; rw [hlm]; rfl]
     clear hlm hm
     exact zQSch_1
   · have c1 : (cy == 0) = false := beq_eq_false_iff_ne.2 hc
     rw [show schE l cy = 1 by unfold schE; rw [hlm, if_pos rfl, if_neg hc]]
     clear hlm hm hc
     exact zQSch_1
 have e1 : ((m : Int) == 0) = false := beq_eq_false_iff_ne.2 (by omega)
 by_cases h20 : 20 < m
 · have e2 : decide ((20 : Int) < (m : Int)) = true := decide_eq_true (by omega)
   have e3 : (20 : Int) < (m : Int) := by omega
   rw [show schE l cy = 6 by unfold schE; rw [hlm, if_neg hm0, if_pos h20]]
   clear hlm hm hm0 h20
   exact zQSch_1
 have e2 : decide ((20 : Int) < (m : Int)) = false := decide_eq_false (by omega)
 have e3 : (m : Int) ≤ 20 := by omega
 obtain ⟨r, hr⟩ : ∃ r, btw 1 cy 1000000000 = r := ⟨_, rfl⟩
 have CB := Lib.hid (fun W => between_gives hr W)
 have HE : Hid (schE l cy = if r then chgL cy none l else 2) := Lib.hid (by unfold schE; rw [hlm, if_neg hm0, if_neg h20, hr])
 cases r with
 | false =>
  rw [show schE l cy = 2 from HE.out]
  clear hlm hm hm0 h20 hr
  go_enter Tryz.func132, Tryz.ntmps132
  go_wp2_with fail
  refine (CB.out _).mono ?_
  rintro e w2 ⟨rfl, rfl⟩
  go_wp2_with fail
  go_ret
  exact ⟨rfl, bl⟩
 | true =>
  rw [show schE l cy = chgL cy none l from HE.out]
  have hcy : 1 ≤ cy ∧ cy ≤ 1000000000 := by
   unfold btw at hr
   simpa using hr
  have cy1 := hcy.1
  have cy2 := hcy.2
  clear hlm hm hm0 h20 hr hcy
  go_enter Tryz.func132, Tryz.ntmps132
  go_wp2_with fail
  refine (CB.out _).mono ?_
  rintro e w2 ⟨rfl, rfl⟩
  go_wp2_with fail
  go_loopw [29] (fun i wr => ∃ k : Nat, k ≤ m ∧ i = .int .i64 (k : Nat) ∧ Hid (Below w.heap.size w wr) ∧ Hid (chgL cy none (l.take k) = 0)) (fun i _ => m - (intOf i).toNat)
  case atStart => exact ⟨0, Nat.zero_le _, rfl, Lib.hid bl, Lib.hid rfl⟩
  case round =>
   obtain ⟨k, hk, rfl, HW, HA⟩ := hrel
   have k0 : (0 : Int) ≤ (k : Int) := by omega
   rcases Nat.lt_or_ge k m with h | h
   · have k1 : (k : Int) < (m : Int) := by omega
     have hkl : k < l.length := by rw [HL.out]; exact h
     have hgx := List.getElem?_eq_getElem hkl
     obtain ⟨b, o, rfl, hbG, hG, hcell⟩ := (HH.out.below RChg.map HW.out).rows (by omega)
     obtain ⟨d, hds, hat, hR⟩ := hcell.out k hkl
     have HCL := hcell
     obtain ⟨x, hx⟩ : ∃ x, l[k] = x := ⟨_, rfl⟩
     rw [hx] at hgx hR
     have a0 := hat.get (r := 0) (v := .int .i64 x.t) (by rw [hR]; rfl)
     have a1 := hat.get (r := 1) (v := .int .i64 x.u) (by rw [hR]; rfl)
     rw [show o + k * 2 + 0 = o + k * 2 by omega] at a0
     have HX := Lib.hid hgx
     have HG := Lib.hid hG
     obtain ⟨q1, hq1⟩ : ∃ r, btw 0 x.t (cy - 1) = r := ⟨_, rfl⟩
     obtain ⟨q2, hq2⟩ : ∃ r, isU x.u = r := ⟨_, rfl⟩
     have C1 := Lib.hid (fun W => between_gives hq1 W)
     have C2 := Lib.hid (fun W => (show Calls Tryz.prog 131 #[.int .i64 x.u] W (Stay (.bool q2) W) by rw [← hq2]; exact isUnits_any _ W))
     have HEx : Hid (∀ pr, chgE cy pr x = if q1 && q2 then (match pr with | none => 0 | some d => if x.t ≤ d.t then 12 else 0) else 2) := Lib.hid (fun pr => by unfold chgE; rw [hq1, hq2]; cases pr <;> rfl)
     clear hcell hds hat hR hgx hx hkl hq1 hq2
     cases q1 with
     | false =>
      have HN := Lib.hid (chgL_stop HX.out HA.out (by rw [HEx.out]; simp))
      rw [show chgE cy (prevC l k) x = 2 by rw [HEx.out]; rfl] at HN
      clear HEx
      go_wp2_with fail
      refine (C1.out _).mono ?_
      rintro e w3 ⟨rfl, rfl⟩
      exact zQSch_0
     | true =>
      cases q2 with
      | false =>
       have HN := Lib.hid (chgL_stop HX.out HA.out (by rw [HEx.out]; simp))
       rw [show chgE cy (prevC l k) x = 2 by rw [HEx.out]; rfl] at HN
       clear HEx
       go_wp2_with fail
       refine (C1.out _).mono ?_
       rintro e w3 ⟨rfl, rfl⟩
       go_wp2_with fail
       refine (C2.out _).mono ?_
       rintro e w3 ⟨rfl, rfl⟩
       exact zQSch_0
      | true =>
       rcases Nat.eq_zero_or_pos k with hk0 | hk0
       · subst hk0
         rw [show o + 0 * 2 = o by omega] at a0 a1
         have HN := Lib.hid (chgL_next HX.out HA.out (by rw [HEx.out]; rfl))
         clear HEx
         go_wp2_with fail
         refine (C1.out _).mono ?_
         rintro e w3 ⟨rfl, rfl⟩
         go_wp2_with fail
         refine (C2.out _).mono ?_
         rintro e w3 ⟨rfl, rfl⟩
         go_wp2_with fail
         go_quiet (fail)
         go_wp2_with fail
         go_roundw
         case rel => exact ⟨0 + 1, by omega, by go_num, Lib.hid (by have HBB := HW.out; exact bl), HN⟩
         case measure => simp [intOf]; omega
       · obtain ⟨j, hj⟩ : ∃ j, k = j + 1 := ⟨k - 1, by omega⟩
         have hjl : j < l.length := by rw [HL.out]; omega
         obtain ⟨d, hds, hat, hR⟩ := HCL.out j hjl
         have hgy := List.getElem?_eq_getElem hjl
         obtain ⟨y, hy⟩ : ∃ y, l[j] = y := ⟨_, rfl⟩
         rw [hy] at hgy hR
         have f0 := hat.get (r := 0) (v := .int .i64 y.t) (by rw [hR]; rfl)
         rw [show o + j * 2 + 0 = o + j * 2 by omega] at f0
         have HP : Hid (prevC l k = some y) := Lib.hid (by rw [hj]; exact prev_succ hgy)
         have HO : Hid (k = j + 1) := Lib.hid hj
         have g1 : (k : Int) - 1 = (j : Int) := by omega
         have g2 : (0 : Int) ≤ (j : Int) := by omega
         have g3 : (j : Int) < (m : Int) := by omega
         have g4 : IntKind.i64.wrap (j : Int) = (j : Int) := by rw [IntKind.wrap_i64]; omega
         have g5 : decide ((0 : Int) < (k : Int)) = true := decide_eq_true (by omega)
         have g6 : decide (0 < k) = true := decide_eq_true hk0
         clear hjl hds hat hR hgy hy hj HCL
         by_cases hxy : x.t ≤ y.t
         · have HN := Lib.hid (chgL_stop HX.out HA.out (by rw [HEx.out, HP.out]; simp [hxy]))
           rw [show chgE cy (prevC l k) x = 12 by rw [HEx.out, HP.out]; exact if_pos hxy] at HN
           have g7 := decide_eq_true hxy
           clear HEx HP
           go_wp2_with fail
           refine (C1.out _).mono ?_
           rintro e w3 ⟨rfl, rfl⟩
           go_wp2_with fail
           refine (C2.out _).mono ?_
           rintro e w3 ⟨rfl, rfl⟩
           go_wp2_with fail
           go_quiet (fail)
           exact zQSch_0
         · have HN := Lib.hid (chgL_next HX.out HA.out (by rw [HEx.out, HP.out]; exact if_neg hxy))
           have g7 := decide_eq_false hxy
           clear HEx HP
           go_wp2_with fail
           refine (C1.out _).mono ?_
           rintro e w3 ⟨rfl, rfl⟩
           go_wp2_with fail
           refine (C2.out _).mono ?_
           rintro e w3 ⟨rfl, rfl⟩
           go_wp2_with fail
           go_quiet (fail)
           go_wp2_with fail
           go_roundw
           case rel => exact ⟨k + 1, by omega, by go_num, Lib.hid (by have HBB := HW.out; exact bl), HN⟩
           case measure => simp [intOf]; omega
   · obtain rfl : m = k := by omega
     have HT := Lib.hid (show chgL cy none l = 0 by have h1 := HA.out; rwa [List.take_of_length_le (by rw [HL.out]; exact Nat.le_refl _)] at h1)
     go_wp2_with fail
     go_ret
     exact ⟨ret_int HT.out.symm, HW.out⟩
end Go.Proofs.YtaaffmbnhjaebaaGreat.Md
namespace Go.Proofs.YtaaffmbnhjaebaaGreat.Md
open Go.RowKit Go.Maps
open Go.Proofs.YtaaffmbnhjaebaaGreat.Na (Strs)
open Go.Proofs.YtaaffmbnhjaebaaGreat.Sm (orE or_any)
open Go.Proofs.YtaaffmbnhjaebaaGreat.Ex (Lo Gives)
attribute [local go_sem] cRes1 cRes2 cRes3
set_option maxHeartbeats 4000000
set_option linter.unusedVariables false
set_option maxRecDepth 100000 in
theorem checkResource_any (x : Res) (P : PRes) (sm : List ByteArray) (p : Option Addr) (m c : Nat) (w : World) (hx : ORes (Lo w.heap.size) w x P) (hs : Strs w p m sm) : Calls Tryz.prog 101 #[.agg (cRes x P), .slice p m c] w (Gives (.int .i64 (resT sm x)) w) := by
 have HX := Lib.hid hx
 have HS := Lib.hid hs
 have FX := far (w := w) 92 (cRes x P)
 obtain ⟨u, hu⟩ : ∃ b, isU x.un = b := ⟨_, rfl⟩
 have CI := Lib.hid (fun W => (show Calls Tryz.prog 131 #[.int .i64 x.un] W (Stay (.bool u) W) by rw [← hu]; exact isUnits_any _ W))
 cases u with
 | false =>
  rw [show resT sm x = 2 by unfold resT; rw [hu]; rfl]
  clear hx hs hu
  go_enter Tryz.func101, Tryz.ntmps101
  go_wp2_with fail
  refine (CI.out _).mono ?_
  rintro e w2 ⟨rfl, rfl⟩
  go_wp2_with fail
  go_ret
  exact ⟨rfl, bl⟩
 | true =>
  obtain ⟨v1, hv1⟩ : ∃ v, schE x.sh x.cy = v := ⟨_, rfl⟩
  obtain ⟨v2, hv2⟩ : ∃ v, fltE x sm = v := ⟨_, rfl⟩
  rw [show resT sm x = orE v1 v2 by unfold resT; rw [hu, hv1, hv2]; rfl]
  have CS := Lib.hid (fun W (hW : Below w.heap.size w W) => (show Calls Tryz.prog 132 #[.slice P.shp P.shm P.shc, .int .i64 x.cy] W (Gives (.int .i64 v1) W) by rw [← hv1]; exact checkSchedule_any _ _ _ _ _ W (HX.out.sh.on RChg.map hW)))
  have CF := Lib.hid (fun W (hW : Below w.heap.size w W) => (show Calls Tryz.prog 133 #[.agg (cFlt x P), .slice p m c] W (Gives (.int .i64 v2) W) by rw [← hv2]; exact checkFault_any x P sm p m c W (HX.out.flt.on hW) (HS.out.on hW)))
  have FK : Hid (∀ W, Below (w.alloc (.cells (cRes x P) 92)).heap.size (w.alloc (.cells (cRes x P) 92)) W → W.cell? ⟨w.heap.size, 2, none⟩ = some (.slice P.shp P.shm P.shc) ∧ W.cell? ⟨w.heap.size, 3, none⟩ = some (.int .i64 x.cy) ∧ W.cell? ⟨w.heap.size, 4, none⟩ = some (.string x.fs) ∧ W.cell? ⟨w.heap.size, 5, none⟩ = some (.int .i64 x.up.op) ∧ W.cell? ⟨w.heap.size, 6, none⟩ = some (.int .i64 x.up.a) ∧ W.cell? ⟨w.heap.size, 7, none⟩ = some (.int .i64 x.up.b) ∧ W.cell? ⟨w.heap.size, 8, none⟩ = some (.int .i64 x.up.n) ∧ W.cell? ⟨w.heap.size, 9, none⟩ = some (.slice P.upvp P.upvm P.upvc) ∧ W.cell? ⟨w.heap.size, 10, none⟩ = some (.slice P.upwp P.upwm P.upwc) ∧ W.cell? ⟨w.heap.size, 11, none⟩ = some (.int .i64 x.dn.op) ∧ W.cell? ⟨w.heap.size, 12, none⟩ = some (.int .i64 x.dn.a) ∧ W.cell? ⟨w.heap.size, 13, none⟩ = some (.int .i64 x.dn.b) ∧ W.cell? ⟨w.heap.size, 14, none⟩ = some (.int .i64 x.dn.n) ∧ W.cell? ⟨w.heap.size, 15, none⟩ = some (.slice P.dnvp P.dnvm P.dnvc) ∧ W.cell? ⟨w.heap.size, 16, none⟩ = some (.slice P.dnwp P.dnwm P.dnwc)) := Lib.hid fun W hb => by
   have q := FX.out W hb
   exact ⟨q.get (cRes2 x P), q.get (cRes3 x P), q.get (cRes4 x P), q.get (cRes5 x P), q.get (cRes6 x P), q.get (cRes7 x P), q.get (cRes8 x P), q.get (cRes9 x P), q.get (cRes10 x P), q.get (cRes11 x P), q.get (cRes12 x P), q.get (cRes13 x P), q.get (cRes14 x P), q.get (cRes15 x P), q.get (cRes16 x P)⟩
  clear hx hs hu hv1 hv2
  go_enter Tryz.func101, Tryz.ntmps101
  go_wp2_with fail
  refine (CI.out _).mono ?_
  rintro e w2 ⟨rfl, rfl⟩
  go_wp2_with fail
  go_region_held3 (fun W => W.cell? ⟨w.heap.size, 2, none⟩ = some (.slice P.shp P.shm P.shc) ∧ W.cell? ⟨w.heap.size, 3, none⟩ = some (.int .i64 x.cy) ∧ W.cell? ⟨w.heap.size, 4, none⟩ = some (.string x.fs) ∧ W.cell? ⟨w.heap.size, 5, none⟩ = some (.int .i64 x.up.op) ∧ W.cell? ⟨w.heap.size, 6, none⟩ = some (.int .i64 x.up.a) ∧ W.cell? ⟨w.heap.size, 7, none⟩ = some (.int .i64 x.up.b) ∧ W.cell? ⟨w.heap.size, 8, none⟩ = some (.int .i64 x.up.n) ∧ W.cell? ⟨w.heap.size, 9, none⟩ = some (.slice P.upvp P.upvm P.upvc) ∧ W.cell? ⟨w.heap.size, 10, none⟩ = some (.slice P.upwp P.upwm P.upwc) ∧ W.cell? ⟨w.heap.size, 11, none⟩ = some (.int .i64 x.dn.op) ∧ W.cell? ⟨w.heap.size, 12, none⟩ = some (.int .i64 x.dn.a) ∧ W.cell? ⟨w.heap.size, 13, none⟩ = some (.int .i64 x.dn.b) ∧ W.cell? ⟨w.heap.size, 14, none⟩ = some (.int .i64 x.dn.n) ∧ W.cell? ⟨w.heap.size, 15, none⟩ = some (.slice P.dnvp P.dnvm P.dnvc) ∧ W.cell? ⟨w.heap.size, 16, none⟩ = some (.slice P.dnwp P.dnwm P.dnwc)) (first | (refine FK.out _ ?_; exact bl; done) | (go_keep; done)) (first
   | (have t := hb3; go_at_call 26; refine (or_any [v1, v2] _ 2 2 _ rfl (by omega) (Lib.hid (cells2 _ _ _ _))).mono ?_; rintro e w9 ⟨rfl, rfl⟩)
   | (have t := hb2; go_at_call 133; refine (CF.out _ bl).mono ?_; rintro e w3 ⟨rfl, hb3⟩)
   | (go_at_call 132; refine (CS.out _ bl).mono ?_; rintro e w2 ⟨rfl, hb2⟩))
  all_goals
   have HB3 := Lib.hid hb3
   go_wp2_with fail
   go_ret
   exact ⟨by rw [← orL2]; rfl, bl⟩
end Go.Proofs.YtaaffmbnhjaebaaGreat.Md
