/-
  What the chapter's examples are: their trees, and where their parts lie.
-/
import Derived.Test.YtonlmnlpofgccaaGreatPBase
import Derived.Great.BuildSlice
import Derived.ChangeKeysEq
namespace Go.Proofs.YtonlmnlpofgccaaGreat.Sm
open Go.RowKit
open Go.Proofs.YtonlmnlpofgccaaGreat.Na (bs bs_inj chk)
open Go.Proofs.YtonlmnlpofgccaaGreat.Ex (Ex Nm Kin In Sz Lo Gives bl_alloc bl_drewN bl_drew bl_set bl_call block_lt cell4 kin_iff)
attribute [local go_sem] cs0 cs1 cs2 cs3 cs4 cs5 cs6 cs7 cs8 cs9 cs10 cs11 cs12 cs13 cs14 cs15 cs16 cs17 cs18 cs19 cs20
set_option maxHeartbeats 2000000
set_option linter.unusedVariables false
set_option linter.unusedSimpArgs false
abbrev num (n : Int) : Ex := .mk 1 nE n []
abbrev dur (n : Int) : Ex := .mk 7 nE 0 [num n]
abbrev tDesk : ByteArray := ⟨#[100, 101, 115, 107]⟩
abbrev tBox : ByteArray := ⟨#[98, 111, 120]⟩
abbrev tPack : ByteArray := ⟨#[112, 97, 99, 107]⟩
abbrev tHold : ByteArray := ⟨#[104, 111, 108, 100]⟩
abbrev tA : ByteArray := ⟨#[97]⟩
abbrev sHold : St := .mk 5 nE nE (dur 5) zE [] zD false [] []
abbrev sSeize : St := .mk 6 tDesk nE (num 1) (num 2) [] zD false [] []
abbrev sOdd : St := .mk 5 nE tA (dur 5) zE [] zD false [] []
abbrev sSend : St := .mk 13 tBox tPack (dur 2) zE [] zD false [] []
abbrev sIn : St := .mk 3 nE nE (.mk 2 nE 1 []) zE [] zD false [sSeize, sHold] [sSend]
abbrev sRel : St := .mk 7 tHold nE (num 1) zE [] zD false [] []
theorem v_l : chkL [sSeize, sHold] = 0 := by decide +kernel
theorem v_in : chkL [sIn] = 0 := by decide +kernel
theorem v_odd : chkL [sOdd] = 1 := by decide +kernel
theorem v_rel : chkL [sRel] = 3 := by decide +kernel
theorem t_in : tgts (ordL [sIn]) = [(bs tPack, bs tBox)] := by decide +kernel
theorem u_in : uses (ordL [sIn]) = [bs tDesk] := by decide +kernel
theorem sz_of {l : List St} (h : ∀ x ∈ ordL l, x.nm.size ≤ 10 ∧ x.f.size ≤ 10 ∧ (∀ y ∈ Ex.pre x.e, y.s.size ≤ 10) ∧ Ex.cnt x.e ≤ 10 ∧ (∀ y ∈ Ex.pre x.g, y.s.size ≤ 10) ∧ Ex.cnt x.g ≤ 10 ∧ x.ar.length = 0) : SzL l := fun x hx => by
  obtain ⟨h1, h2, h3, h4, h5, h6, h7⟩ := h x hx
  refine ⟨by omega, by omega, ⟨fun y hy => ?_, by omega⟩, ⟨fun y hy => ?_, by omega⟩, fun y hy => ?_⟩
  · have := h3 y hy; omega
  · have := h5 y hy; omega
  · rw [List.length_eq_zero_iff.1 h7] at hy; cases hy
theorem sz_l : SzL [sSeize, sHold] := sz_of (by decide +kernel)
theorem sz_in : SzL [sIn] := sz_of (by decide +kernel)
theorem sz_odd : SzL [sOdd] := sz_of (by decide +kernel)
theorem sz_rel : SzL [sRel] := sz_of (by decide +kernel)
/-- No part lies anywhere. -/
abbrev P0 : Pl := ⟨none, 0, 0, none, 0, 0, none, 0, 0, none, 0, 0, none, 0, 0, none, 0, 0, none, 0, 0⟩
/-- The one part of the expression lies in a block. -/
abbrev PE (b : Nat) : Pl := ⟨some ⟨b, 0, none⟩, 1, 1, none, 0, 0, none, 0, 0, none, 0, 0, none, 0, 0, none, 0, 0, none, 0, 0⟩
abbrev PI (b c : Nat) : Pl := ⟨none, 0, 0, none, 0, 0, none, 0, 0, none, 0, 0, none, 0, 0, some ⟨b, 0, none⟩, 2, 2, some ⟨c, 0, none⟩, 1, 1⟩
theorem dur_in {w : World} {b : Nat} {n : Int} {t : TypeId} {fr : Nat × Nat} (h : w.heap[b]? = some (.cells #[.int .i64 1, .string nE, .int .i64 n, .slice none 0 0] t fr)) : In w (dur n) (some ⟨b, 0, none⟩) 1 := by
  have hb : b < w.heap.size := (Array.getElem?_eq_some_iff.1 h).1
  refine kin_iff.2 ⟨rfl, by omega, .inr ⟨b, 0, rfl, hb, hb, Lib.hid fun k hk => ?_⟩⟩
  have hk : k < 1 := hk
  obtain rfl : k = 0 := by omega
  refine ⟨none, 0, 0, ⟨?_, ?_, ?_, ?_⟩, Ex.Kin.zero⟩ <;> exact cell_of_row w b _ _ _ _ h
theorem ints_nil {G : Nat → Prop} {w : World} {p : Option Addr} : Ints G w [] p 0 := ⟨rfl, by omega, .inl rfl⟩
theorem sin_leaf {G : Nat → Prop} {w : World} {o : Int} {nm f : ByteArray} {e g : Ex} {fl : Bool} {P : Pl} (he : Kin G w e P.ep P.em) (hg : Kin G w g P.gp P.gm) (ha : P.am = 0) (hv : P.vm = 0) (hw : P.wm = 0) (hb : P.bm = 0) (hl : P.lm = 0) : Sin G w (.mk o nm f e g [] zD fl [] []) P := by
  refine sin_iff.2 ⟨⟨he, hg, ?_, ?_, ?_⟩, ?_, ?_⟩
  · rw [ha]; exact Ex.Kin.zero
  · rw [hv]; exact ints_nil
  · rw [hw]; exact ints_nil
  · rw [hb]; exact Lin.nil
  · rw [hl]; exact Lin.nil
theorem lin_one {w : World} {b : Nat} {x : St} {P : Pl} {t : TypeId} {fr : Nat × Nat} (h : w.heap[b]? = some (.cells (cs x P) t fr)) (hx : SIn w x P) : LIn w [x] (some ⟨b, 0, none⟩) 1 := by
  have hb : b < w.heap.size := (Array.getElem?_eq_some_iff.1 h).1
  refine ⟨rfl, by omega, .inr ⟨b, 0, rfl, hb, hb, Lib.hid fun k hk => ?_⟩⟩
  have hk : k < 1 := hk
  obtain rfl : k = 0 := by omega
  refine ⟨P, fun r v hv => ?_, hx⟩
  rw [show 0 + 0 * 21 + r = r by omega, cell_of_row w b _ _ _ _ h]
  exact hv
theorem lin_two {w : World} {b : Nat} {x y : St} {P Q : Pl} {t : TypeId} {fr : Nat × Nat} (h : w.heap[b]? = some (.cells (cs x P ++ cs y Q) t fr)) (hx : SIn w x P) (hy : SIn w y Q) : LIn w [x, y] (some ⟨b, 0, none⟩) 2 := by
  have hb : b < w.heap.size := (Array.getElem?_eq_some_iff.1 h).1
  refine ⟨rfl, by omega, .inr ⟨b, 0, rfl, hb, hb, Lib.hid fun k hk => ?_⟩⟩
  have hk : k < 2 := hk
  match k, hk with
  | 0, _ =>
    refine ⟨P, fun r v hv => ?_, hx⟩
    have hr : r < 21 := by
      have := (Array.getElem?_eq_some_iff.1 hv).1
      rwa [cs_size] at this
    rw [show 0 + 0 * 21 + r = r by omega, cell_of_row w b _ _ _ _ h, Array.getElem?_append_left (by rw [cs_size]; exact hr)]
    exact hv
  | 1, _ =>
    refine ⟨Q, fun r v hv => ?_, hy⟩
    rw [show 0 + 1 * 21 + r = 21 + r by omega, cell_of_row w b _ _ _ _ h, Array.getElem?_append_right (by rw [cs_size]; omega), cs_size, show 21 + r - 21 = r by omega]
    exact hv
theorem parts_of' {o : Option TypeInfo} {z : Value} {s b : Nat} (h : o.map (fun i => (i.zero, i.size, i.bytes)) = some (some z, s, b)) : ∃ i, o = some i ∧ i.zero = some z ∧ i.size = s ∧ i.bytes = b := by
  cases o with
  | none => cases h
  | some i => simp only [Option.map_some, Option.some.injEq, Prod.mk.injEq] at h; exact ⟨i, rfl, h.1, h.2.1, h.2.2⟩
theorem fld_info : (Tryz.prog.info? 39).map (fun i => (i.zero, i.size, i.bytes)) = some (some (.agg #[.int .i64 0, .string ⟨#[]⟩, .string ⟨#[]⟩, .int .i64 0, .string ⟨#[]⟩, .int .i64 0, .slice none 0 0, .int .i64 0, .string ⟨#[]⟩, .int .i64 0, .slice none 0 0, .slice none 0 0, .int .i64 0, .int .i64 0, .int .i64 0, .int .i64 0, .slice none 0 0, .slice none 0 0, .bool false, .slice none 0 0, .slice none 0 0]), 21, 312) := by kernel_rfl
set_option maxRecDepth 100000 in
theorem number_any (n : Int) (w : World) : Calls Tryz.prog 13 #[.int .i64 n] w (Gives (.agg #[.int .i64 1, .string ⟨#[]⟩, .int .i64 n, .slice none 0 0]) w) := by
  go_enter Tryz.func13, Tryz.ntmps13
  go_wp2_with fail
  exact bodyPost_ret (v := .agg #[.int .i64 1, .string ⟨#[]⟩, .int .i64 n, .slice none 0 0]) (by simp [results, Tryz.results13, go_sem]) rfl ⟨rfl, by (repeat (first | (with_reducible exact Below.refl _ _) | (with_reducible assumption) | (with_reducible apply bl_alloc) | (with_reducible apply bl_drewN) | (with_reducible apply bl_drew) | (with_reducible refine bl_set ?_ (by first | (simp; done) | (simp; omega)) _) | (with_reducible refine bl_call ?_ (by assumption))))⟩
/-- A whole statement goes into a block that was just made, its number said by the caller. -/
theorem st_anyC (x : St) (P : Pl) (z : Array Value) (hz : z.size = 21) (W : World) (B : Nat) (hB : W.heap.size = B) : (storeCells ⟨B, 0, none⟩ (cs x P).toList 0).run Tryz.prog (W.alloc (.cells z 39)) = .ok () (W.alloc (.cells (cs x P) 39)) := by subst hB; exact st_store x P z hz W
theorem st_anyV (x : St) (P : Pl) (z : Array Value) (hz : z.size = 21) (W : World) (B : Nat) (hB : W.heap.size = B) : (storeVar 39 ⟨B, 0, none⟩ (.agg (cs x P))).run Tryz.prog (W.alloc (.cells z 39)) = .ok () (W.alloc (.cells (cs x P) 39)) := by subst hB; exact st_storeVar x P z hz W
theorem st_anyA (x : St) (P : Pl) (z : Array Value) (hz : z.size = 21) (W : World) (B : Nat) (hB : W.heap.size = B) : (Instr.storeAt 39 (.pointer (some ⟨B, 0, none⟩)) (.agg (cs x P))).run Tryz.prog (W.alloc (.cells z 39)) = .ok () (W.alloc (.cells (cs x P) 39)) := by subst hB; exact st_storeAt x P z hz W
theorem odd_set (P : Pl) : (cs sHold P).setIfInBounds 2 (.string tA) = cs sOdd P := rfl
theorem str_cells : Tryz.prog.cellsOf 9 = 1 := by kernel_rfl
theorem str_info' : (Tryz.prog.info? 9).map (fun i => (i.zero, i.size, i.bytes)) = some (some (.string ⟨#[]⟩), 1, 16) := by kernel_rfl
theorem str_equal (a b : ByteArray) (w : World) : (Op.equalIn 9999 9 (.string a) (.string b)).run Tryz.prog w = .ok (a.toList == b.toList) w := run_equalIn_string w 9998 9 a b Tryz.underlying9
theorem str_part (x y : Value) (hx : x.oneCell' = true) (w : World) : (part 9 #[x, y] 0).run Tryz.prog w = .ok x w ∧ (part 9 #[y, x] 1).run Tryz.prog w = .ok x w := by
  constructor <;> simp [part, Tryz.isAgg9, Result.andThen]
/-- Two pairs of texts are compared. -/
theorem eq2 (a b c d : ByteArray) (w : World) : (Op.equalIn 10000 44 (.agg #[.string a, .string b]) (.agg #[.string c, .string d])).run Tryz.prog w = .ok ((a.toList == c.toList) && (b.toList == d.toList)) w := by
  obtain ⟨i, hi, -⟩ := parts_of' str_info'
  rw [run_equalIn_array (w := w) 9999 _ _ Tryz.underlying44 hi, str_cells]
  have p1 := fun w => (str_part (.string a) (.string b) rfl w).1
  have p2 := fun w => (str_part (.string b) (.string a) rfl w).2
  have p3 := fun w => (str_part (.string c) (.string d) rfl w).1
  have p4 := fun w => (str_part (.string d) (.string c) rfl w).2
  show (Op.eqItems 9999 9 1 _ _ [0, 1]).run Tryz.prog w = _
  simp only [Op.eqItems, Sem.run_bind, Nat.zero_mul, Nat.one_mul, p1, p3, str_equal, Result.andThen_ok]
  cases h1 : (a.toList == c.toList) <;> cases h2 : (b.toList == d.toList) <;> simp [p2, p4, str_equal, h2, Result.andThen]
/-- One statement, two statements in a slice literal. -/
theorem wpList_one {ops : Array Oper} {rest : List Oper} {o : Oper} {a : Act} {w : World} {Q : Exit → Act → World → Prop} (hg : o.guard = none) (parts : Array (Nat × Operand)) (ho : o.op = .buildSlice 22 1 parts) (d : Option Tmp) (hd : o.dst = d) (N : Nat) (hN : w.heap.size = N) (x : St) (P : Pl)
    (hv : (parts.map fun (i, y) => (i, a.eval y)).toList = [(0, .agg (cs x P))]) (h : wpList Tryz.prog ops Q rest (a.put d (.slice (some ⟨N, 0, none⟩) 1 1)) (w.alloc (.cells (cs x P) 39))) : wpList Tryz.prog ops Q (o :: rest) a w := by
  subst hd hN
  obtain ⟨ie, h1, h2, h3, -⟩ := parts_of' fld_info
  refine wpList_buildSlice hg 22 39 1 parts ho (cs x P) ie _ Tryz.underlying22 h1 h2 (by rw [h3]; decide) (by rw [h3]; decide) ?_ h
  rw [hv, h3]
  kernel_rfl
theorem wpList_two {ops : Array Oper} {rest : List Oper} {o : Oper} {a : Act} {w : World} {Q : Exit → Act → World → Prop} (hg : o.guard = none) (parts : Array (Nat × Operand)) (ho : o.op = .buildSlice 22 2 parts) (d : Option Tmp) (hd : o.dst = d) (N : Nat) (hN : w.heap.size = N) (x y : St) (P P2 : Pl)
    (hv : (parts.map fun (i, y) => (i, a.eval y)).toList = [(0, .agg (cs x P)), (1, .agg (cs y P2))]) (h : wpList Tryz.prog ops Q rest (a.put d (.slice (some ⟨N, 0, none⟩) 2 2)) (w.alloc (.cells (cs x P ++ cs y P2) 39))) : wpList Tryz.prog ops Q (o :: rest) a w := by
  subst hd hN
  obtain ⟨ie, h1, h2, h3, -⟩ := parts_of' fld_info
  refine wpList_buildSlice hg 22 39 2 parts ho (cs x P ++ cs y P2) ie _ Tryz.underlying22 h1 h2 (by rw [h3]; decide) (by rw [h3]; decide) ?_ h
  rw [hv, h3]
  kernel_rfl
theorem wp_oneG {o : Oper} {a : Act} {w : World} {K : Act → World → Prop} {Q : Exit → Act → World → Prop} (parts : Array (Nat × Operand)) (ho : o.op = .buildSlice 22 1 parts) (d : Option Tmp) (hd : o.dst = d) (N : Nat) (hN : w.heap.size = N) (x : St) (P : Pl)
    (hv : (parts.map fun (i, y) => (i, a.eval y)).toList = [(0, .agg (cs x P))]) (h : K (a.put d (.slice (some ⟨N, 0, none⟩) 1 1)) (w.alloc (.cells (cs x P) 39))) : o.wp Tryz.prog a w K Q := by
  subst hd hN
  obtain ⟨ie, h1, h2, h3, -⟩ := parts_of' fld_info
  refine wp_buildSlice 22 39 1 parts ho (cs x P) ie _ Tryz.underlying22 h1 h2 (by rw [h3]; decide) (by rw [h3]; decide) ?_ h
  rw [hv, h3]
  kernel_rfl
theorem wp_buildG {o : Oper} {a : Act} {w : World} {K : Act → World → Prop} {Q : Exit → Act → World → Prop} (t : TypeId) (parts : Array (Nat × Operand)) (ho : o.op = .build t parts) (d : Option Tmp) (hd : o.dst = d) (cells : Array Value)
    (hf : Tryz.prog.built t (parts.map fun (i, x) => (i, a.eval x)).toList = some cells) (h : K (a.put d (.agg cells)) w) : o.wp Tryz.prog a w K Q := by
  subst hd
  unfold Oper.wp execOp
  simp only [ho, Sem.run_bind, run_build w t _ _ hf, Result.andThen_ok]
  exact h
theorem wpList_oneW {ops : Array Oper} {rest : List Oper} {o : Oper} {a : Act} {w : World} {Q : Exit → Act → World → Prop} (hw : Region.wanted o (yielded ops a.tmps) = true) (parts : Array (Nat × Operand)) (ho : o.op = .buildSlice 22 1 parts) (d : Option Tmp) (hd : o.dst = d) (N : Nat) (hN : w.heap.size = N) (x : St) (P : Pl)
    (hv : (parts.map fun (i, y) => (i, a.eval y)).toList = [(0, .agg (cs x P))]) (h : wpList Tryz.prog ops Q rest (a.put d (.slice (some ⟨N, 0, none⟩) 1 1)) (w.alloc (.cells (cs x P) 39))) : wpList Tryz.prog ops Q (o :: rest) a w := by
  unfold wpList
  rw [if_pos hw]
  exact .inl (wp_oneG parts ho d hd N hN x P hv h)
theorem wpList_buildW {ops : Array Oper} {rest : List Oper} {o : Oper} {a : Act} {w : World} {Q : Exit → Act → World → Prop} (hw : Region.wanted o (yielded ops a.tmps) = true) (t : TypeId) (parts : Array (Nat × Operand)) (ho : o.op = .build t parts) (d : Option Tmp) (hd : o.dst = d) (cells : Array Value)
    (hf : Tryz.prog.built t (parts.map fun (i, x) => (i, a.eval x)).toList = some cells) (h : wpList Tryz.prog ops Q rest (a.put d (.agg cells)) w) : wpList Tryz.prog ops Q (o :: rest) a w := by
  unfold wpList
  rw [if_pos hw]
  exact .inl (wp_buildG t parts ho d hd cells hf h)
end Go.Proofs.YtonlmnlpofgccaaGreat.Sm
