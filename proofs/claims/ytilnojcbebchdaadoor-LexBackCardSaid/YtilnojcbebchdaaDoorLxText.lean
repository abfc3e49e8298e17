/-
  The contract of Text.
-/
import Derived.Test.YtilnojcbebchdaaDoorLxTxt
import Derived.Test.YtilnojcbebchdaaDoorLxBuild
namespace Go.Proofs.YtilnojcbebchdaaDoor.Lx
open Go.RowKit
set_option maxHeartbeats 4000000
set_option linter.unusedVariables false
set_option linter.unusedSimpArgs false
theorem Bld.on {B : Nat} {l : List UInt8} {w w2 : World} (hb : Below w.heap.size w w2) (h : Bld B l w) : Bld B l w2 := by
  have key : ∀ {p : Value}, Lib.BuilderAtF 51 5 B B p (Lib.byteCells l) w → Lib.BuilderAtF 51 5 B B p (Lib.byteCells l) w2 := by
    rintro p ⟨hB, v, hbk, hown, hne⟩
    refine ⟨hB, v, (hb.block _ (Array.getElem?_eq_some_iff.1 hbk).1).trans hbk, ?_, hne⟩
    exact World.ownsRowF.kept hown (row := none) ⟨hb.os, hb.tape, hb.output, hb.size, fun k hk _ => hb.block k hk⟩ (by cases v.ownBlock <;> simp)
  exact h.elim (fun x => .inl (key x)) (fun x => .inr (key x))
/-- The builder holds t, and of what was there nothing has turned. -/
structure TS (w : World) (B : Nat) (t : List UInt8) (wr : World) : Prop where
  bld : Bld B t wr
  below : Below w.heap.size w wr
  low : w.heap.size ≤ B
  lt : B < wr.heap.size
theorem TS.call {w wr w2 : World} {B : Nat} {t : List UInt8} (h : TS w B t wr) (hb : Below wr.heap.size wr w2) : TS w B t w2 := ⟨h.bld.on hb, bl_call h.below hb, h.low, Nat.lt_of_lt_of_le h.lt hb.size⟩
theorem TS.kept {w wr w2 : World} {B : Nat} {t t2 : List UInt8} (h : TS w B t wr) (hk : Kept B wr w2) (hb : Bld B t2 w2) : TS w B t2 w2 := ⟨hb, h.below.trans (hk.1.mono h.low), h.low, Nat.lt_of_lt_of_le h.lt hk.1.size⟩
/-- A box with a token beside the builder. -/
def BX (w : World) (B g : Nat) (x : Tk) : Prop := w.heap[g]? = some (.cells #[.int .i64 x.k, .string x.t, .int .i64 x.n, .int .i64 x.l] 31 (0, 0)) ∧ B < g
theorem BX.new {w : World} {B : Nat} {x : Tk} (h : B < w.heap.size) : BX (w.alloc (.cells #[.int .i64 x.k, .string x.t, .int .i64 x.n, .int .i64 x.l] 31)) B w.heap.size x := ⟨heap_alloc_new w _, h⟩
theorem BX.call {w w2 : World} {B g : Nat} {x : Tk} (h : BX w B g x) (hb : Below w.heap.size w w2) : BX w2 B g x := ⟨(hb.block _ (Array.getElem?_eq_some_iff.1 h.1).1).trans h.1, h.2⟩
theorem BX.kept {w w2 : World} {B g : Nat} {x : Tk} (h : BX w B g x) (hk : Kept B w w2) : BX w2 B g x := ⟨hk.box h.1 (Nat.ne_of_gt h.2), h.2⟩
theorem BX.cells {w : World} {B g : Nat} {x : Tk} (h : BX w B g x) : w.cell? ⟨g, 0, none⟩ = some (.int .i64 x.k) ∧ w.cell? ⟨g, 1, none⟩ = some (.string x.t) ∧ w.cell? ⟨g, 2, none⟩ = some (.int .i64 x.n) ∧ w.cell? ⟨g, 3, none⟩ = some (.int .i64 x.l) := by
  refine ⟨?_, ?_, ?_, ?_⟩ <;> (rw [Lib.cell_of_heap h.1]; rfl)
theorem gap_first {ln : Int} {x : Tk} : gap true ln x = false := rfl
theorem gap_else {ln : Int} {x : Tk} (h : ¬ x.l = ln) : gap false ln x = false := by unfold gap; rw [decide_eq_false h]; rfl
theorem gap_same {ln : Int} {x : Tk} (h : x.l = ln) : gap false ln x = visB x.k := by unfold gap; rw [decide_eq_true h]; rfl
/-- The text one token further on. -/
theorem tx_next {l : List Tk} {k : Nat} (hk : k < l.length) {d : Nat} (hd : ((l[k]).l - lnB l k).toNat = d) {g : Bool} (hg : gap (decide (k = 0)) (lnB l k) l[k] = g) : tx l (k + 1) = tx l k ++ List.replicate d 10 ++ (if g = true then [32] else []) ++ bs (wrt l[k]) := by
  show tx l k ++ pcs (decide (k = 0)) (lnB l k) (l.getD k ⟨4, mt, 0, 0⟩) = _
  rw [getD_at hk]
  unfold pcs
  rw [hd, hg, List.append_assoc, List.append_assoc]
set_option maxRecDepth 100000 in
set_option maxHeartbeats 600000 in
theorem text_chk {p : Option Addr} {n c : Nat} {v : Int} {V : Value} (w : World) (h0 : ¬ v = 0) (I1 : Calls Tryd.prog 14 #[.slice p n c] w (Gives (.int .i64 v) w)) (HR : Hid (V = .tuple #[.string mt, .int .i64 v])) : Calls Tryd.prog 16 #[.slice p n c] w (Gives V w) := by
  have q : (v == 0) = false := beq_eq_false_iff_ne.2 h0
  have q2 : (v != 0) = true := by simp only [bne, q]; rfl
  go_enter Tryd.func16, Tryd.ntmps16
  go_wp2_with fail
  refine I1.mono ?_
  rintro e w1 ⟨rfl, hb1⟩
  go_wp2_with fail
  go_ret2
  exact gives_eq HR.out hb1
set_option maxRecDepth 100000 in
set_option maxHeartbeats 600000 in
theorem text_far {b o n c m : Nat} {L : Int} {V : Value} (w : World) (hm : n = m + 1) (hn : n ≤ 9223372036854775807) (hb : b < w.heap.size) (eL : w.cell? ⟨b, o + m * 4 + 3, none⟩ = some (.int .i64 L)) (h2 : 20001 < L) (hL2 : L ≤ 9223372036854775807) (I1 : Calls Tryd.prog 14 #[.slice (some ⟨b, o, none⟩) n c] w (Gives (.int .i64 0) w)) (HR : Hid (V = .tuple #[.string mt, .int .i64 6])) : Calls Tryd.prog 16 #[.slice (some ⟨b, o, none⟩) n c] w (Gives V w) := by
  have c1 : (n : Int) - 1 = (m : Int) := by omega
  have c2 : (0 : Int) ≤ (m : Int) := by omega
  have c3 : (m : Int) < (n : Int) := by omega
  have c4 : (n : Int) ≤ 9223372036854775807 := by omega
  obtain ⟨M, hM⟩ : ∃ M, L - 1 = M := ⟨_, rfl⟩
  have q : decide ((20000 : Int) < M) = true := decide_eq_true (by omega)
  have c6 : (20000 : Int) < M := by omega
  have c7 : M ≤ 9223372036854775807 := by omega
  clear hm
  go_enter Tryd.func16, Tryd.ntmps16
  go_wp2_with fail
  refine I1.mono ?_
  rintro e w1 ⟨rfl, hb1⟩
  have eL1 := (hb1.cell (p := ⟨b, o + m * 4 + 3, none⟩) hb).trans eL
  go_wp2_with fail
  go_ret2
  exact gives_eq HR.out hb1
/-- What a valid list tells of its token at place k. -/
structure InL (l : List Tk) (k : Nat) (x : Tk) : Prop where
  lt : k < l.length
  at' : l[k]? = some x
  low : 1 ≤ lnB l k
  step : lnB l k ≤ x.l
  high : x.l ≤ 20001
  next : lnB l (k + 1) = x.l
  size : (wrt x).size ≤ 140737488355328
  num : x.k = 2 → 0 ≤ x.n ∧ x.n ≤ 1000000000000
  text : ∀ d g, (x.l - lnB l k).toNat = d → gap (decide (k = 0)) (lnB l k) x = g → tx l (k + 1) = tx l k ++ List.replicate d 10 ++ (if g = true then [32] else []) ++ bs (wrt x)
set_option maxRecDepth 100000 in
set_option maxHeartbeats 4000000 in
theorem text_in {b o n c m : Nat} {l : List Tk} {L : Int} {V : Value} (w : World) (hm : n = m + 1) (hn : n ≤ 9223372036854775807) (hb : b < w.heap.size) (hl : l.length = n) (eL : w.cell? ⟨b, o + m * 4 + 3, none⟩ = some (.int .i64 L)) (h2 : ¬ 20001 < L) (hL1 : 1 ≤ L) (hE : Env w)
    (hC : Hid (∀ i, (g : i < l.length) → cell4 w b (o + i * 4) l[i])) (hI : Hid (∀ k, (hk : k < l.length) → InL l k l[k]))
    (I1 : Calls Tryd.prog 14 #[.slice (some ⟨b, o, none⟩) n c] w (Gives (.int .i64 0) w)) (HSIX : Hid (∀ k, k ≤ l.length → 20000 < (tx l k).length → V = .tuple #[.string mt, .int .i64 6])) (HGOOD : Hid ((tx l n).length ≤ 20000 → V = .tuple #[.string (mkS (tx l n)), .int .i64 0])) :
    Calls Tryd.prog 16 #[.slice (some ⟨b, o, none⟩) n c] w (Gives V w) := by
  have c1 : (n : Int) - 1 = (m : Int) := by omega
  have c2 : (0 : Int) ≤ (m : Int) := by omega
  have c3 : (m : Int) < (n : Int) := by omega
  have c4 : (n : Int) ≤ 9223372036854775807 := by omega
  obtain ⟨M, hM⟩ : ∃ M, L - 1 = M := ⟨_, rfl⟩
  have q : decide ((20000 : Int) < M) = false := decide_eq_false (by omega)
  have c6 : ¬ (20000 : Int) < M := by omega
  have c7 : 0 ≤ M := by omega
  have HL := Lib.hid hl
  have HE := Lib.hid hE
  clear hm hl hE
  go_enter Tryd.func16, Tryd.ntmps16
  go_wp2_with fail
  refine I1.mono ?_
  rintro e w1 ⟨rfl, hb1⟩
  have eL1 := (hb1.cell (p := ⟨b, o + m * 4 + 3, none⟩) hb).trans eL
  obtain ⟨B, hB⟩ : ∃ B, w1.heap.size = B := ⟨_, rfl⟩
  have HT0 : Hid (TS w B [] (w1.alloc (.cells #[.pointer none, .slice none 0 0] 51))) := Lib.hid (by subst hB; exact ⟨Bld.fresh, bl_alloc hb1, hb1.size, by simp⟩)
  clear eL
  go_wp2_with fail
  clear hB hM
  go_loopw [6, 25] (fun ln i wr => ∃ k : Nat, k ≤ n ∧ i = .int .i64 (k : Nat) ∧ ln = .int .i64 (lnB l k) ∧ Hid (TS w B (tx l k) wr ∧ (tx l k).length ≤ 20000)) (fun ln i wr => n - (intOf i).toNat)
  case atStart => exact ⟨0, Nat.zero_le _, rfl, rfl, Lib.hid ⟨HT0.out, Nat.zero_le _⟩⟩
  case round =>
    obtain ⟨k, hk, rfl, rfl, HR⟩ := hrel
    have d1 : (0 : Int) ≤ (k : Int) := by omega
    rcases Nat.lt_or_ge k n with h | h
    · have d2 : (k : Int) < (n : Int) := by omega
      have hkl : k < l.length := by rw [HL.out]; exact h
      have hx := hI.out k hkl
      obtain ⟨e1, e2, e3, e4⟩ := cell4.on HR.out.1.below hb (hC.out k hkl)
      obtain ⟨x, ex⟩ : ∃ x, l[k] = x := ⟨_, rfl⟩
      rw [ex] at e1 e2 e3 e4 hx
      have HX := Lib.hid hx
      have HLN := Lib.hid hx.next
      have g1 := hx.low
      have g2 := hx.step
      have g3 := hx.high
      obtain ⟨d, hd⟩ : ∃ d, (x.l - lnB l k).toNat = d := ⟨_, rfl⟩
      have HTXF := Lib.hid fun g hg => hx.text d g hd hg
      obtain ⟨ln, hln⟩ : ∃ ln, lnB l k = ln := ⟨_, rfl⟩
      rw [hln] at g1 g2 hd HTXF ⊢
      have hdl : x.l - ln = (d : Int) := by omega
      have hd2 : d ≤ 20000 := by omega
      have HD := Lib.hid hd2
      have IR := fun w1 => repeat_any d w1 (by omega)
      have HDS : Hid ((mkS (List.replicate d 10)).size ≤ 140737488355328) := Lib.hid (by rw [← bs_len, bs_mk, List.length_replicate]; omega)
      have HLEN0 : Hid ((tx l k).length ≤ 60000) := Lib.hid (by have := HR.out.2; omega)
      have HLEN := Lib.hid HR.out.2
      have HWS := Lib.hid hx.size
      have HNUM := Lib.hid hx.num
      have T1 : TS w B (tx l k) (wr.alloc (.cells #[.int .i64 x.k, .string x.t, .int .i64 x.n, .int .i64 x.l] 31)) := HR.out.1.call (bl_alloc (Below.refl _ _))
      have X1 := BX.new (x := x) HR.out.1.lt
      clear ex hln hd HR HGOOD hx hd2 HX hkl I1 HT0
      by_cases hz : k = 0
      · have z0 : ¬ (0 : Int) < (k : Int) := by omega
        have z1 : decide ((0 : Int) < (k : Int)) = false := decide_eq_false z0
        have HTX : Hid (tx l (k + 1) = tx l k ++ List.replicate d 10 ++ bs (wrt x)) := Lib.hid (by have e := HTXF.out false (by rw [decide_eq_true hz]; rfl); rw [if_neg (by decide), List.append_nil] at e; exact e)
        clear HTXF hz
        go_wp2_with fail
        refine (IR _).mono ?_
        rintro e w2 ⟨rfl, hb2⟩
        have T2 := T1.call hb2
        have X2 := X1.call hb2
        clear hb2
        go_wp2_with fail
        refine (writestring_any B (tx l k) (mkS (List.replicate d 10)) w2 T2.bld HDS.out HLEN0.out (Nat.le_of_lt T2.lt)).mono ?_
        rintro e w3 ⟨rfl, hB3, hK3⟩
        have T3 := T2.kept hK3 hB3
        have X3 := X2.kept hK3
        obtain ⟨y0, y1, y2, y3⟩ := X3.cells
        clear hB3 hK3 X2 T2 X1 T1
        go_wp2_with fail
        refine (written_any x w3 (HE.out.below T3.below) HNUM.out).mono ?_
        rintro e w5 ⟨rfl, hb5⟩
        have T5 := T3.call hb5
        clear hb5
        go_wp2_with fail
        refine (writestring_any B _ (wrt x) w5 T5.bld HWS.out (by simp only [List.length_append, List.length_replicate, List.length_cons, List.length_nil, bs_mk]; have := HD.out; have := HLEN.out; omega) (Nat.le_of_lt T5.lt)).mono ?_
        rintro e w6 ⟨rfl, hB6, hK6⟩
        have T6 := T5.kept hK6 hB6
        clear hB6 hK6 T5
        rw [bs_mk, ← HTX.out] at T6
        go_wp2_with fail
        refine (len_any B _ w6 T6.bld).mono ?_
        rintro e w7 ⟨rfl, rfl⟩
        by_cases hz : 20000 < (tx l (k + 1)).length
        · have q : decide ((20000 : Int) < (((tx l (k + 1)).length : Nat) : Int)) = true := decide_eq_true (by omega)
          have HR := Lib.hid (HSIX.out (k + 1) (by have := HL.out; omega) hz)
          go_wp2_with fail
          go_ret2
          exact gives_eq HR.out T6.below
        · have q : decide ((20000 : Int) < (((tx l (k + 1)).length : Nat) : Int)) = false := decide_eq_false (by omega)
          have HZ : Hid ((tx l (k + 1)).length ≤ 20000) := Lib.hid (by omega)
          go_wp2_with fail
          go_roundw
          case rel => exact ⟨k + 1, by omega, by go_num, by rw [HLN.out], Lib.hid ⟨T6, HZ.out⟩⟩
          case measure => simp [intOf]; omega
      · have z0 : (0 : Int) < (k : Int) := by omega
        have z1 : decide ((0 : Int) < (k : Int)) = true := decide_eq_true z0
        have z2 : decide (k = 0) = false := decide_eq_false hz
        rw [z2] at HTXF
        by_cases hy : x.l = ln
        · have q2 : (x.l == ln) = true := by rw [beq_iff_eq]; exact hy
          have HGS := Lib.hid (gap_same (x := x) hy)
          cases hv : visB x.k with
          | true =>
            have HTX : Hid (tx l (k + 1) = tx l k ++ List.replicate d 10 ++ [32] ++ bs (wrt x)) := Lib.hid (by have e := HTXF.out true (HGS.out.trans hv); rw [if_pos rfl] at e; exact e)
            have IV := fun w1 => visible_at hv w1
            clear HTXF hz hy HGS hv
            go_wp2_with fail
            refine (IR _).mono ?_
            rintro e w2 ⟨rfl, hb2⟩
            have T2 := T1.call hb2
            have X2 := X1.call hb2
            clear hb2
            go_wp2_with fail
            refine (writestring_any B (tx l k) (mkS (List.replicate d 10)) w2 T2.bld HDS.out HLEN0.out (Nat.le_of_lt T2.lt)).mono ?_
            rintro e w3 ⟨rfl, hB3, hK3⟩
            have T3 := T2.kept hK3 hB3
            have X3 := X2.kept hK3
            obtain ⟨y0, y1, y2, y3⟩ := X3.cells
            clear hB3 hK3 X2 T2 X1 T1
            go_wp2_with fail
            refine (IV _).mono ?_
            rintro e w4 ⟨rfl, rfl⟩
            go_wp2_with fail
            have IB := writebyte_any B _ 32 w4 T3.bld (by simp only [List.length_append, List.length_replicate, bs_mk]; have := HD.out; have := HLEN.out; omega) (Nat.le_of_lt T3.lt)
            refine IB.mono ?_
            rintro e w4' ⟨rfl, hB4, hK4⟩
            have T4 := T3.kept hK4 hB4
            have X4 := X3.kept hK4
            obtain ⟨x0, x1, x2, x3⟩ := X4.cells
            clear hB4 hK4 T3 X3 y0 y1 y2 y3 IB
            go_wp2_with fail
            refine (written_any x w4' (HE.out.below T4.below) HNUM.out).mono ?_
            rintro e w5 ⟨rfl, hb5⟩
            have T5 := T4.call hb5
            clear hb5
            go_wp2_with fail
            refine (writestring_any B _ (wrt x) w5 T5.bld HWS.out (by simp only [List.length_append, List.length_replicate, List.length_cons, List.length_nil, bs_mk]; have := HD.out; have := HLEN.out; omega) (Nat.le_of_lt T5.lt)).mono ?_
            rintro e w6 ⟨rfl, hB6, hK6⟩
            have T6 := T5.kept hK6 hB6
            clear hB6 hK6 T5
            rw [bs_mk, ← HTX.out] at T6
            go_wp2_with fail
            refine (len_any B _ w6 T6.bld).mono ?_
            rintro e w7 ⟨rfl, rfl⟩
            by_cases hz : 20000 < (tx l (k + 1)).length
            · have q : decide ((20000 : Int) < (((tx l (k + 1)).length : Nat) : Int)) = true := decide_eq_true (by omega)
              have HR := Lib.hid (HSIX.out (k + 1) (by have := HL.out; omega) hz)
              go_wp2_with fail
              go_ret2
              exact gives_eq HR.out T6.below
            · have q : decide ((20000 : Int) < (((tx l (k + 1)).length : Nat) : Int)) = false := decide_eq_false (by omega)
              have HZ : Hid ((tx l (k + 1)).length ≤ 20000) := Lib.hid (by omega)
              go_wp2_with fail
              go_roundw
              case rel => exact ⟨k + 1, by omega, by go_num, by rw [HLN.out], Lib.hid ⟨T6, HZ.out⟩⟩
              case measure => simp [intOf]; omega
          | false =>
            have HTX : Hid (tx l (k + 1) = tx l k ++ List.replicate d 10 ++ bs (wrt x)) := Lib.hid (by have e := HTXF.out false (HGS.out.trans hv); rw [if_neg (by decide), List.append_nil] at e; exact e)
            have IV := fun w1 => visible_at hv w1
            clear HTXF hz hy HGS hv
            go_wp2_with fail
            refine (IR _).mono ?_
            rintro e w2 ⟨rfl, hb2⟩
            have T2 := T1.call hb2
            have X2 := X1.call hb2
            clear hb2
            go_wp2_with fail
            refine (writestring_any B (tx l k) (mkS (List.replicate d 10)) w2 T2.bld HDS.out HLEN0.out (Nat.le_of_lt T2.lt)).mono ?_
            rintro e w3 ⟨rfl, hB3, hK3⟩
            have T3 := T2.kept hK3 hB3
            have X3 := X2.kept hK3
            obtain ⟨y0, y1, y2, y3⟩ := X3.cells
            clear hB3 hK3 X2 T2 X1 T1
            go_wp2_with fail
            refine (IV _).mono ?_
            rintro e w4 ⟨rfl, rfl⟩
            go_wp2_with fail
            refine (written_any x w4 (HE.out.below T3.below) HNUM.out).mono ?_
            rintro e w5 ⟨rfl, hb5⟩
            have T5 := T3.call hb5
            clear hb5
            go_wp2_with fail
            refine (writestring_any B _ (wrt x) w5 T5.bld HWS.out (by simp only [List.length_append, List.length_replicate, List.length_cons, List.length_nil, bs_mk]; have := HD.out; have := HLEN.out; omega) (Nat.le_of_lt T5.lt)).mono ?_
            rintro e w6 ⟨rfl, hB6, hK6⟩
            have T6 := T5.kept hK6 hB6
            clear hB6 hK6 T5
            rw [bs_mk, ← HTX.out] at T6
            go_wp2_with fail
            refine (len_any B _ w6 T6.bld).mono ?_
            rintro e w7 ⟨rfl, rfl⟩
            by_cases hz : 20000 < (tx l (k + 1)).length
            · have q : decide ((20000 : Int) < (((tx l (k + 1)).length : Nat) : Int)) = true := decide_eq_true (by omega)
              have HR := Lib.hid (HSIX.out (k + 1) (by have := HL.out; omega) hz)
              go_wp2_with fail
              go_ret2
              exact gives_eq HR.out T6.below
            · have q : decide ((20000 : Int) < (((tx l (k + 1)).length : Nat) : Int)) = false := decide_eq_false (by omega)
              have HZ : Hid ((tx l (k + 1)).length ≤ 20000) := Lib.hid (by omega)
              go_wp2_with fail
              go_roundw
              case rel => exact ⟨k + 1, by omega, by go_num, by rw [HLN.out], Lib.hid ⟨T6, HZ.out⟩⟩
              case measure => simp [intOf]; omega
        · have q2 : (x.l == ln) = false := beq_eq_false_iff_ne.2 hy
          have HTX : Hid (tx l (k + 1) = tx l k ++ List.replicate d 10 ++ bs (wrt x)) := Lib.hid (by have e := HTXF.out false (gap_else hy); rw [if_neg (by decide), List.append_nil] at e; exact e)
          clear HTXF hz
          go_wp2_with fail
          refine (IR _).mono ?_
          rintro e w2 ⟨rfl, hb2⟩
          have T2 := T1.call hb2
          have X2 := X1.call hb2
          clear hb2
          go_wp2_with fail
          refine (writestring_any B (tx l k) (mkS (List.replicate d 10)) w2 T2.bld HDS.out HLEN0.out (Nat.le_of_lt T2.lt)).mono ?_
          rintro e w3 ⟨rfl, hB3, hK3⟩
          have T3 := T2.kept hK3 hB3
          have X3 := X2.kept hK3
          obtain ⟨y0, y1, y2, y3⟩ := X3.cells
          clear hB3 hK3 X2 T2 X1 T1
          go_wp2_with fail
          refine (written_any x w3 (HE.out.below T3.below) HNUM.out).mono ?_
          rintro e w5 ⟨rfl, hb5⟩
          have T5 := T3.call hb5
          clear hb5
          go_wp2_with fail
          refine (writestring_any B _ (wrt x) w5 T5.bld HWS.out (by simp only [List.length_append, List.length_replicate, List.length_cons, List.length_nil, bs_mk]; have := HD.out; have := HLEN.out; omega) (Nat.le_of_lt T5.lt)).mono ?_
          rintro e w6 ⟨rfl, hB6, hK6⟩
          have T6 := T5.kept hK6 hB6
          clear hB6 hK6 T5
          rw [bs_mk, ← HTX.out] at T6
          go_wp2_with fail
          refine (len_any B _ w6 T6.bld).mono ?_
          rintro e w7 ⟨rfl, rfl⟩
          by_cases hz : 20000 < (tx l (k + 1)).length
          · have q : decide ((20000 : Int) < (((tx l (k + 1)).length : Nat) : Int)) = true := decide_eq_true (by omega)
            have HR := Lib.hid (HSIX.out (k + 1) (by have := HL.out; omega) hz)
            go_wp2_with fail
            go_ret2
            exact gives_eq HR.out T6.below
          · have q : decide ((20000 : Int) < (((tx l (k + 1)).length : Nat) : Int)) = false := decide_eq_false (by omega)
            have HZ : Hid ((tx l (k + 1)).length ≤ 20000) := Lib.hid (by omega)
            go_wp2_with fail
            go_roundw
            case rel => exact ⟨k + 1, by omega, by go_num, by rw [HLN.out], Lib.hid ⟨T6, HZ.out⟩⟩
            case measure => simp [intOf]; omega
    · obtain rfl : k = n := by omega
      have HV := Lib.hid (HGOOD.out HR.out.2)
      have T := HR.out.1
      have IS := string_any B _ wr T.bld (Nat.le_of_lt T.lt)
      have HTT := Lib.hid T
      clear HR HGOOD HSIX hI hC T
      go_wp2_with fail
      refine IS.mono ?_
      rintro e w8 ⟨rfl, hb8⟩
      go_wp2_with fail
      go_ret2
      exact gives_eq HV.out (HTT.out.below.trans (hb8.mono HTT.out.low))
theorem text_any {p : Option Addr} {n c : Nat} {l : List Tk} (w : World) (hT : Toks w p n l) (hF : ∀ x ∈ l, x.t.size ≤ 140737488355328 ∧ x.l ≤ 9223372036854775807) (hE : Env w) : Calls Tryd.prog 16 #[.slice p n c] w (Gives (txtV l) w) := by
  have hFF : Fits l := fun x hx => by have := (hF x hx).1; omega
  have I1 := check_any (c := c) w hT hFF
  by_cases h0 : chkL l = 0
  · rw [h0] at I1
    obtain ⟨hor, hlk, hl0⟩ := chk_all h0
    have hll := hT.1
    have hn := hT.2.1
    obtain ⟨b, o, rfl, hb, hc⟩ := toks_at (k := 0) hT (by omega)
    obtain ⟨m, hm⟩ : ∃ m, n = m + 1 := ⟨n - 1, by omega⟩
    have hml : m < l.length := by omega
    have eL := (hc m hml).2.2.2
    have hlast : (bef l l.length).l = l[m].l := by rw [hll, hm, bef_succ hml]
    have hL1 : 1 ≤ (l[m]).l := by have h1 := line_pos l.length (Nat.le_refl _) hor m hml; rw [getD_at hml] at h1; exact h1
    have hL2 := (hF _ (List.getElem_mem hml)).2
    by_cases h2 : 20001 < (l[m]).l
    · exact text_far w hm hn hb eL h2 hL2 I1 (Lib.hid (txt_six h0 (.inl (by rw [hlast]; exact h2))))
    · refine text_in w hm hn hb hll eL h2 hL1 hE (Lib.hid hc) (Lib.hid fun k hk => ?_) I1 (Lib.hid fun k hk g => txt_six h0 (.inr (Nat.lt_of_lt_of_le g (tx_mono hk)))) (Lib.hid fun g => ?_)
      · have h3 := line_step hor hk
        have h4 := line_mono hor (j := k + 1) (k := l.length) hk (Nat.le_refl _)
        rw [lnB_succ hk, lnB_last hl0, hlast] at h4
        have hfm := (chk_parts hor hk).2.2.1
        refine ⟨hk, List.getElem?_eq_getElem hk, h3.1, h3.2, by omega, lnB_succ hk, ?_, fun e => fm_num hfm e, fun d g hd hg => tx_next hk hd hg⟩
        unfold wrt
        split
        · rename_i hk2
          have h5 := fm_num hfm hk2
          have := num_size _ (by omega) h5.2
          omega
        · exact (hF _ (List.getElem_mem hk)).1
      · rw [← hll]
        rw [← hll] at g
        exact txt_good h0 (by rw [hlast]; exact h2) (by omega)
  · exact text_chk w h0 I1 (Lib.hid (txt_chk rfl h0))
end Go.Proofs.YtilnojcbebchdaaDoor.Lx
