/-
  The contract of joined: the events of all parts, in memory of their own.
-/
import Derived.Test.YtmijjpecgcgkgaaGConcat
namespace Go.Proofs.Ytmijjpecgcgkgaa.Ag
open Go.RowKit
set_option maxHeartbeats 4000000
/-- A row of ints that does not lie in block g. -/
def RowNe (g : Nat) (w : World) (p : Option Addr) (n : Nat) (V : Nat → Int) : Prop :=
  n ≤ 9223372036854775807 ∧ (n = 0 ∨ ∃ b o, p = some ⟨b, o, none⟩ ∧ b ≠ g ∧ b < w.heap.size ∧ Hid (∀ i, i < n → w.cell? ⟨b, o + i, none⟩ = some (.int .i64 (V i))))
theorem RowNe.row {g : Nat} {w : World} {p : Option Addr} {n : Nat} {V : Nat → Int} (h : RowNe g w p n V) : Row w p n V := by
  obtain ⟨hl, h | ⟨b, o, rfl, -, h1, h2⟩⟩ := h
  · exact ⟨hl, .inl h⟩
  · exact ⟨hl, .inr ⟨b, o, rfl, h1, h2⟩⟩
theorem RowNe.on {g : Nat} {w w2 : World} {p : Option Addr} {n : Nat} {V : Nat → Int} (hb : Below w.heap.size w w2) (h : RowNe g w p n V) : RowNe g w2 p n V := by
  obtain ⟨hl, h | ⟨b, o, rfl, h0, h1, h2⟩⟩ := h
  · exact ⟨hl, .inl h⟩
  · exact ⟨hl, .inr ⟨b, o, rfl, h0, Nat.lt_of_lt_of_le h1 hb.size, Lib.hid fun i hi => (hb.cell (p := ⟨b, o + i, none⟩) h1).trans (h2.out i hi)⟩⟩
theorem RowNe.set {g j : Nat} {w : World} {u : Value} {p : Option Addr} {n : Nat} {V : Nat → Int} (h : RowNe g w p n V) : RowNe g (w.setCell ⟨g, j, none⟩ u) p n V := by
  obtain ⟨hl, h | ⟨b, o, rfl, h0, h1, h2⟩⟩ := h
  · exact ⟨hl, .inl h⟩
  · exact ⟨hl, .inr ⟨b, o, rfl, h0, by simpa [World.setCell] using h1, Lib.hid fun i hi => (cell_far h0).trans (h2.out i hi)⟩⟩
theorem Row.ne {g : Nat} {w w2 : World} {p : Option Addr} {n : Nat} {V : Nat → Int} (h : Row w p n V) (hb : Below w.heap.size w w2) (hg : w.heap.size ≤ g) : RowNe g w2 p n V := by
  obtain ⟨hl, h | ⟨b, o, rfl, h1, h2⟩⟩ := h
  · exact ⟨hl, .inl h⟩
  · exact ⟨hl, .inr ⟨b, o, rfl, by omega, Nat.lt_of_lt_of_le h1 hb.size, Lib.hid fun i hi => (hb.cell (p := ⟨b, o + i, none⟩) h1).trans (h2.out i hi)⟩⟩
theorem RowF.ne {g lo : Nat} {w : World} {p : Option Addr} {n : Nat} {V : Nat → Int} (h : RowF lo w p n V) (hg : g < lo) : RowNe g w p n V := by
  obtain ⟨hl, h | ⟨b, o, rfl, h0, h1, h2⟩⟩ := h
  · exact ⟨hl, .inl h⟩
  · exact ⟨hl, .inr ⟨b, o, rfl, by omega, h1, h2⟩⟩
def upd (F : Nat → Ev) (j : Nat) (y : Ev) (i : Nat) : Ev := if i = j then y else F i
def sets (l : List Value) (q : Nat) (y : Ev) : List Value := ((((((((l.set q (c9 y 0)).set (q + 1) (c9 y 1)).set (q + 2) (c9 y 2)).set (q + 3) (c9 y 3)).set (q + 4) (c9 y 4)).set (q + 5) (c9 y 5)).set (q + 6) (c9 y 6)).set (q + 7) (c9 y 7)).set (q + 8) (c9 y 8)
theorem sets_get {l : List Value} {q : Nat} {y : Ev} {i : Nat} (hq : q + 8 < l.length) : (sets l q y)[i]? = if q ≤ i ∧ i < q + 9 then some (c9 y (i - q)) else l[i]? := by
  unfold sets
  by_cases h : q ≤ i ∧ i < q + 9
  · rw [if_pos h]
    obtain ⟨r, hr, rfl⟩ : ∃ r, r < 9 ∧ i = q + r := ⟨i - q, by omega, by omega⟩
    rw [Nat.add_sub_cancel_left]
    match r, hr with
    | 0, _ => simp [List.getElem?_set]; omega
    | 1, _ => simp [List.getElem?_set]; omega
    | 2, _ => simp [List.getElem?_set]; omega
    | 3, _ => simp [List.getElem?_set]; omega
    | 4, _ => simp [List.getElem?_set]; omega
    | 5, _ => simp [List.getElem?_set]; omega
    | 6, _ => simp [List.getElem?_set]; omega
    | 7, _ => simp [List.getElem?_set]; omega
    | 8, _ => simp [List.getElem?_set]; omega
  · rw [if_neg h, List.getElem?_set_ne (by omega), List.getElem?_set_ne (by omega), List.getElem?_set_ne (by omega), List.getElem?_set_ne (by omega), List.getElem?_set_ne (by omega), List.getElem?_set_ne (by omega), List.getElem?_set_ne (by omega), List.getElem?_set_ne (by omega), List.getElem?_set_ne (by omega)]
theorem flat_sets {F : Nat → Ev} {n j : Nat} {y : Ev} (hj : j < n) : sets (flat F n) (j * 9) y = flat (upd F j y) n := by
  apply List.ext_getElem?
  intro i
  rw [sets_get (by rw [flat_len]; omega)]
  rcases Nat.lt_or_ge i (n * 9) with hi | hi
  · rw [flat_get hi, flat_get hi]
    unfold upd
    by_cases h : i / 9 = j
    · rw [if_pos (by omega), if_pos h, show i - j * 9 = i % 9 by omega]
    · rw [if_neg (by omega), if_neg h]
  · rw [if_neg (by omega), flat_none hi, flat_none hi]
def setW (w : World) (g q : Nat) (y : Ev) : World := ((((((((w.setCell ⟨g, q, none⟩ (c9 y 0)).setCell ⟨g, q + 1, none⟩ (c9 y 1)).setCell ⟨g, q + 2, none⟩ (c9 y 2)).setCell ⟨g, q + 3, none⟩ (c9 y 3)).setCell ⟨g, q + 4, none⟩ (c9 y 4)).setCell ⟨g, q + 5, none⟩ (c9 y 5)).setCell ⟨g, q + 6, none⟩ (c9 y 6)).setCell ⟨g, q + 7, none⟩ (c9 y 7)).setCell ⟨g, q + 8, none⟩ (c9 y 8)
/-- An address from a block on, unless nothing lies there. -/
def FromLo (lo : Nat) (p : Option Addr) (n : Nat) : Prop := n = 0 ∨ ∀ a, p = some a → lo ≤ a.block
theorem RowF.lo {lo l2 : Nat} {w : World} {p : Option Addr} {n : Nat} {V : Nat → Int} (h : RowF lo w p n V) (hl : l2 ≤ lo) : FromLo l2 p n := by
  obtain ⟨-, h | ⟨b, o, rfl, h0, -⟩⟩ := h
  · exact .inl h
  · exact .inr fun a ha => by cases ha; exact Nat.le_trans hl h0
/-- The row in block g with the events F, each equal to E's, their arguments elsewhere, in new memory for the first j. -/
def JoinRel (w : World) (g n cap : Nat) (E : Nat → Ev) (j : Nat) (wr : World) : Prop :=
  ∃ F : Nat → Ev, wr.ownsRow w.heap.size 25 9 (.slice (some ⟨g, 0, none⟩) n cap) n (flat F n) ∧ Below w.heap.size w wr ∧ (∀ i, i < n → Eqv (F i) (E i)) ∧ (∀ i, i < n → RowNe g wr (F i).ap (F i).al (F i).V) ∧ ∀ i, i < j → FromLo w.heap.size (F i).ap (F i).al
theorem own_below {lo : Nat} {w w2 : World} {v : Value} {n : Nat} {xs : List Value} (h : w.ownsRow lo 25 9 v n xs) (hb : Below w.heap.size w w2) : w2.ownsRow lo 25 9 v n xs :=
  h.kept (row := none) ⟨hb.os, hb.tape, hb.output, hb.size, fun k hk _ => hb.block k hk⟩ (by cases v.ownBlock <;> simp)
theorem join_step {w wr w1 : World} {g n cap j : Nat} {E F : Nat → Ev} {y : Ev} (hj : j < n) (ho : wr.ownsRow w.heap.size 25 9 (.slice (some ⟨g, 0, none⟩) n cap) n (flat F n)) (hb : Below w.heap.size w wr) (hE : ∀ i, i < n → Eqv (F i) (E i)) (hR : ∀ i, i < n → RowNe g wr (F i).ap (F i).al (F i).V) (hL : ∀ i, i < j → FromLo w.heap.size (F i).ap (F i).al)
    (hb1 : Below wr.heap.size wr w1) (hy : Eqv y (F j)) (hyr : RowF wr.heap.size w1 y.ap y.al y.V) : JoinRel w g n cap E (j + 1) (setW w1 g (j * 9) y) := by
  have hg := ho.lt g rfl
  have hw1 : Below w.heap.size w w1 := bl_call hb hb1
  refine ⟨upd F j y, ?_, ?_, ?_, ?_, ?_⟩
  · have h0 := own_below ho hb1
    have h1 := (h0.stored (j * 9) (c9 y 0)).1
    have h2 := (h1.stored (j * 9 + 1) (c9 y 1)).1
    have h3 := (h2.stored (j * 9 + 2) (c9 y 2)).1
    have h4 := (h3.stored (j * 9 + 3) (c9 y 3)).1
    have h5 := (h4.stored (j * 9 + 4) (c9 y 4)).1
    have h6 := (h5.stored (j * 9 + 5) (c9 y 5)).1
    have h7 := (h6.stored (j * 9 + 6) (c9 y 6)).1
    have h8 := (h7.stored (j * 9 + 7) (c9 y 7)).1
    have h9 := (h8.stored (j * 9 + 8) (c9 y 8)).1
    rw [← flat_sets hj]
    exact h9
  · exact bl_set (bl_set (bl_set (bl_set (bl_set (bl_set (bl_set (bl_set (bl_set hw1 hg.1 _) hg.1 _) hg.1 _) hg.1 _) hg.1 _) hg.1 _) hg.1 _) hg.1 _) hg.1 _
  · intro i hi
    unfold upd
    by_cases e : i = j
    · subst e; rw [if_pos rfl]; exact hy.trans (hE i hi)
    · rw [if_neg e]; exact hE i hi
  · intro i hi
    unfold upd
    by_cases e : i = j
    · subst e; rw [if_pos rfl]; exact (hyr.ne hg.2).set.set.set.set.set.set.set.set.set
    · rw [if_neg e]; exact ((hR i hi).on hb1).set.set.set.set.set.set.set.set.set
  · intro i hi
    unfold upd
    by_cases e : i = j
    · subst e; rw [if_pos rfl]; exact hyr.lo hb.size
    · rw [if_neg e]; exact hL i (by omega)
/-- What a slice's value looks like: room for its elements, and a plain address unless there is no room at all. -/
def WL (p : Option Addr) (n c : Nat) : Prop := n ≤ c ∧ (c = 0 ∨ ∃ b o, p = some ⟨b, o, none⟩)
def Fresh (lo : Nat) (p : Option Addr) (n : Nat) (F : Nat → Ev) : Prop := FromLo lo p n ∧ ∀ i, i < n → FromLo lo (F i).ap (F i).al
/-- A list with these events, in memory of its own. -/
def Lists (w : World) (n : Nat) (E : Nat → Ev) (e : Ending) (w' : World) : Prop := ∃ p c F, e = .returned (.slice p n c) ∧ WL p n c ∧ Evs w' p n F ∧ (∀ i, i < n → Eqv (F i) (E i)) ∧ Below w.heap.size w w' ∧ Fresh w.heap.size p n F
theorem Lists.of {w wr : World} {g n cap : Nat} {E : Nat → Ev} {e : Ending} (h : JoinRel w g n cap E n wr) (he : e = .returned (.slice (some ⟨g, 0, none⟩) n cap)) (hn : n ≤ 20000) : Lists w n E e wr := by
  obtain ⟨F, ho, hb, hE, hR, hL⟩ := h
  have hg := ho.lt g rfl
  have hcap : n ≤ cap := by
    rcases ho.2 with ⟨h', -⟩ | ⟨g', cap', cur, h', -, -, hc, -⟩
    · simp at h'
    · simp only [Value.slice.injEq] at h'; omega
  exact ⟨_, cap, F, he, ⟨hcap, .inr ⟨g, 0, rfl⟩⟩, ⟨by omega, .inr ⟨g, 0, rfl, hg.2, Lib.hid fun i hi => ⟨cells_own ho hi, (hR i hi).row⟩⟩⟩, hE, hb, .inr fun a ha => (by cases ha; exact hg.1), hL⟩
theorem joined_any (b o k c : Nat) (pp : Nat → Option Addr) (pn pc : Nat → Nat) (pE : Nat → Nat → Ev) (w : World) (hk : k ≤ 9223372036854775807) (hb : b < w.heap.size)
    (hc : Hid (∀ j, j < k → w.cell? ⟨b, o + j, none⟩ = some (.slice (pp j) (pn j) (pc j)))) (hE : Hid (∀ j, j < k → Evs w (pp j) (pn j) (pE j))) (n : Nat) (E : Nat → Ev) (hn : catN pn k = n) (hNE : catE pn pE k = E) (hN : n ≤ 20000) (hR : ∀ i, i < n → ok w (E i) ∧ (E i).al ≤ 6) :
    Calls Try.prog 36 #[.slice (some ⟨b, o, none⟩) k c] w (Lists w n E) := by
  have CA := Lib.hid (concat_any b o k c pp pn pc pE w hk hb hc hE (by omega))
  have HR := Lib.hid hR
  rw [hn, hNE] at CA
  clear hR hn hNE
  go_enter Try.func36, Try.ntmps36
  go_wp2_with fail
  refine CA.out.mono ?_
  rintro e w1 ⟨v, rfl, ho, hb1⟩
  rcases ho.2 with ⟨rfl, h0⟩ | ⟨g, cap, cur, rfl, hg, hcur, hcap, -⟩
  · subst h0
    clear HR ho
    go_wp2_with fail
    go_loop [10] (fun i => i = .int .i64 0) (fun _ => 0)
    case atStart => rfl
    case round =>
      obtain rfl := hrel
      go_wp2_with fail
      go_ret
      exact ⟨none, 0, fun _ => zeroEv, rfl, ⟨Nat.le_refl _, .inl rfl⟩, ⟨by omega, .inl rfl⟩, fun i hi => absurd hi (Nat.not_lt_zero _), hb1, .inl rfl, fun i hi => absurd hi (Nat.not_lt_zero _)⟩
  · have HO : Hid (JoinRel w g n cap E 0 w1) := Lib.hid ⟨E, ho, hb1, fun i _ => Eqv.refl _, fun i hi => (HR.out i hi).1.ne hb1 hg, fun i hi => absurd hi (Nat.not_lt_zero _)⟩
    have HL := Lib.hid fun i hi => (HR.out i hi).2
    clear ho HR hcur hcap
    go_wp2_with fail
    go_loopw [10] (fun i wr => ∃ j : Nat, j ≤ n ∧ i = .int .i64 j ∧ JoinRel w g n cap E j wr) (fun i _ => n - (intOf i).toNat)
    case atStart => exact ⟨0, Nat.zero_le _, rfl, HO.out⟩
    case round =>
      obtain ⟨j, hj, rfl, HJ⟩ := hrel
      have c1 : (0 : Int) ≤ (j : Int) := by omega
      have n2 : (n : Int) ≤ 20000 := by omega
      rcases Nat.lt_or_ge j n with h | h
      · have c2 : (j : Int) < (n : Int) := by omega
        obtain ⟨F, ho, hbr, hEq, hNe, hLo⟩ := HJ
        have HLo := Lib.hid hLo
        clear hLo
        have hgl := ho.lt g rfl
        have C0 := cells_own ho h
        rw [Nat.zero_add] at C0
        obtain ⟨e0, e1, e2, e3, e4, e5, e6, e7, e8⟩ := C0
        have hal : (F j).al ≤ 6 := by have h1 := (hEq j h).2.2.2.2.2.2.2.2.1; have h2 := HL.out j h; omega
        have HO1 := Lib.hid ho
        have HE1 := Lib.hid hEq
        have HN1 := Lib.hid hNe
        clear ho hEq hNe
        go_wp2_with fail
        refine (copied_any (F j) _ (Row.alloc (HN1.out j h).row) hal).mono ?_
        rintro e w2 ⟨y, rfl, hy, hyr, hb2⟩
        have HY := Lib.hid hy
        have HYR := Lib.hid hyr
        clear hy hyr hal
        have hb3 : Below wr.heap.size wr w2 := by (repeat (first | (with_reducible exact Below.refl _ _) | (with_reducible assumption) | (with_reducible apply bl_alloc) | (with_reducible apply bl_drewN) | (with_reducible apply bl_drew) | (with_reducible refine bl_set ?_ (by first | (simp; done) | (simp; omega)) _) | (with_reducible refine bl_call ?_ (by assumption))))
        have ho2 := own_below HO1.out hb3
        have fz := ho2.frozenAt
        have C2 := cells_own ho2 h
        rw [Nat.zero_add] at C2
        obtain ⟨g0, g1, g2, g3, g4, g5, g6, g7, g8⟩ := C2
        have HS : Hid (JoinRel w g n cap E (j + 1) (setW w2 g (j * 9) y)) := Lib.hid (join_step h HO1.out hbr HE1.out HN1.out HLo.out hb3 HY.out (by
          obtain ⟨hl, hr | ⟨b, o, hp, h0, h1, h2⟩⟩ := HYR.out
          · exact ⟨hl, .inl hr⟩
          · exact ⟨hl, .inr ⟨b, o, hp, by simp at h0; omega, h1, h2⟩⟩))
        clear e0 e1 e2 e3 e4 e5 e6 e7 e8 ho2
        go_wp2_with fail
        go_roundw
        case rel => exact ⟨j + 1, by omega, by go_num, HS.out⟩
        case measure => simp [intOf]; omega
      · obtain rfl : n = j := by omega
        have H3 := Lib.hid HJ
        clear HJ
        go_wp2_with fail
        go_ret
        exact Lists.of H3.out rfl hN
end Go.Proofs.Ytmijjpecgcgkgaa.Ag
