/-
  The contracts of the law's own measure of an expression: left and few.
-/
import Derived.Test.YtfkenbdfakjeoaaEBase
namespace Go.Proofs.Ytfkenbdfakjeoaa.Ex
open Go.RowKit
set_option maxHeartbeats 1000000
set_option linter.unusedVariables false
mutual
def lf : Ex → Int → Int → Int
  | .mk _ _ _ l, a, b => if a < 1 ∨ b < 1 then -1 else lfL l (a - 1) (b - 1)
def lfL : List Ex → Int → Int → Int
  | [], a, _ => a
  | x :: t, a, b => if lf x a b < 0 then -1 else lfL t (lf x a b) b
end
theorem lf_one {o n : Int} {s : ByteArray} {l : List Ex} {a b : Int} : lf (.mk o s n l) a b = if a < 1 ∨ b < 1 then -1 else lfL l (a - 1) (b - 1) := by rw [lf]
theorem lfL_neg : ∀ {p q : List Ex} {a b : Int}, 0 ≤ a → lfL p a b < 0 → lfL (p ++ q) a b = -1
  | [], q, a, b, h0, h => by rw [lfL] at h; omega
  | x :: t, q, a, b, h0, h => by
    rw [List.cons_append, lfL]
    rw [lfL] at h
    by_cases g : lf x a b < 0
    · rw [if_pos g]
    · rw [if_neg g] at h ⊢
      exact lfL_neg (by omega) h
theorem lfL_pos : ∀ {p q : List Ex} {a b : Int}, 0 ≤ lfL p a b → lfL (p ++ q) a b = lfL q (lfL p a b) b
  | [], q, a, b, h => by rw [List.nil_append, lfL]
  | x :: t, q, a, b, h => by
    rw [List.cons_append, lfL, lfL]
    rw [lfL] at h
    by_cases g : lf x a b < 0
    · rw [if_pos g] at h; omega
    · rw [if_neg g] at h
      rw [if_neg g, if_neg g]
      exact lfL_pos h
mutual
theorem lf_le : ∀ (e : Ex) (a b : Int), 0 ≤ lf e a b → lf e a b + cnt e = a ∧ (dep e : Int) ≤ b
  | .mk o s n l, a, b, h => by
    rw [lf_one] at h ⊢
    by_cases g : a < 1 ∨ b < 1
    · rw [if_pos g] at h; omega
    · rw [if_neg g] at h ⊢
      obtain ⟨h1, h2⟩ := lfL_le l (a - 1) (b - 1) h
      rw [cnt_one, depth_one]
      rcases h2 with h2 | rfl
      · omega
      · rw [depL]; omega
theorem lfL_le : ∀ (l : List Ex) (a b : Int), 0 ≤ lfL l a b → lfL l a b + cntL l = a ∧ ((depL l : Int) ≤ b ∨ l = [])
  | [], a, b, h => by rw [lfL, cntL]; exact ⟨by omega, .inr rfl⟩
  | x :: t, a, b, h => by
    rw [lfL] at h ⊢
    by_cases g : lf x a b < 0
    · rw [if_pos g] at h; omega
    · rw [if_neg g] at h ⊢
      obtain ⟨h1, h2⟩ := lf_le x a b (by omega)
      obtain ⟨h3, h4⟩ := lfL_le t (lf x a b) b h
      rw [cntL, depL]
      refine ⟨by omega, .inl ?_⟩
      rcases h4 with h4 | rfl
      · omega
      · rw [depL]; omega
end
theorem lf_ge (e : Ex) (a b : Int) : -1 ≤ lf e a b := by
  have key : ∀ (l : List Ex) (a b : Int), -1 ≤ a → (∀ x ∈ l, ∀ a b, -1 ≤ lf x a b) → -1 ≤ lfL l a b := by
    intro l
    induction l with
    | nil => intro a b h _; rw [lfL]; exact h
    | cons x t ih =>
      intro a b h hx
      rw [lfL]
      by_cases g : lf x a b < 0
      · rw [if_pos g]; omega
      · rw [if_neg g]
        exact ih _ _ (by omega) fun z hz => hx z (List.mem_cons_of_mem _ hz)
  induction e using Ex.ind generalizing a b with
  | h o s n l ih =>
    rw [lf_one]
    by_cases g : a < 1 ∨ b < 1
    · rw [if_pos g]; omega
    · rw [if_neg g]
      exact key l _ _ (by omega) fun x hx a b => ih x hx a b
theorem left_step {l : List Ex} {k : Nat} {x : Ex} {a b : Int} (hx : l[k]? = some x) (h : 0 ≤ lfL (l.take k) a b) : lfL (l.take (k + 1)) a b = if lf x (lfL (l.take k) a b) b < 0 then -1 else lf x (lfL (l.take k) a b) b := by
  rw [take_one hx, lfL_pos h, lfL, lfL]
theorem left_stop {l : List Ex} {k : Nat} {x : Ex} {a b : Int} (hx : l[k]? = some x) (h0 : 0 ≤ a) (h : 0 ≤ lfL (l.take k) a b) (g : lf x (lfL (l.take k) a b) b < 0) : lfL l a b = -1 := by
  have h1 := left_step hx h
  rw [if_pos g] at h1
  have h2 := lfL_neg (p := l.take (k + 1)) (q := l.drop (k + 1)) h0 (by rw [h1]; decide)
  rwa [List.take_append_drop] at h2
theorem left_cap {l : List Ex} {a b : Int} (h : 0 ≤ lfL l a b) : lfL l a b ≤ a := by
  have := (lfL_le l a b h).1
  omega
set_option maxRecDepth 100000 in
theorem left_any (e : Ex) : ∀ (p : Option Addr) (m c : Nat) (w : World) (a b : Int), In w e p m → 0 ≤ a → a ≤ 1000 → 0 ≤ b → b ≤ 1000 → Calls Try.prog 33 #[.agg #[.int .i64 e.o, .string e.s, .int .i64 e.n, .slice p m c], .int .i64 a, .int .i64 b] w (Gives (.int .i64 (lf e a b)) w) := by
  induction e using Ex.ind with
  | h o s n l ih =>
    intro p m c w a b h ha0 ha1 hb0 hb1
    have HH := Lib.hid h
    have HI := Lib.hid ih
    obtain ⟨hl, hm⟩ := h.len
    have HL := Lib.hid hl
    simp only [Ex.o, Ex.s, Ex.n]
    rw [lf_one]
    clear ih h hl
    by_cases g1 : a < 1
    · rw [if_pos (.inl g1)]
      go_enter Try.func33, Try.ntmps33
      go_wp2_with fail
      go_ret
      exact ⟨rfl, by (repeat (first | (with_reducible exact Below.refl _ _) | (with_reducible assumption) | (with_reducible apply bl_alloc) | (with_reducible apply bl_drewN) | (with_reducible apply bl_drew) | (with_reducible refine bl_set ?_ (by first | (simp; done) | (simp; omega)) _) | (with_reducible refine bl_call ?_ (by assumption))))⟩
    by_cases g2 : b < 1
    · rw [if_pos (.inr g2)]
      have g1' : 1 ≤ a := by omega
      clear g1
      go_enter Try.func33, Try.ntmps33
      go_wp2_with fail
      go_ret
      exact ⟨rfl, by (repeat (first | (with_reducible exact Below.refl _ _) | (with_reducible assumption) | (with_reducible apply bl_alloc) | (with_reducible apply bl_drewN) | (with_reducible apply bl_drew) | (with_reducible refine bl_set ?_ (by first | (simp; done) | (simp; omega)) _) | (with_reducible refine bl_call ?_ (by assumption))))⟩
    rw [if_neg (by omega)]
    have g1' : 1 ≤ a := by omega
    have g2' : 1 ≤ b := by omega
    clear g1 g2
    obtain ⟨A, hA⟩ : ∃ A, a - 1 = A := ⟨_, rfl⟩
    obtain ⟨B, hB⟩ : ∃ B, b - 1 = B := ⟨_, rfl⟩
    rw [hA, hB]
    have hA0 : 0 ≤ A := by omega
    have hA1 : A ≤ 1000 := by omega
    have hB0 : 0 ≤ B := by omega
    have hB1 : B ≤ 1000 := by omega
    have HA0 := Lib.hid hA0
    go_enter Try.func33, Try.ntmps33
    go_wp2_with fail
    go_loopw [1, 7] (fun d i wr => ∃ (k : Nat) (v : Int), k ≤ m ∧ d = .int .i64 v ∧ Hid (lfL (l.take k) A B = v) ∧ 0 ≤ v ∧ v ≤ 1000 ∧ i = .int .i64 (k : Nat) ∧ Hid (Below w.heap.size w wr) ∧ Hid (box4 wr w.heap.size o s n p m c)) (fun d i _ => m - (intOf i).toNat)
    case atStart => exact ⟨0, A, Nat.zero_le _, rfl, Lib.hid (by rw [List.take_zero, lfL]), hA0, hA1, rfl, Lib.hid (by (repeat (first | (with_reducible exact Below.refl _ _) | (with_reducible assumption) | (with_reducible apply bl_alloc) | (with_reducible apply bl_drewN) | (with_reducible apply bl_drew) | (with_reducible refine bl_set ?_ (by first | (simp; done) | (simp; omega)) _) | (with_reducible refine bl_call ?_ (by assumption))))), Lib.hid box_new⟩
    case round =>
      obtain ⟨k, v, hk, rfl, HV, hv0, hv1, rfl, HW, HB4⟩ := hrel
      obtain ⟨b0, b1, b2, b3⟩ := HB4.out
      have k0 : (0 : Int) ≤ (k : Int) := by omega
      rcases Nat.lt_or_ge k m with h | h
      · have k1 : (k : Int) < (m : Int) := by omega
        obtain ⟨b, o', rfl, -, hG, hcell⟩ := HH.out.kids (by omega)
        have hkl : k < l.length := by rw [HL.out]; omega
        obtain ⟨q, j, c', hc4, hkin⟩ := hcell.out k hkl
        have hmem : l[k] ∈ l := List.getElem_mem hkl
        have hgx : l[k]? = some l[k] := List.getElem?_eq_getElem hkl
        obtain ⟨x, hx⟩ : ∃ x, l[k] = x := ⟨_, rfl⟩
        rw [hx] at hc4 hkin hmem hgx
        obtain ⟨e0, e1, e2, e3⟩ := hc4.on HW.out hG
        have HKIN := Lib.hid hkin
        have HX := Lib.hid hgx
        have HM := Lib.hid hmem
        clear hcell hc4 hkin hx hmem hgx hkl
        have HS := Lib.hid (left_step (a := A) (b := B) HX.out (by rw [HV.out]; exact hv0))
        have HT := Lib.hid (left_stop (a := A) (b := B) HX.out HA0.out (by rw [HV.out]; exact hv0))
        have HI1 := HI.out x HM.out q j c' wr v B (HKIN.out.on HW.out) hv0 hv1 hB0 hB1
        have hg := lf_ge x v B
        have hle := lf_le x v B
        rw [HV.out] at HS HT
        obtain ⟨E, hE⟩ : ∃ E, lf x v B = E := ⟨_, rfl⟩
        rw [hE] at HI1 HS HT hg hle
        clear hE
        go_wp2_with fail
        refine HI1.mono ?_
        rintro e w2 ⟨rfl, hb2⟩
        have HW2 : Hid (Below w.heap.size w w2) := Lib.hid (by have HBB := HW.out; (repeat (first | (with_reducible exact Below.refl _ _) | (with_reducible assumption) | (with_reducible apply bl_alloc) | (with_reducible apply bl_drewN) | (with_reducible apply bl_drew) | (with_reducible refine bl_set ?_ (by first | (simp; done) | (simp; omega)) _) | (with_reducible refine bl_call ?_ (by assumption)))))
        have HB5 := Lib.hid (HB4.out.on hb2)
        clear hb2 HI1
        by_cases hE0 : E < 0
        · have HR := Lib.hid (HT.out hE0)
          clear hle hg
          go_wp2_with fail
          go_ret
          exact ⟨by rw [HR.out]; rfl, HW2.out⟩
        · have hE1 : 0 ≤ E := by omega
          have hE2 : E ≤ 1000 := by have := hle hE1; omega
          have HR := Lib.hid (HS.out.trans (if_neg hE0))
          clear hE0 hle hg
          go_wp2_with fail
          go_roundw
          case rel => exact ⟨k + 1, E, by omega, rfl, HR, hE1, hE2, by go_num, HW2, HB5⟩
          case measure => simp [intOf]; omega
      · obtain rfl : m = k := by omega
        have HT : Hid (l.take m = l) := Lib.hid (List.take_of_length_le (by rw [HL.out]; exact Nat.le_refl _))
        rw [HT.out] at HV
        go_wp2_with fail
        go_ret
        exact ⟨by rw [HV.out]; rfl, HW.out⟩
def fewE (e : Ex) : Bool := decide (0 ≤ lf e 200 40)
theorem few_cap {e : Ex} (h : fewE e = true) : cnt e ≤ 200 ∧ dep e ≤ 40 := by
  have h1 := of_decide_eq_true h
  have h2 := lf_le e 200 40 h1
  omega
set_option maxRecDepth 100000 in
theorem few_any (e : Ex) (p : Option Addr) (m c : Nat) (w : World) (h : In w e p m) : Calls Try.prog 10 #[.agg #[.int .i64 e.o, .string e.s, .int .i64 e.n, .slice p m c]] w (Gives (.bool (fewE e)) w) := by
  obtain ⟨o, s, n, l⟩ := e
  have H := Lib.hid (left_any (.mk o s n l) p m c)
  have HH := Lib.hid h
  have HV := Lib.hid (show fewE (.mk o s n l) = decide (0 ≤ lf (.mk o s n l) 200 40) from rfl)
  obtain ⟨v, hv⟩ : ∃ v, lf (.mk o s n l) 200 40 = v := ⟨_, rfl⟩
  rw [hv] at HV
  rw [HV.out]
  have HE := Lib.hid hv
  simp only [Ex.o, Ex.s, Ex.n] at H ⊢
  clear h hv
  go_enter Try.func10, Try.ntmps10
  go_wp2_with fail
  refine (H.out _ 200 40 (HH.out.on (by (repeat (first | (with_reducible exact Below.refl _ _) | (with_reducible assumption) | (with_reducible apply bl_alloc) | (with_reducible apply bl_drewN) | (with_reducible apply bl_drew) | (with_reducible refine bl_set ?_ (by first | (simp; done) | (simp; omega)) _) | (with_reducible refine bl_call ?_ (by assumption)))))) (by omega) (by omega) (by omega) (by omega)).mono ?_
  rintro e w2 ⟨rfl, hb2⟩
  rw [HE.out]
  go_wp2_with fail
  go_ret
  exact ⟨rfl, by (repeat (first | (with_reducible exact Below.refl _ _) | (with_reducible assumption) | (with_reducible apply bl_alloc) | (with_reducible apply bl_drewN) | (with_reducible apply bl_drew) | (with_reducible refine bl_set ?_ (by first | (simp; done) | (simp; omega)) _) | (with_reducible refine bl_call ?_ (by assumption))))⟩
end Go.Proofs.Ytfkenbdfakjeoaa.Ex
