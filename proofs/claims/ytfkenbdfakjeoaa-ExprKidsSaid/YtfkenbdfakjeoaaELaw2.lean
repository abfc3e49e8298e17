/-
  The law of the parts, walked.
-/
import Derived.Test.YtfkenbdfakjeoaaEAwB
import Derived.Test.YtfkenbdfakjeoaaELaw1
namespace Go.Proofs.Ytfkenbdfakjeoaa.Ex
open Go.RowKit
open Go.Proofs.Ytfkenbdfakjeoaa.Na (bs bs_inj chk)
set_option maxHeartbeats 4000000
set_option linter.unusedVariables false
set_option linter.unusedSimpArgs false
set_option maxRecDepth 100000 in
theorem exprKids_walk (HA : ∀ w, Calls Try.prog 11 #[] w (Gives (.bool true) w)) (e : Ex) (p : Option Addr) (m c : Nat) (w : World) (h : In w e p m) (hs : Sz e) : Calls Try.prog 4 #[.agg #[.int .i64 e.o, .string e.s, .int .i64 e.n, .slice p m c]] w (Gives (.bool true) w) := by
  have HH := Lib.hid h
  cases hf : fewE e with
  | false =>
    have HF := Lib.hid (fun W hi => few_gives hf p m c W hi)
    obtain ⟨o, s, nn, kl⟩ := e
    simp only [Ex.o, Ex.s, Ex.n] at HF ⊢
    clear h hs hf
    go_enter Try.func4, Try.ntmps4
    go_wp2_with fail
    refine (HF.out _ (HH.out.on (by (repeat (first | (with_reducible exact Below.refl _ _) | (with_reducible assumption) | (with_reducible apply bl_alloc) | (with_reducible apply bl_drewN) | (with_reducible apply bl_drew) | (with_reducible refine bl_set ?_ (by first | (simp; done) | (simp; omega)) _) | (with_reducible refine bl_call ?_ (by assumption))))))).mono ?_
    rintro e w1 ⟨rfl, hb1⟩
    have B1 : Below w.heap.size w w1 := by (repeat (first | (with_reducible exact Below.refl _ _) | (with_reducible assumption) | (with_reducible apply bl_alloc) | (with_reducible apply bl_drewN) | (with_reducible apply bl_drew) | (with_reducible refine bl_set ?_ (by first | (simp; done) | (simp; omega)) _) | (with_reducible refine bl_call ?_ (by assumption))))
    go_wp2_with fail
    refine (HA _).mono ?_
    rintro e w2 ⟨rfl, hb2⟩
    go_wp2_with fail
    go_ret
    exact ⟨rfl, by (repeat (first | (with_reducible exact Below.refl _ _) | (with_reducible assumption) | (with_reducible apply bl_alloc) | (with_reducible apply bl_drewN) | (with_reducible apply bl_drew) | (with_reducible refine bl_set ?_ (by first | (simp; done) | (simp; omega)) _) | (with_reducible refine bl_call ?_ (by assumption))))⟩
  | true =>
    have hc := (few_cap hf).1
    have HF := Lib.hid (fun W hi => few_gives hf p m c W hi)
    have H1 := fun W hi => check_any e p m c W hi hs (by omega)
    have H2 := fun W hi => code_any e p m c W hi hs (by omega)
    have H3 := fun W hi => count_any e p m c W hi hs (by omega)
    have H4 := fun W hi => depth_any e p m c W hi (by omega)
    obtain ⟨V1, hV1⟩ : ∃ V, chkE false e = V := ⟨_, rfl⟩
    obtain ⟨V2, hV2⟩ : ∃ V, chkE true e = V := ⟨_, rfl⟩
    simp only [hV1, hV2] at H1 H2
    obtain ⟨o, s, n, l⟩ := e
    have HK1 := Lib.hid (fun (z : V1 = 0) x (hx : x ∈ l) => chk_kid hx (hV1.trans z))
    have HK2 := Lib.hid (fun (z : V2 = 0) x (hx : x ∈ l) => chk_kid hx (hV2.trans z))
    have HS := Lib.hid (fun x (hx : x ∈ l) => hs.kid hx)
    rw [cnt_one] at hc
    have HC : Hid (cntL l + 1 ≤ 1000000) := Lib.hid (by omega)
    obtain ⟨hl, hm⟩ := h.len
    have HL := Lib.hid hl
    simp only [Ex.o, Ex.s, Ex.n] at HF H1 H2 H3 H4 ⊢
    rw [cnt_one] at H3
    rw [depth_one] at H4
    clear h hs hf hV1 hV2 hc hl
    go_enter Try.func4, Try.ntmps4
    go_wp2_with fail
    refine (HF.out _ (HH.out.on (by (repeat (first | (with_reducible exact Below.refl _ _) | (with_reducible assumption) | (with_reducible apply bl_alloc) | (with_reducible apply bl_drewN) | (with_reducible apply bl_drew) | (with_reducible refine bl_set ?_ (by first | (simp; done) | (simp; omega)) _) | (with_reducible refine bl_call ?_ (by assumption))))))).mono ?_
    rintro e w1 ⟨rfl, hb1⟩
    have A1 := Lib.hid (box4.on hb1 box_new)
    have B1 : Hid (Below w.heap.size w w1) := Lib.hid (by (repeat (first | (with_reducible exact Below.refl _ _) | (with_reducible assumption) | (with_reducible apply bl_alloc) | (with_reducible apply bl_drewN) | (with_reducible apply bl_drew) | (with_reducible refine bl_set ?_ (by first | (simp; done) | (simp; omega)) _) | (with_reducible refine bl_call ?_ (by assumption)))))
    clear hb1
    go_wp2_with fail
    go_loopw [3, 4, 5] (fun a d i wr => ∃ k : Nat, k ≤ m ∧ a = .int .i64 ((cntL (l.take k) + 1 : Nat)) ∧ d = .int .i64 (depL (l.take k) : Nat) ∧ i = .int .i64 (k : Nat) ∧ Hid (Below w.heap.size w wr) ∧ Hid (box4 wr w.heap.size o s n p m c)) (fun _ _ i _ => m - (intOf i).toNat)
    case atStart => exact ⟨0, Nat.zero_le _, rfl, rfl, rfl, B1, A1⟩
    case round =>
      obtain ⟨k, hk, rfl, rfl, rfl, HW, HB4⟩ := hrel
      obtain ⟨b0, b1, b2, b3⟩ := HB4.out
      have k0 : (0 : Int) ≤ (k : Int) := by omega
      rcases Nat.lt_or_ge k m with h | h
      · have k1 : (k : Int) < (m : Int) := by omega
        obtain ⟨b, o', rfl, -, hG, hcell⟩ := HH.out.kids (by omega)
        have hkl : k < l.length := by rw [HL.out]; omega
        obtain ⟨q, j, c', hc4, hkin⟩ := hcell.out k hkl
        have hmem : l[k] ∈ l := List.getElem_mem hkl
        have hgx : l[k]? = some l[k] := List.getElem?_eq_getElem hkl
        obtain ⟨x, hx⟩ : ∃ x, l[k] = x := ⟨_, rfl⟩
        rw [hx] at hc4 hkin hmem hgx
        have HCL := Lib.hid (hc4.on HW.out hG)
        have hbr : b < wr.heap.size := Nat.lt_of_lt_of_le hG HW.out.size
        have HKIN := Lib.hid hkin
        have HWW : Hid (Below wr.heap.size wr wr) := Lib.hid (Below.refl _ _)
        obtain ⟨d1, d2⟩ := dep_cap k hmem HC.out
        obtain ⟨d3, d4⟩ := cnt_cap k hgx HC.out
        have HKN := Lib.hid (cntL_take hgx)
        have HKD := Lib.hid (depL_take hgx)
        have X1 := fun (z : V1 = 0) W hi => check_at (HK1.out z x hmem) (HS.out x hmem) d4 (p := q) (m := j) (c := c') (w := W) hi
        have X2 := fun (z : V2 = 0) W hi => code_at (HK2.out z x hmem) (HS.out x hmem) d4 (p := q) (m := j) (c := c') (w := W) hi
        have X3 := fun W hi => count_any x q j c' W hi (HS.out x hmem) d4
        have X4 := fun W hi => depth_any x q j c' W hi d4
        obtain ⟨D, hD⟩ : ∃ D, depL (l.take k) = D := ⟨_, rfl⟩
        obtain ⟨E, hE⟩ : ∃ E, dep x = E := ⟨_, rfl⟩
        obtain ⟨F, hF⟩ : ∃ F, cntL (l.take k) = F := ⟨_, rfl⟩
        obtain ⟨G, hGx⟩ : ∃ G, cnt x = G := ⟨_, rfl⟩
        rw [hD] at d1 HKD ⊢
        rw [hE] at d2 HKD X4
        rw [hF] at d3 HKN ⊢
        rw [hGx] at d3 HKN X3
        clear hD hE hF hGx hcell hc4 hkin hx hmem hgx hkl hG d4
        go_wp2_with fail
        by_cases z1 : V1 = 0
        · subst z1
          replace X1 := X1 rfl
          by_cases z2 : V2 = 0
          · subst z2
            replace X2 := X2 rfl
            refine (H1 _ (HH.out.on (by have HBB := HW.out; (repeat (first | (with_reducible exact Below.refl _ _) | (with_reducible assumption) | (with_reducible apply bl_alloc) | (with_reducible apply bl_drewN) | (with_reducible apply bl_drew) | (with_reducible refine bl_set ?_ (by first | (simp; done) | (simp; omega)) _) | (with_reducible refine bl_call ?_ (by assumption))))))).mono ?_
            rintro e w2 ⟨rfl, hb2⟩
            have Hw2 : Hid (Below w.heap.size w w2) := Lib.hid (by have HBB := HW.out; (repeat (first | (with_reducible exact Below.refl _ _) | (with_reducible assumption) | (with_reducible apply bl_alloc) | (with_reducible apply bl_drewN) | (with_reducible apply bl_drew) | (with_reducible refine bl_set ?_ (by first | (simp; done) | (simp; omega)) _) | (with_reducible refine bl_call ?_ (by assumption)))))
            obtain ⟨a0, a1, a2, a3⟩ := HB4.out.on (show Below wr.heap.size wr w2 by (repeat (first | (with_reducible exact Below.refl _ _) | (with_reducible assumption) | (with_reducible apply bl_alloc) | (with_reducible apply bl_drewN) | (with_reducible apply bl_drew) | (with_reducible refine bl_set ?_ (by first | (simp; done) | (simp; omega)) _) | (with_reducible refine bl_call ?_ (by assumption)))))
            obtain ⟨e0, e1, e2, e3⟩ := cell4.on (show Below wr.heap.size wr w2 by (repeat (first | (with_reducible exact Below.refl _ _) | (with_reducible assumption) | (with_reducible apply bl_alloc) | (with_reducible apply bl_drewN) | (with_reducible apply bl_drew) | (with_reducible refine bl_set ?_ (by first | (simp; done) | (simp; omega)) _) | (with_reducible refine bl_call ?_ (by assumption))))) hbr HCL.out
            go_wp2_with fail
            refine (X1 _ (HKIN.out.on (by have HBB := Hw2.out; (repeat (first | (with_reducible exact Below.refl _ _) | (with_reducible assumption) | (with_reducible apply bl_alloc) | (with_reducible apply bl_drewN) | (with_reducible apply bl_drew) | (with_reducible refine bl_set ?_ (by first | (simp; done) | (simp; omega)) _) | (with_reducible refine bl_call ?_ (by assumption))))))).mono ?_
            rintro e w3 ⟨rfl, hb3⟩
            have Hw3 : Hid (Below w.heap.size w w3) := Lib.hid (by have HBB := Hw2.out; (repeat (first | (with_reducible exact Below.refl _ _) | (with_reducible assumption) | (with_reducible apply bl_alloc) | (with_reducible apply bl_drewN) | (with_reducible apply bl_drew) | (with_reducible refine bl_set ?_ (by first | (simp; done) | (simp; omega)) _) | (with_reducible refine bl_call ?_ (by assumption)))))
            obtain ⟨a0, a1, a2, a3⟩ := HB4.out.on (show Below wr.heap.size wr w3 by (repeat (first | (with_reducible exact Below.refl _ _) | (with_reducible assumption) | (with_reducible apply bl_alloc) | (with_reducible apply bl_drewN) | (with_reducible apply bl_drew) | (with_reducible refine bl_set ?_ (by first | (simp; done) | (simp; omega)) _) | (with_reducible refine bl_call ?_ (by assumption)))))
            obtain ⟨e0, e1, e2, e3⟩ := cell4.on (show Below wr.heap.size wr w3 by (repeat (first | (with_reducible exact Below.refl _ _) | (with_reducible assumption) | (with_reducible apply bl_alloc) | (with_reducible apply bl_drewN) | (with_reducible apply bl_drew) | (with_reducible refine bl_set ?_ (by first | (simp; done) | (simp; omega)) _) | (with_reducible refine bl_call ?_ (by assumption))))) hbr HCL.out
            go_wp2_with fail
            refine (H2 _ (HH.out.on (by have HBB := Hw3.out; (repeat (first | (with_reducible exact Below.refl _ _) | (with_reducible assumption) | (with_reducible apply bl_alloc) | (with_reducible apply bl_drewN) | (with_reducible apply bl_drew) | (with_reducible refine bl_set ?_ (by first | (simp; done) | (simp; omega)) _) | (with_reducible refine bl_call ?_ (by assumption))))))).mono ?_
            rintro e w4 ⟨rfl, hb4⟩
            have Hw4 : Hid (Below w.heap.size w w4) := Lib.hid (by have HBB := Hw3.out; (repeat (first | (with_reducible exact Below.refl _ _) | (with_reducible assumption) | (with_reducible apply bl_alloc) | (with_reducible apply bl_drewN) | (with_reducible apply bl_drew) | (with_reducible refine bl_set ?_ (by first | (simp; done) | (simp; omega)) _) | (with_reducible refine bl_call ?_ (by assumption)))))
            obtain ⟨a0, a1, a2, a3⟩ := HB4.out.on (show Below wr.heap.size wr w4 by (repeat (first | (with_reducible exact Below.refl _ _) | (with_reducible assumption) | (with_reducible apply bl_alloc) | (with_reducible apply bl_drewN) | (with_reducible apply bl_drew) | (with_reducible refine bl_set ?_ (by first | (simp; done) | (simp; omega)) _) | (with_reducible refine bl_call ?_ (by assumption)))))
            obtain ⟨e0, e1, e2, e3⟩ := cell4.on (show Below wr.heap.size wr w4 by (repeat (first | (with_reducible exact Below.refl _ _) | (with_reducible assumption) | (with_reducible apply bl_alloc) | (with_reducible apply bl_drewN) | (with_reducible apply bl_drew) | (with_reducible refine bl_set ?_ (by first | (simp; done) | (simp; omega)) _) | (with_reducible refine bl_call ?_ (by assumption))))) hbr HCL.out
            go_wp2_with fail
            refine (X2 _ (HKIN.out.on (by have HBB := Hw4.out; (repeat (first | (with_reducible exact Below.refl _ _) | (with_reducible assumption) | (with_reducible apply bl_alloc) | (with_reducible apply bl_drewN) | (with_reducible apply bl_drew) | (with_reducible refine bl_set ?_ (by first | (simp; done) | (simp; omega)) _) | (with_reducible refine bl_call ?_ (by assumption))))))).mono ?_
            rintro e w5 ⟨rfl, hb5⟩
            have Hw5 : Hid (Below w.heap.size w w5) := Lib.hid (by have HBB := Hw4.out; (repeat (first | (with_reducible exact Below.refl _ _) | (with_reducible assumption) | (with_reducible apply bl_alloc) | (with_reducible apply bl_drewN) | (with_reducible apply bl_drew) | (with_reducible refine bl_set ?_ (by first | (simp; done) | (simp; omega)) _) | (with_reducible refine bl_call ?_ (by assumption)))))
            obtain ⟨a0, a1, a2, a3⟩ := HB4.out.on (show Below wr.heap.size wr w5 by (repeat (first | (with_reducible exact Below.refl _ _) | (with_reducible assumption) | (with_reducible apply bl_alloc) | (with_reducible apply bl_drewN) | (with_reducible apply bl_drew) | (with_reducible refine bl_set ?_ (by first | (simp; done) | (simp; omega)) _) | (with_reducible refine bl_call ?_ (by assumption)))))
            obtain ⟨e0, e1, e2, e3⟩ := cell4.on (show Below wr.heap.size wr w5 by (repeat (first | (with_reducible exact Below.refl _ _) | (with_reducible assumption) | (with_reducible apply bl_alloc) | (with_reducible apply bl_drewN) | (with_reducible apply bl_drew) | (with_reducible refine bl_set ?_ (by first | (simp; done) | (simp; omega)) _) | (with_reducible refine bl_call ?_ (by assumption))))) hbr HCL.out
            go_wp2_with fail
            refine (X3 _ (HKIN.out.on (by have HBB := Hw5.out; (repeat (first | (with_reducible exact Below.refl _ _) | (with_reducible assumption) | (with_reducible apply bl_alloc) | (with_reducible apply bl_drewN) | (with_reducible apply bl_drew) | (with_reducible refine bl_set ?_ (by first | (simp; done) | (simp; omega)) _) | (with_reducible refine bl_call ?_ (by assumption))))))).mono ?_
            rintro e w8 ⟨rfl, hb8⟩
            have Hw8 : Hid (Below w.heap.size w w8) := Lib.hid (by have HBB := Hw5.out; (repeat (first | (with_reducible exact Below.refl _ _) | (with_reducible assumption) | (with_reducible apply bl_alloc) | (with_reducible apply bl_drewN) | (with_reducible apply bl_drew) | (with_reducible refine bl_set ?_ (by first | (simp; done) | (simp; omega)) _) | (with_reducible refine bl_call ?_ (by assumption)))))
            obtain ⟨a0, a1, a2, a3⟩ := HB4.out.on (show Below wr.heap.size wr w8 by (repeat (first | (with_reducible exact Below.refl _ _) | (with_reducible assumption) | (with_reducible apply bl_alloc) | (with_reducible apply bl_drewN) | (with_reducible apply bl_drew) | (with_reducible refine bl_set ?_ (by first | (simp; done) | (simp; omega)) _) | (with_reducible refine bl_call ?_ (by assumption)))))
            obtain ⟨e0, e1, e2, e3⟩ := cell4.on (show Below wr.heap.size wr w8 by (repeat (first | (with_reducible exact Below.refl _ _) | (with_reducible assumption) | (with_reducible apply bl_alloc) | (with_reducible apply bl_drewN) | (with_reducible apply bl_drew) | (with_reducible refine bl_set ?_ (by first | (simp; done) | (simp; omega)) _) | (with_reducible refine bl_call ?_ (by assumption))))) hbr HCL.out
            go_wp2_with fail
            refine (X4 _ (HKIN.out.on Hw8.out)).mono ?_
            rintro e w9 ⟨rfl, hb9⟩
            have HW9 : Hid (Below w.heap.size w w9) := Lib.hid (by have HBB := Hw8.out; (repeat (first | (with_reducible exact Below.refl _ _) | (with_reducible assumption) | (with_reducible apply bl_alloc) | (with_reducible apply bl_drewN) | (with_reducible apply bl_drew) | (with_reducible refine bl_set ?_ (by first | (simp; done) | (simp; omega)) _) | (with_reducible refine bl_call ?_ (by assumption)))))
            have HB9 := Lib.hid (HB4.out.on (show Below wr.heap.size wr w9 by (repeat (first | (with_reducible exact Below.refl _ _) | (with_reducible assumption) | (with_reducible apply bl_alloc) | (with_reducible apply bl_drewN) | (with_reducible apply bl_drew) | (with_reducible refine bl_set ?_ (by first | (simp; done) | (simp; omega)) _) | (with_reducible refine bl_call ?_ (by assumption))))))
            clear HWW hbr a0 a1 a2 a3 e0 e1 e2 e3
            by_cases hDE : D < E
            · have m1 : (D : Int) < (E : Int) := by omega
              go_wp2_with fail
              go_roundw
              case rel => exact ⟨k + 1, by omega, by rw [HKN.out]; go_num, by rw [HKD.out]; go_num, by go_num, HW9, HB9⟩
              case measure => simp [intOf]; omega
            · have m1 : (E : Int) ≤ (D : Int) := by omega
              go_wp2_with fail
              go_roundw
              case rel => exact ⟨k + 1, by omega, by rw [HKN.out]; go_num, by rw [HKD.out]; go_num, by go_num, HW9, HB9⟩
              case measure => simp [intOf]; omega
          · have t2 : (V2 == 0) = false := beq_eq_false_iff_ne.2 z2
            refine (H1 _ (HH.out.on (by have HBB := HW.out; (repeat (first | (with_reducible exact Below.refl _ _) | (with_reducible assumption) | (with_reducible apply bl_alloc) | (with_reducible apply bl_drewN) | (with_reducible apply bl_drew) | (with_reducible refine bl_set ?_ (by first | (simp; done) | (simp; omega)) _) | (with_reducible refine bl_call ?_ (by assumption))))))).mono ?_
            rintro e w2 ⟨rfl, hb2⟩
            have Hw2 : Hid (Below w.heap.size w w2) := Lib.hid (by have HBB := HW.out; (repeat (first | (with_reducible exact Below.refl _ _) | (with_reducible assumption) | (with_reducible apply bl_alloc) | (with_reducible apply bl_drewN) | (with_reducible apply bl_drew) | (with_reducible refine bl_set ?_ (by first | (simp; done) | (simp; omega)) _) | (with_reducible refine bl_call ?_ (by assumption)))))
            obtain ⟨a0, a1, a2, a3⟩ := HB4.out.on (show Below wr.heap.size wr w2 by (repeat (first | (with_reducible exact Below.refl _ _) | (with_reducible assumption) | (with_reducible apply bl_alloc) | (with_reducible apply bl_drewN) | (with_reducible apply bl_drew) | (with_reducible refine bl_set ?_ (by first | (simp; done) | (simp; omega)) _) | (with_reducible refine bl_call ?_ (by assumption)))))
            obtain ⟨e0, e1, e2, e3⟩ := cell4.on (show Below wr.heap.size wr w2 by (repeat (first | (with_reducible exact Below.refl _ _) | (with_reducible assumption) | (with_reducible apply bl_alloc) | (with_reducible apply bl_drewN) | (with_reducible apply bl_drew) | (with_reducible refine bl_set ?_ (by first | (simp; done) | (simp; omega)) _) | (with_reducible refine bl_call ?_ (by assumption))))) hbr HCL.out
            go_wp2_with fail
            refine (X1 _ (HKIN.out.on (by have HBB := Hw2.out; (repeat (first | (with_reducible exact Below.refl _ _) | (with_reducible assumption) | (with_reducible apply bl_alloc) | (with_reducible apply bl_drewN) | (with_reducible apply bl_drew) | (with_reducible refine bl_set ?_ (by first | (simp; done) | (simp; omega)) _) | (with_reducible refine bl_call ?_ (by assumption))))))).mono ?_
            rintro e w3 ⟨rfl, hb3⟩
            have Hw3 : Hid (Below w.heap.size w w3) := Lib.hid (by have HBB := Hw2.out; (repeat (first | (with_reducible exact Below.refl _ _) | (with_reducible assumption) | (with_reducible apply bl_alloc) | (with_reducible apply bl_drewN) | (with_reducible apply bl_drew) | (with_reducible refine bl_set ?_ (by first | (simp; done) | (simp; omega)) _) | (with_reducible refine bl_call ?_ (by assumption)))))
            obtain ⟨a0, a1, a2, a3⟩ := HB4.out.on (show Below wr.heap.size wr w3 by (repeat (first | (with_reducible exact Below.refl _ _) | (with_reducible assumption) | (with_reducible apply bl_alloc) | (with_reducible apply bl_drewN) | (with_reducible apply bl_drew) | (with_reducible refine bl_set ?_ (by first | (simp; done) | (simp; omega)) _) | (with_reducible refine bl_call ?_ (by assumption)))))
            obtain ⟨e0, e1, e2, e3⟩ := cell4.on (show Below wr.heap.size wr w3 by (repeat (first | (with_reducible exact Below.refl _ _) | (with_reducible assumption) | (with_reducible apply bl_alloc) | (with_reducible apply bl_drewN) | (with_reducible apply bl_drew) | (with_reducible refine bl_set ?_ (by first | (simp; done) | (simp; omega)) _) | (with_reducible refine bl_call ?_ (by assumption))))) hbr HCL.out
            go_wp2_with fail
            refine (H2 _ (HH.out.on (by have HBB := Hw3.out; (repeat (first | (with_reducible exact Below.refl _ _) | (with_reducible assumption) | (with_reducible apply bl_alloc) | (with_reducible apply bl_drewN) | (with_reducible apply bl_drew) | (with_reducible refine bl_set ?_ (by first | (simp; done) | (simp; omega)) _) | (with_reducible refine bl_call ?_ (by assumption))))))).mono ?_
            rintro e w4 ⟨rfl, hb4⟩
            have Hw4 : Hid (Below w.heap.size w w4) := Lib.hid (by have HBB := Hw3.out; (repeat (first | (with_reducible exact Below.refl _ _) | (with_reducible assumption) | (with_reducible apply bl_alloc) | (with_reducible apply bl_drewN) | (with_reducible apply bl_drew) | (with_reducible refine bl_set ?_ (by first | (simp; done) | (simp; omega)) _) | (with_reducible refine bl_call ?_ (by assumption)))))
            obtain ⟨a0, a1, a2, a3⟩ := HB4.out.on (show Below wr.heap.size wr w4 by (repeat (first | (with_reducible exact Below.refl _ _) | (with_reducible assumption) | (with_reducible apply bl_alloc) | (with_reducible apply bl_drewN) | (with_reducible apply bl_drew) | (with_reducible refine bl_set ?_ (by first | (simp; done) | (simp; omega)) _) | (with_reducible refine bl_call ?_ (by assumption)))))
            obtain ⟨e0, e1, e2, e3⟩ := cell4.on (show Below wr.heap.size wr w4 by (repeat (first | (with_reducible exact Below.refl _ _) | (with_reducible assumption) | (with_reducible apply bl_alloc) | (with_reducible apply bl_drewN) | (with_reducible apply bl_drew) | (with_reducible refine bl_set ?_ (by first | (simp; done) | (simp; omega)) _) | (with_reducible refine bl_call ?_ (by assumption))))) hbr HCL.out
            go_wp2_with fail
            refine (X3 _ (HKIN.out.on (by have HBB := Hw4.out; (repeat (first | (with_reducible exact Below.refl _ _) | (with_reducible assumption) | (with_reducible apply bl_alloc) | (with_reducible apply bl_drewN) | (with_reducible apply bl_drew) | (with_reducible refine bl_set ?_ (by first | (simp; done) | (simp; omega)) _) | (with_reducible refine bl_call ?_ (by assumption))))))).mono ?_
            rintro e w8 ⟨rfl, hb8⟩
            have Hw8 : Hid (Below w.heap.size w w8) := Lib.hid (by have HBB := Hw4.out; (repeat (first | (with_reducible exact Below.refl _ _) | (with_reducible assumption) | (with_reducible apply bl_alloc) | (with_reducible apply bl_drewN) | (with_reducible apply bl_drew) | (with_reducible refine bl_set ?_ (by first | (simp; done) | (simp; omega)) _) | (with_reducible refine bl_call ?_ (by assumption)))))
            obtain ⟨a0, a1, a2, a3⟩ := HB4.out.on (show Below wr.heap.size wr w8 by (repeat (first | (with_reducible exact Below.refl _ _) | (with_reducible assumption) | (with_reducible apply bl_alloc) | (with_reducible apply bl_drewN) | (with_reducible apply bl_drew) | (with_reducible refine bl_set ?_ (by first | (simp; done) | (simp; omega)) _) | (with_reducible refine bl_call ?_ (by assumption)))))
            obtain ⟨e0, e1, e2, e3⟩ := cell4.on (show Below wr.heap.size wr w8 by (repeat (first | (with_reducible exact Below.refl _ _) | (with_reducible assumption) | (with_reducible apply bl_alloc) | (with_reducible apply bl_drewN) | (with_reducible apply bl_drew) | (with_reducible refine bl_set ?_ (by first | (simp; done) | (simp; omega)) _) | (with_reducible refine bl_call ?_ (by assumption))))) hbr HCL.out
            go_wp2_with fail
            refine (X4 _ (HKIN.out.on Hw8.out)).mono ?_
            rintro e w9 ⟨rfl, hb9⟩
            have HW9 : Hid (Below w.heap.size w w9) := Lib.hid (by have HBB := Hw8.out; (repeat (first | (with_reducible exact Below.refl _ _) | (with_reducible assumption) | (with_reducible apply bl_alloc) | (with_reducible apply bl_drewN) | (with_reducible apply bl_drew) | (with_reducible refine bl_set ?_ (by first | (simp; done) | (simp; omega)) _) | (with_reducible refine bl_call ?_ (by assumption)))))
            have HB9 := Lib.hid (HB4.out.on (show Below wr.heap.size wr w9 by (repeat (first | (with_reducible exact Below.refl _ _) | (with_reducible assumption) | (with_reducible apply bl_alloc) | (with_reducible apply bl_drewN) | (with_reducible apply bl_drew) | (with_reducible refine bl_set ?_ (by first | (simp; done) | (simp; omega)) _) | (with_reducible refine bl_call ?_ (by assumption))))))
            clear HWW hbr a0 a1 a2 a3 e0 e1 e2 e3
            by_cases hDE : D < E
            · have m1 : (D : Int) < (E : Int) := by omega
              go_wp2_with fail
              go_roundw
              case rel => exact ⟨k + 1, by omega, by rw [HKN.out]; go_num, by rw [HKD.out]; go_num, by go_num, HW9, HB9⟩
              case measure => simp [intOf]; omega
            · have m1 : (E : Int) ≤ (D : Int) := by omega
              go_wp2_with fail
              go_roundw
              case rel => exact ⟨k + 1, by omega, by rw [HKN.out]; go_num, by rw [HKD.out]; go_num, by go_num, HW9, HB9⟩
              case measure => simp [intOf]; omega
        · have t1 : (V1 == 0) = false := beq_eq_false_iff_ne.2 z1
          by_cases z2 : V2 = 0
          · subst z2
            replace X2 := X2 rfl
            refine (H1 _ (HH.out.on (by have HBB := HW.out; (repeat (first | (with_reducible exact Below.refl _ _) | (with_reducible assumption) | (with_reducible apply bl_alloc) | (with_reducible apply bl_drewN) | (with_reducible apply bl_drew) | (with_reducible refine bl_set ?_ (by first | (simp; done) | (simp; omega)) _) | (with_reducible refine bl_call ?_ (by assumption))))))).mono ?_
            rintro e w2 ⟨rfl, hb2⟩
            have Hw2 : Hid (Below w.heap.size w w2) := Lib.hid (by have HBB := HW.out; (repeat (first | (with_reducible exact Below.refl _ _) | (with_reducible assumption) | (with_reducible apply bl_alloc) | (with_reducible apply bl_drewN) | (with_reducible apply bl_drew) | (with_reducible refine bl_set ?_ (by first | (simp; done) | (simp; omega)) _) | (with_reducible refine bl_call ?_ (by assumption)))))
            obtain ⟨a0, a1, a2, a3⟩ := HB4.out.on (show Below wr.heap.size wr w2 by (repeat (first | (with_reducible exact Below.refl _ _) | (with_reducible assumption) | (with_reducible apply bl_alloc) | (with_reducible apply bl_drewN) | (with_reducible apply bl_drew) | (with_reducible refine bl_set ?_ (by first | (simp; done) | (simp; omega)) _) | (with_reducible refine bl_call ?_ (by assumption)))))
            obtain ⟨e0, e1, e2, e3⟩ := cell4.on (show Below wr.heap.size wr w2 by (repeat (first | (with_reducible exact Below.refl _ _) | (with_reducible assumption) | (with_reducible apply bl_alloc) | (with_reducible apply bl_drewN) | (with_reducible apply bl_drew) | (with_reducible refine bl_set ?_ (by first | (simp; done) | (simp; omega)) _) | (with_reducible refine bl_call ?_ (by assumption))))) hbr HCL.out
            go_wp2_with fail
            refine (H2 _ (HH.out.on (by have HBB := Hw2.out; (repeat (first | (with_reducible exact Below.refl _ _) | (with_reducible assumption) | (with_reducible apply bl_alloc) | (with_reducible apply bl_drewN) | (with_reducible apply bl_drew) | (with_reducible refine bl_set ?_ (by first | (simp; done) | (simp; omega)) _) | (with_reducible refine bl_call ?_ (by assumption))))))).mono ?_
            rintro e w4 ⟨rfl, hb4⟩
            have Hw4 : Hid (Below w.heap.size w w4) := Lib.hid (by have HBB := Hw2.out; (repeat (first | (with_reducible exact Below.refl _ _) | (with_reducible assumption) | (with_reducible apply bl_alloc) | (with_reducible apply bl_drewN) | (with_reducible apply bl_drew) | (with_reducible refine bl_set ?_ (by first | (simp; done) | (simp; omega)) _) | (with_reducible refine bl_call ?_ (by assumption)))))
            obtain ⟨a0, a1, a2, a3⟩ := HB4.out.on (show Below wr.heap.size wr w4 by (repeat (first | (with_reducible exact Below.refl _ _) | (with_reducible assumption) | (with_reducible apply bl_alloc) | (with_reducible apply bl_drewN) | (with_reducible apply bl_drew) | (with_reducible refine bl_set ?_ (by first | (simp; done) | (simp; omega)) _) | (with_reducible refine bl_call ?_ (by assumption)))))
            obtain ⟨e0, e1, e2, e3⟩ := cell4.on (show Below wr.heap.size wr w4 by (repeat (first | (with_reducible exact Below.refl _ _) | (with_reducible assumption) | (with_reducible apply bl_alloc) | (with_reducible apply bl_drewN) | (with_reducible apply bl_drew) | (with_reducible refine bl_set ?_ (by first | (simp; done) | (simp; omega)) _) | (with_reducible refine bl_call ?_ (by assumption))))) hbr HCL.out
            go_wp2_with fail
            refine (X2 _ (HKIN.out.on (by have HBB := Hw4.out; (repeat (first | (with_reducible exact Below.refl _ _) | (with_reducible assumption) | (with_reducible apply bl_alloc) | (with_reducible apply bl_drewN) | (with_reducible apply bl_drew) | (with_reducible refine bl_set ?_ (by first | (simp; done) | (simp; omega)) _) | (with_reducible refine bl_call ?_ (by assumption))))))).mono ?_
            rintro e w5 ⟨rfl, hb5⟩
            have Hw5 : Hid (Below w.heap.size w w5) := Lib.hid (by have HBB := Hw4.out; (repeat (first | (with_reducible exact Below.refl _ _) | (with_reducible assumption) | (with_reducible apply bl_alloc) | (with_reducible apply bl_drewN) | (with_reducible apply bl_drew) | (with_reducible refine bl_set ?_ (by first | (simp; done) | (simp; omega)) _) | (with_reducible refine bl_call ?_ (by assumption)))))
            obtain ⟨a0, a1, a2, a3⟩ := HB4.out.on (show Below wr.heap.size wr w5 by (repeat (first | (with_reducible exact Below.refl _ _) | (with_reducible assumption) | (with_reducible apply bl_alloc) | (with_reducible apply bl_drewN) | (with_reducible apply bl_drew) | (with_reducible refine bl_set ?_ (by first | (simp; done) | (simp; omega)) _) | (with_reducible refine bl_call ?_ (by assumption)))))
            obtain ⟨e0, e1, e2, e3⟩ := cell4.on (show Below wr.heap.size wr w5 by (repeat (first | (with_reducible exact Below.refl _ _) | (with_reducible assumption) | (with_reducible apply bl_alloc) | (with_reducible apply bl_drewN) | (with_reducible apply bl_drew) | (with_reducible refine bl_set ?_ (by first | (simp; done) | (simp; omega)) _) | (with_reducible refine bl_call ?_ (by assumption))))) hbr HCL.out
            go_wp2_with fail
            refine (X3 _ (HKIN.out.on (by have HBB := Hw5.out; (repeat (first | (with_reducible exact Below.refl _ _) | (with_reducible assumption) | (with_reducible apply bl_alloc) | (with_reducible apply bl_drewN) | (with_reducible apply bl_drew) | (with_reducible refine bl_set ?_ (by first | (simp; done) | (simp; omega)) _) | (with_reducible refine bl_call ?_ (by assumption))))))).mono ?_
            rintro e w8 ⟨rfl, hb8⟩
            have Hw8 : Hid (Below w.heap.size w w8) := Lib.hid (by have HBB := Hw5.out; (repeat (first | (with_reducible exact Below.refl _ _) | (with_reducible assumption) | (with_reducible apply bl_alloc) | (with_reducible apply bl_drewN) | (with_reducible apply bl_drew) | (with_reducible refine bl_set ?_ (by first | (simp; done) | (simp; omega)) _) | (with_reducible refine bl_call ?_ (by assumption)))))
            obtain ⟨a0, a1, a2, a3⟩ := HB4.out.on (show Below wr.heap.size wr w8 by (repeat (first | (with_reducible exact Below.refl _ _) | (with_reducible assumption) | (with_reducible apply bl_alloc) | (with_reducible apply bl_drewN) | (with_reducible apply bl_drew) | (with_reducible refine bl_set ?_ (by first | (simp; done) | (simp; omega)) _) | (with_reducible refine bl_call ?_ (by assumption)))))
            obtain ⟨e0, e1, e2, e3⟩ := cell4.on (show Below wr.heap.size wr w8 by (repeat (first | (with_reducible exact Below.refl _ _) | (with_reducible assumption) | (with_reducible apply bl_alloc) | (with_reducible apply bl_drewN) | (with_reducible apply bl_drew) | (with_reducible refine bl_set ?_ (by first | (simp; done) | (simp; omega)) _) | (with_reducible refine bl_call ?_ (by assumption))))) hbr HCL.out
            go_wp2_with fail
            refine (X4 _ (HKIN.out.on Hw8.out)).mono ?_
            rintro e w9 ⟨rfl, hb9⟩
            have HW9 : Hid (Below w.heap.size w w9) := Lib.hid (by have HBB := Hw8.out; (repeat (first | (with_reducible exact Below.refl _ _) | (with_reducible assumption) | (with_reducible apply bl_alloc) | (with_reducible apply bl_drewN) | (with_reducible apply bl_drew) | (with_reducible refine bl_set ?_ (by first | (simp; done) | (simp; omega)) _) | (with_reducible refine bl_call ?_ (by assumption)))))
            have HB9 := Lib.hid (HB4.out.on (show Below wr.heap.size wr w9 by (repeat (first | (with_reducible exact Below.refl _ _) | (with_reducible assumption) | (with_reducible apply bl_alloc) | (with_reducible apply bl_drewN) | (with_reducible apply bl_drew) | (with_reducible refine bl_set ?_ (by first | (simp; done) | (simp; omega)) _) | (with_reducible refine bl_call ?_ (by assumption))))))
            clear HWW hbr a0 a1 a2 a3 e0 e1 e2 e3
            by_cases hDE : D < E
            · have m1 : (D : Int) < (E : Int) := by omega
              go_wp2_with fail
              go_roundw
              case rel => exact ⟨k + 1, by omega, by rw [HKN.out]; go_num, by rw [HKD.out]; go_num, by go_num, HW9, HB9⟩
              case measure => simp [intOf]; omega
            · have m1 : (E : Int) ≤ (D : Int) := by omega
              go_wp2_with fail
              go_roundw
              case rel => exact ⟨k + 1, by omega, by rw [HKN.out]; go_num, by rw [HKD.out]; go_num, by go_num, HW9, HB9⟩
              case measure => simp [intOf]; omega
          · have t2 : (V2 == 0) = false := beq_eq_false_iff_ne.2 z2
            refine (H1 _ (HH.out.on (by have HBB := HW.out; (repeat (first | (with_reducible exact Below.refl _ _) | (with_reducible assumption) | (with_reducible apply bl_alloc) | (with_reducible apply bl_drewN) | (with_reducible apply bl_drew) | (with_reducible refine bl_set ?_ (by first | (simp; done) | (simp; omega)) _) | (with_reducible refine bl_call ?_ (by assumption))))))).mono ?_
            rintro e w2 ⟨rfl, hb2⟩
            have Hw2 : Hid (Below w.heap.size w w2) := Lib.hid (by have HBB := HW.out; (repeat (first | (with_reducible exact Below.refl _ _) | (with_reducible assumption) | (with_reducible apply bl_alloc) | (with_reducible apply bl_drewN) | (with_reducible apply bl_drew) | (with_reducible refine bl_set ?_ (by first | (simp; done) | (simp; omega)) _) | (with_reducible refine bl_call ?_ (by assumption)))))
            obtain ⟨a0, a1, a2, a3⟩ := HB4.out.on (show Below wr.heap.size wr w2 by (repeat (first | (with_reducible exact Below.refl _ _) | (with_reducible assumption) | (with_reducible apply bl_alloc) | (with_reducible apply bl_drewN) | (with_reducible apply bl_drew) | (with_reducible refine bl_set ?_ (by first | (simp; done) | (simp; omega)) _) | (with_reducible refine bl_call ?_ (by assumption)))))
            obtain ⟨e0, e1, e2, e3⟩ := cell4.on (show Below wr.heap.size wr w2 by (repeat (first | (with_reducible exact Below.refl _ _) | (with_reducible assumption) | (with_reducible apply bl_alloc) | (with_reducible apply bl_drewN) | (with_reducible apply bl_drew) | (with_reducible refine bl_set ?_ (by first | (simp; done) | (simp; omega)) _) | (with_reducible refine bl_call ?_ (by assumption))))) hbr HCL.out
            go_wp2_with fail
            refine (H2 _ (HH.out.on (by have HBB := Hw2.out; (repeat (first | (with_reducible exact Below.refl _ _) | (with_reducible assumption) | (with_reducible apply bl_alloc) | (with_reducible apply bl_drewN) | (with_reducible apply bl_drew) | (with_reducible refine bl_set ?_ (by first | (simp; done) | (simp; omega)) _) | (with_reducible refine bl_call ?_ (by assumption))))))).mono ?_
            rintro e w4 ⟨rfl, hb4⟩
            have Hw4 : Hid (Below w.heap.size w w4) := Lib.hid (by have HBB := Hw2.out; (repeat (first | (with_reducible exact Below.refl _ _) | (with_reducible assumption) | (with_reducible apply bl_alloc) | (with_reducible apply bl_drewN) | (with_reducible apply bl_drew) | (with_reducible refine bl_set ?_ (by first | (simp; done) | (simp; omega)) _) | (with_reducible refine bl_call ?_ (by assumption)))))
            obtain ⟨a0, a1, a2, a3⟩ := HB4.out.on (show Below wr.heap.size wr w4 by (repeat (first | (with_reducible exact Below.refl _ _) | (with_reducible assumption) | (with_reducible apply bl_alloc) | (with_reducible apply bl_drewN) | (with_reducible apply bl_drew) | (with_reducible refine bl_set ?_ (by first | (simp; done) | (simp; omega)) _) | (with_reducible refine bl_call ?_ (by assumption)))))
            obtain ⟨e0, e1, e2, e3⟩ := cell4.on (show Below wr.heap.size wr w4 by (repeat (first | (with_reducible exact Below.refl _ _) | (with_reducible assumption) | (with_reducible apply bl_alloc) | (with_reducible apply bl_drewN) | (with_reducible apply bl_drew) | (with_reducible refine bl_set ?_ (by first | (simp; done) | (simp; omega)) _) | (with_reducible refine bl_call ?_ (by assumption))))) hbr HCL.out
            go_wp2_with fail
            refine (X3 _ (HKIN.out.on (by have HBB := Hw4.out; (repeat (first | (with_reducible exact Below.refl _ _) | (with_reducible assumption) | (with_reducible apply bl_alloc) | (with_reducible apply bl_drewN) | (with_reducible apply bl_drew) | (with_reducible refine bl_set ?_ (by first | (simp; done) | (simp; omega)) _) | (with_reducible refine bl_call ?_ (by assumption))))))).mono ?_
            rintro e w8 ⟨rfl, hb8⟩
            have Hw8 : Hid (Below w.heap.size w w8) := Lib.hid (by have HBB := Hw4.out; (repeat (first | (with_reducible exact Below.refl _ _) | (with_reducible assumption) | (with_reducible apply bl_alloc) | (with_reducible apply bl_drewN) | (with_reducible apply bl_drew) | (with_reducible refine bl_set ?_ (by first | (simp; done) | (simp; omega)) _) | (with_reducible refine bl_call ?_ (by assumption)))))
            obtain ⟨a0, a1, a2, a3⟩ := HB4.out.on (show Below wr.heap.size wr w8 by (repeat (first | (with_reducible exact Below.refl _ _) | (with_reducible assumption) | (with_reducible apply bl_alloc) | (with_reducible apply bl_drewN) | (with_reducible apply bl_drew) | (with_reducible refine bl_set ?_ (by first | (simp; done) | (simp; omega)) _) | (with_reducible refine bl_call ?_ (by assumption)))))
            obtain ⟨e0, e1, e2, e3⟩ := cell4.on (show Below wr.heap.size wr w8 by (repeat (first | (with_reducible exact Below.refl _ _) | (with_reducible assumption) | (with_reducible apply bl_alloc) | (with_reducible apply bl_drewN) | (with_reducible apply bl_drew) | (with_reducible refine bl_set ?_ (by first | (simp; done) | (simp; omega)) _) | (with_reducible refine bl_call ?_ (by assumption))))) hbr HCL.out
            go_wp2_with fail
            refine (X4 _ (HKIN.out.on Hw8.out)).mono ?_
            rintro e w9 ⟨rfl, hb9⟩
            have HW9 : Hid (Below w.heap.size w w9) := Lib.hid (by have HBB := Hw8.out; (repeat (first | (with_reducible exact Below.refl _ _) | (with_reducible assumption) | (with_reducible apply bl_alloc) | (with_reducible apply bl_drewN) | (with_reducible apply bl_drew) | (with_reducible refine bl_set ?_ (by first | (simp; done) | (simp; omega)) _) | (with_reducible refine bl_call ?_ (by assumption)))))
            have HB9 := Lib.hid (HB4.out.on (show Below wr.heap.size wr w9 by (repeat (first | (with_reducible exact Below.refl _ _) | (with_reducible assumption) | (with_reducible apply bl_alloc) | (with_reducible apply bl_drewN) | (with_reducible apply bl_drew) | (with_reducible refine bl_set ?_ (by first | (simp; done) | (simp; omega)) _) | (with_reducible refine bl_call ?_ (by assumption))))))
            clear HWW hbr a0 a1 a2 a3 e0 e1 e2 e3
            by_cases hDE : D < E
            · have m1 : (D : Int) < (E : Int) := by omega
              go_wp2_with fail
              go_roundw
              case rel => exact ⟨k + 1, by omega, by rw [HKN.out]; go_num, by rw [HKD.out]; go_num, by go_num, HW9, HB9⟩
              case measure => simp [intOf]; omega
            · have m1 : (E : Int) ≤ (D : Int) := by omega
              go_wp2_with fail
              go_roundw
              case rel => exact ⟨k + 1, by omega, by rw [HKN.out]; go_num, by rw [HKD.out]; go_num, by go_num, HW9, HB9⟩
              case measure => simp [intOf]; omega
      · obtain rfl : m = k := by omega
        have HT : Hid (l.take m = l) := Lib.hid (List.take_of_length_le (by rw [HL.out]; exact Nat.le_refl _))
        rw [HT.out]
        have d1 := dep_cap0 HC.out
        obtain ⟨D, hD⟩ : ∃ D, depL l = D := ⟨_, rfl⟩
        obtain ⟨V3, hV3⟩ : ∃ V, ((cntL l + 1 : Nat) : Int) = V := ⟨_, rfl⟩
        rw [hD] at d1 H4 ⊢
        rw [hV3] at H3 ⊢
        rw [show ((D + 1 : Nat) : Int) = (D : Int) + 1 from rfl] at H4
        have q3 : (V3 == V3) = true := beq_self_eq_true _
        have q4 : ((D : Int) + 1 == (D : Int) + 1) = true := beq_self_eq_true _
        clear hD hV3
        go_wp2_with fail
        refine (H3 _ (HH.out.on HW.out)).mono ?_
        rintro e w2 ⟨rfl, hb2⟩
        have HW2 : Hid (Below w.heap.size w w2) := Lib.hid (by have HBB := HW.out; (repeat (first | (with_reducible exact Below.refl _ _) | (with_reducible assumption) | (with_reducible apply bl_alloc) | (with_reducible apply bl_drewN) | (with_reducible apply bl_drew) | (with_reducible refine bl_set ?_ (by first | (simp; done) | (simp; omega)) _) | (with_reducible refine bl_call ?_ (by assumption)))))
        obtain ⟨a0, a1, a2, a3⟩ := HB4.out.on hb2
        clear b0 b1 b2 b3
        go_wp2_with fail
        refine (H4 _ (HH.out.on HW2.out)).mono ?_
        rintro e w3 ⟨rfl, hb3⟩
        have HW3 : Hid (Below w.heap.size w w3) := Lib.hid (by have HBB := HW2.out; (repeat (first | (with_reducible exact Below.refl _ _) | (with_reducible assumption) | (with_reducible apply bl_alloc) | (with_reducible apply bl_drewN) | (with_reducible apply bl_drew) | (with_reducible refine bl_set ?_ (by first | (simp; done) | (simp; omega)) _) | (with_reducible refine bl_call ?_ (by assumption)))))
        go_wp2_with fail
        refine (HA _).mono ?_
        rintro e w4 ⟨rfl, hb4⟩
        go_wp2_with fail
        go_ret
        exact ⟨rfl, by have HBB := HW3.out; (repeat (first | (with_reducible exact Below.refl _ _) | (with_reducible assumption) | (with_reducible apply bl_alloc) | (with_reducible apply bl_drewN) | (with_reducible apply bl_drew) | (with_reducible refine bl_set ?_ (by first | (simp; done) | (simp; omega)) _) | (with_reducible refine bl_call ?_ (by assumption))))⟩
end Go.Proofs.Ytfkenbdfakjeoaa.Ex
