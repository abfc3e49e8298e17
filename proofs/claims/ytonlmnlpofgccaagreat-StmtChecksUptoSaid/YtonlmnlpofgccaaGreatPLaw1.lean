/-
  Several parts of this proof in one text.
-/
import Derived.Test.YtonlmnlpofgccaaGreatPRFrm
import Derived.Test.YtonlmnlpofgccaaGreatERChk
import Derived.Test.YtonlmnlpofgccaaGreatNmRCheck
import Derived.Test.YtonlmnlpofgccaaGreatDRefCheck2
import Derived.Test.YtonlmnlpofgccaaGreatPRCnt
import Derived.Test.YtonlmnlpofgccaaGreatPLaw5
/-
  The contract of the reference's exprs.
-/
namespace Go.Proofs.YtonlmnlpofgccaaGreat.Sm
open Go.RowKit
open Go.Proofs.YtonlmnlpofgccaaGreat.Na (bs bs_inj chk)
open Go.Proofs.YtonlmnlpofgccaaGreat.Ex (Ex Nm Kin In Sz Lo Gives bl_alloc bl_drewN bl_drew bl_set bl_call block_lt chkE)
attribute [local go_sem] cs0 cs1 cs2 cs3 cs4 cs5 cs6 cs7 cs8 cs9 cs10 cs11 cs12 cs13 cs14 cs15 cs16 cs17 cs18 cs19 cs20
set_option maxHeartbeats 4000000
set_option linter.unusedVariables false
set_option linter.unusedSimpArgs false
theorem frm2_far {w : World} (x : St) (P : Pl) (c : Array Value) : Hid (∀ W, Below ((w.alloc (.cells (cs x P) 39)).alloc (.cells c 87)).heap.size ((w.alloc (.cells (cs x P) 39)).alloc (.cells c 87)) W → box21 W w.heap.size x P ∧ W.heap[w.heap.size + 1]? = some (.cells c 87 (0, 0))) := Lib.hid fun W hb => by
  have h1 : box21 (w.alloc (.cells (cs x P) 39)) w.heap.size x P := box_new21
  have h2 := World.alloc_heap_new (w.alloc (.cells (cs x P) 39)) (.cells c 87)
  have e : (w.alloc (.cells (cs x P) 39)).heap.size = w.heap.size + 1 := by simp
  rw [e] at h2
  exact ⟨(h1.on (by (repeat (first | (with_reducible exact Below.refl _ _) | (with_reducible assumption) | (with_reducible apply bl_alloc) | (with_reducible apply bl_drewN) | (with_reducible apply bl_drew) | (with_reducible refine bl_set ?_ (by first | (simp; done) | (simp; omega)) _) | (with_reducible refine bl_call ?_ (by assumption)))))).on hb, (hb.block _ (by simp)).trans h2⟩
theorem rxcheck_gives {e : Ex} {v : Int} (h : chkE false e = v) (p : Option Addr) (m c : Nat) (w : World) (hi : In w e p m) (hs : Sz e) (hc : Ex.cnt e ≤ 1000000) : Calls Tryz.prog 79 #[.agg #[.int .i64 e.o, .string e.s, .int .i64 e.n, .slice p m c]] w (Gives (.int .i64 v) w) := by rw [← h]; exact Ex.rcheck_any e p m c w hi hs hc
set_option maxRecDepth 100000 in
theorem exprs_walk (x : St) (P : Pl) (w : World) (HX : Hid (SIn w x P)) (HSA : Hid (∀ y ∈ x.ar, Sz y ∧ Ex.cnt y ≤ 1000000)) (a1 a2 a3 a4 a5 a6 a7 a8 a9 D1 D2 D3 : Bool) (r3 r4 e1 e2 e3 : Int)
    (C3 : Hid (∀ W, Below w.heap.size w W → Calls Tryz.prog 79 #[.agg #[.int .i64 x.e.o, .string x.e.s, .int .i64 x.e.n, .slice P.ep P.em P.ec]] W (Gives (.int .i64 r3) W)))
    (C4 : Hid (∀ W, Below w.heap.size w W → Calls Tryz.prog 79 #[.agg #[.int .i64 x.g.o, .string x.g.s, .int .i64 x.g.n, .slice P.gp P.gm P.gc]] W (Gives (.int .i64 r4) W)))
    (H1 : Hid (e1 = onE a3 r3)) (G1 : Hid (D1 = (decide (e1 = 0) && a4))) (H2 : Hid (e2 = if D1 = true then r4 else e1)) (G3 : Hid (D3 = decide (6 < P.am))) (G2 : Hid (D2 = (decide (e2 = 0) && D3))) (H3 : Hid (e3 = if D2 = true then 6 else e2)) :
    Calls Tryz.prog 55 #[.agg (cs x P), .agg #[.bool a1, .bool a2, .bool a3, .bool a4, .bool a5, .bool a6, .bool a7, .bool a8, .bool a9]] w (Gives (.int .i64 (orE e3 (badA x.ar))) w) := by
  have FX := frm2_far (w := w) x P #[.bool a1, .bool a2, .bool a3, .bool a4, .bool a5, .bool a6, .bool a7, .bool a8, .bool a9]
  have HB0 : Hid (Below w.heap.size w ((w.alloc (.cells (cs x P) 39)).alloc (.cells #[.bool a1, .bool a2, .bool a3, .bool a4, .bool a5, .bool a6, .bool a7, .bool a8, .bool a9] 87))) := Lib.hid (by (repeat (first | (with_reducible exact Below.refl _ _) | (with_reducible assumption) | (with_reducible apply bl_alloc) | (with_reducible apply bl_drewN) | (with_reducible apply bl_drew) | (with_reducible refine bl_set ?_ (by first | (simp; done) | (simp; omega)) _) | (with_reducible refine bl_call ?_ (by assumption)))))
  have q := FX.out _ (Below.refl _ _)
  obtain ⟨ca1, ca2, ca3, ca4, ca5, ca6, ca7, ca8, ca9⟩ := frm_cells q.2
  have b3 := q.1.c3
  have b4 := q.1.c4
  have b5 := q.1.c5
  have b6 := q.1.c6
  clear q
  go_enter Tryz.func55, Tryz.ntmps55
  go_upto_if 8 with fail
  go_cut [5] (fun v wr => v = .int .i64 e1 ∧ Hid (Below ((w.alloc (.cells (cs x P) 39)).alloc (.cells #[.bool a1, .bool a2, .bool a3, .bool a4, .bool a5, .bool a6, .bool a7, .bool a8, .bool a9] 87)).heap.size ((w.alloc (.cells (cs x P) 39)).alloc (.cells #[.bool a1, .bool a2, .bool a3, .bool a4, .bool a5, .bool a6, .bool a7, .bool a8, .bool a9] 87)) wr))
  case first =>
    cases a3 with
    | false =>
      obtain rfl : e1 = 0 := H1.out
      go_wp2_with fail
      go_meet
      exact ⟨rfl, Lib.hid (by (repeat (first | (with_reducible exact Below.refl _ _) | (with_reducible assumption) | (with_reducible apply bl_alloc) | (with_reducible apply bl_drewN) | (with_reducible apply bl_drew) | (with_reducible refine bl_set ?_ (by first | (simp; done) | (simp; omega)) _) | (with_reducible refine bl_call ?_ (by assumption)))))⟩
    | true =>
      obtain rfl : e1 = r3 := H1.out
      go_wp2_with fail
      refine (C3.out _ (by (repeat (first | (with_reducible exact Below.refl _ _) | (with_reducible assumption) | (with_reducible apply bl_alloc) | (with_reducible apply bl_drewN) | (with_reducible apply bl_drew) | (with_reducible refine bl_set ?_ (by first | (simp; done) | (simp; omega)) _) | (with_reducible refine bl_call ?_ (by assumption)))))).mono ?_
      rintro e w3 ⟨rfl, hb3⟩
      go_wp2_with fail
      go_meet
      exact ⟨rfl, Lib.hid (by (repeat (first | (with_reducible exact Below.refl _ _) | (with_reducible assumption) | (with_reducible apply bl_alloc) | (with_reducible apply bl_drewN) | (with_reducible apply bl_drew) | (with_reducible refine bl_set ?_ (by first | (simp; done) | (simp; omega)) _) | (with_reducible refine bl_call ?_ (by assumption)))))⟩
  case rest =>
  obtain ⟨rfl, HB⟩ := hcut
  rename World => v1
  have q := FX.out v1 (by have HBB := HB.out; (repeat (first | (with_reducible exact Below.refl _ _) | (with_reducible assumption) | (with_reducible apply bl_alloc) | (with_reducible apply bl_drewN) | (with_reducible apply bl_drew) | (with_reducible refine bl_set ?_ (by first | (simp; done) | (simp; omega)) _) | (with_reducible refine bl_call ?_ (by assumption)))))
  obtain ⟨ca1, ca2, ca3, ca4, ca5, ca6, ca7, ca8, ca9⟩ := frm_cells q.2
  have b7 := q.1.c7
  have b8 := q.1.c8
  have b9 := q.1.c9
  have b10 := q.1.c10
  clear q
  go_upto_region 4 with fail
  go_cut [17] (fun v wr => v = .bool D1 ∧ wr = v1)
  case first =>
    by_cases h1 : e1 = 0
    · have t1 : (e1 == 0) = true := beq_iff_eq.2 h1
      have hd := G1.out
      rw [decide_eq_true h1, Bool.true_and] at hd
      subst hd
      clear h1 H2 G2 H3
      cases D1
      all_goals
        go_wp2_with fail
        go_meet
        exact ⟨rfl, rfl⟩
    · have t1 : (e1 == 0) = false := beq_eq_false_iff_ne.2 h1
      have hd := G1.out
      rw [decide_eq_false h1, Bool.false_and] at hd
      subst hd
      clear h1
      go_wp2_with fail
      go_meet
      exact ⟨rfl, rfl⟩
  case rest =>
  obtain ⟨rfl, rfl⟩ := hcut
  rename World => v1
  go_upto_if 17 with fail
  go_cut [5] (fun v wr => v = .int .i64 e2 ∧ Hid (Below ((w.alloc (.cells (cs x P) 39)).alloc (.cells #[.bool a1, .bool a2, .bool a3, .bool a4, .bool a5, .bool a6, .bool a7, .bool a8, .bool a9] 87)).heap.size ((w.alloc (.cells (cs x P) 39)).alloc (.cells #[.bool a1, .bool a2, .bool a3, .bool a4, .bool a5, .bool a6, .bool a7, .bool a8, .bool a9] 87)) wr))
  case first =>
    cases D1 with
    | false =>
      obtain rfl : e2 = e1 := H2.out
      go_wp2_with fail
      go_meet
      exact ⟨rfl, Lib.hid (by have HBB := HB.out; (repeat (first | (with_reducible exact Below.refl _ _) | (with_reducible assumption) | (with_reducible apply bl_alloc) | (with_reducible apply bl_drewN) | (with_reducible apply bl_drew) | (with_reducible refine bl_set ?_ (by first | (simp; done) | (simp; omega)) _) | (with_reducible refine bl_call ?_ (by assumption)))))⟩
    | true =>
      obtain rfl : e2 = r4 := H2.out
      go_wp2_with fail
      refine (C4.out _ (by have HBB := HB.out; have HBC := HB0.out; (repeat (first | (with_reducible exact Below.refl _ _) | (with_reducible assumption) | (with_reducible apply bl_alloc) | (with_reducible apply bl_drewN) | (with_reducible apply bl_drew) | (with_reducible refine bl_set ?_ (by first | (simp; done) | (simp; omega)) _) | (with_reducible refine bl_call ?_ (by assumption)))))).mono ?_
      rintro e w3 ⟨rfl, hb3⟩
      go_wp2_with fail
      go_meet
      exact ⟨rfl, Lib.hid (by have HBB := HB.out; (repeat (first | (with_reducible exact Below.refl _ _) | (with_reducible assumption) | (with_reducible apply bl_alloc) | (with_reducible apply bl_drewN) | (with_reducible apply bl_drew) | (with_reducible refine bl_set ?_ (by first | (simp; done) | (simp; omega)) _) | (with_reducible refine bl_call ?_ (by assumption)))))⟩
  case rest =>
  clear HB b7 b8 b9 b10 ca1 ca2 ca3 ca4 ca5 ca6 ca7 ca8 ca9
  obtain ⟨rfl, HB⟩ := hcut
  rename World => v2
  have b11 := (FX.out v2 HB.out).1.c11
  go_upto_region 6 with fail
  go_cut [28] (fun v wr => v = .bool D2 ∧ wr = v2)
  case first =>
    by_cases h1 : e2 = 0
    · have t1 : (e2 == 0) = true := beq_iff_eq.2 h1
      have hd := G2.out
      rw [decide_eq_true h1, Bool.true_and] at hd
      by_cases h6 : 6 < P.am
      · have t2 : decide ((6 : Int) < (P.am : Int)) = true := decide_eq_true (by omega)
        have t3 : (6 : Int) < (P.am : Int) := by omega
        obtain rfl : D2 = true := by rw [hd, G3.out, decide_eq_true h6]
        clear h1 hd H3 G2 H2
        go_wp2_with fail
        go_meet
        exact ⟨rfl, rfl⟩
      · have t2 : decide ((6 : Int) < (P.am : Int)) = false := decide_eq_false (by omega)
        have t3 : (P.am : Int) ≤ 6 := by omega
        obtain rfl : D2 = false := by rw [hd, G3.out, decide_eq_false h6]
        clear h1 hd H3 G2 H2
        go_wp2_with fail
        go_meet
        exact ⟨rfl, rfl⟩
    · have t1 : (e2 == 0) = false := beq_eq_false_iff_ne.2 h1
      have hd := G2.out
      rw [decide_eq_false h1, Bool.false_and] at hd
      subst hd
      clear h1
      go_wp2_with fail
      go_meet
      exact ⟨rfl, rfl⟩
  case rest =>
  obtain ⟨rfl, rfl⟩ := hcut
  rename World => v2
  go_upto_if 28 with fail
  go_cut [5] (fun v wr => v = .int .i64 e3 ∧ Hid (Below ((w.alloc (.cells (cs x P) 39)).alloc (.cells #[.bool a1, .bool a2, .bool a3, .bool a4, .bool a5, .bool a6, .bool a7, .bool a8, .bool a9] 87)).heap.size ((w.alloc (.cells (cs x P) 39)).alloc (.cells #[.bool a1, .bool a2, .bool a3, .bool a4, .bool a5, .bool a6, .bool a7, .bool a8, .bool a9] 87)) wr))
  case first =>
    cases D2 with
    | false =>
      obtain rfl : e3 = e2 := H3.out
      go_wp2_with fail
      go_meet
      exact ⟨rfl, Lib.hid (by have HBB := HB.out; (repeat (first | (with_reducible exact Below.refl _ _) | (with_reducible assumption) | (with_reducible apply bl_alloc) | (with_reducible apply bl_drewN) | (with_reducible apply bl_drew) | (with_reducible refine bl_set ?_ (by first | (simp; done) | (simp; omega)) _) | (with_reducible refine bl_call ?_ (by assumption)))))⟩
    | true =>
      obtain rfl : e3 = 6 := H3.out
      go_wp2_with fail
      go_meet
      exact ⟨rfl, Lib.hid (by have HBB := HB.out; (repeat (first | (with_reducible exact Below.refl _ _) | (with_reducible assumption) | (with_reducible apply bl_alloc) | (with_reducible apply bl_drewN) | (with_reducible apply bl_drew) | (with_reducible refine bl_set ?_ (by first | (simp; done) | (simp; omega)) _) | (with_reducible refine bl_call ?_ (by assumption)))))⟩
  case rest =>
  clear HB b11 C3 C4 H1 H2 H3 G1 G2 G3
  obtain ⟨rfl, HB⟩ := hcut
  rename World => v3
  have HB3 := HB
  clear HB
  go_wp2_with fail
  go_loopw [5, 6] (fun d i wr => ∃ (k : Nat) (V : Int), k ≤ P.am ∧ Hid (orE e3 (badA (x.ar.take k)) = V) ∧ d = .int .i64 V ∧ i = .int .i64 (k : Nat) ∧ Hid (Below ((w.alloc (.cells (cs x P) 39)).alloc (.cells #[.bool a1, .bool a2, .bool a3, .bool a4, .bool a5, .bool a6, .bool a7, .bool a8, .bool a9] 87)).heap.size ((w.alloc (.cells (cs x P) 39)).alloc (.cells #[.bool a1, .bool a2, .bool a3, .bool a4, .bool a5, .bool a6, .bool a7, .bool a8, .bool a9] 87)) wr)) (fun d i _ => P.am - (intOf i).toNat)
  case atStart => exact ⟨0, e3, Nat.zero_le _, Lib.hid (orE_right _), rfl, rfl, HB3⟩
  case round =>
    obtain ⟨k, V, hk, HV, rfl, rfl, HB⟩ := hrel
    have k0 : (0 : Int) ≤ (k : Int) := by omega
    obtain ⟨hal, ham⟩ := HX.out.ar.len
    have HLN := Lib.hid hal
    clear hal
    have b11 := (FX.out wr HB.out).1.c11
    by_cases hV : V = 0
    case neg =>
      have t1 : (V == 0) = false := beq_eq_false_iff_ne.2 hV
      have HR : Hid (orE e3 (badA x.ar) = V) := Lib.hid (by
        have h1 := HV.out
        have h2 := badA_app (x.ar.take k) (x.ar.drop k)
        rw [List.take_append_drop] at h2
        rw [h2, ← orE_assoc, h1, orE_no hV])
      clear hV
      go_wp2_with fail
      go_ret
      exact ⟨by rw [HR.out]; rfl, by have HBB := HB.out; (repeat (first | (with_reducible exact Below.refl _ _) | (with_reducible assumption) | (with_reducible apply bl_alloc) | (with_reducible apply bl_drewN) | (with_reducible apply bl_drew) | (with_reducible refine bl_set ?_ (by first | (simp; done) | (simp; omega)) _) | (with_reducible refine bl_call ?_ (by assumption))))⟩
    subst hV
    rcases Nat.lt_or_ge k P.am with h | h
    · have k1 : (k : Int) < (P.am : Int) := by omega
      obtain ⟨b', o'', hap, -, hG', hcell'⟩ := HX.out.ar.kids (by omega)
      have hkl' : k < x.ar.length := by rw [HLN.out]; exact h
      obtain ⟨q, j, c', hc4, hkin⟩ := hcell'.out k hkl'
      have hmem' : x.ar[k] ∈ x.ar := List.getElem_mem hkl'
      have hgx' : x.ar[k]? = some x.ar[k] := List.getElem?_eq_getElem hkl'
      obtain ⟨y, hy⟩ : ∃ y, x.ar[k] = y := ⟨_, rfl⟩
      rw [hy] at hc4 hkin hmem' hgx'
      have HBW : Hid (Below w.heap.size w wr) := Lib.hid (by have HBB := HB.out; have HBC := HB0.out; (repeat (first | (with_reducible exact Below.refl _ _) | (with_reducible assumption) | (with_reducible apply bl_alloc) | (with_reducible apply bl_drewN) | (with_reducible apply bl_drew) | (with_reducible refine bl_set ?_ (by first | (simp; done) | (simp; omega)) _) | (with_reducible refine bl_call ?_ (by assumption)))))
      obtain ⟨g0, g1, g2, g3⟩ := hc4.on HBW.out hG'
      rw [hap] at b11
      have hbi : b' < wr.heap.size := Nat.lt_of_lt_of_le hG' HBW.out.size
      have HKIN := Lib.hid hkin
      have hsy := HSA.out y hmem'
      obtain ⟨V2, hV2⟩ : ∃ v, chkE false y = v := ⟨_, rfl⟩
      have HC := Lib.hid (fun W hi => rxcheck_gives hV2 q j c' W hi hsy.1 hsy.2)
      have HR : Hid (orE e3 (badA (x.ar.take (k + 1))) = V2) := Lib.hid (by rw [badA_take hgx', ← orE_assoc, HV.out, orE_yes, hV2])
      clear hcell' hc4 hkin hy hmem' hgx' hkl' hsy hV2
      go_wp2_with fail
      refine (HC.out _ (HKIN.out.on (by have HBB := HBW.out; (repeat (first | (with_reducible exact Below.refl _ _) | (with_reducible assumption) | (with_reducible apply bl_alloc) | (with_reducible apply bl_drewN) | (with_reducible apply bl_drew) | (with_reducible refine bl_set ?_ (by first | (simp; done) | (simp; omega)) _) | (with_reducible refine bl_call ?_ (by assumption))))))).mono ?_
      rintro e w5 ⟨rfl, hb5⟩
      have HB5 : Hid (Below ((w.alloc (.cells (cs x P) 39)).alloc (.cells #[.bool a1, .bool a2, .bool a3, .bool a4, .bool a5, .bool a6, .bool a7, .bool a8, .bool a9] 87)).heap.size ((w.alloc (.cells (cs x P) 39)).alloc (.cells #[.bool a1, .bool a2, .bool a3, .bool a4, .bool a5, .bool a6, .bool a7, .bool a8, .bool a9] 87)) w5) := Lib.hid (by have HBB := HB.out; (repeat (first | (with_reducible exact Below.refl _ _) | (with_reducible assumption) | (with_reducible apply bl_alloc) | (with_reducible apply bl_drewN) | (with_reducible apply bl_drew) | (with_reducible refine bl_set ?_ (by first | (simp; done) | (simp; omega)) _) | (with_reducible refine bl_call ?_ (by assumption)))))
      clear hb5 HC
      go_wp2_with fail
      go_roundw
      case rel => exact ⟨k + 1, V2, by omega, HR, rfl, by go_num, HB5⟩
      case measure => simp [intOf]; omega
    · obtain rfl : P.am = k := by omega
      have HR : Hid (orE e3 (badA x.ar) = 0) := Lib.hid (by
        have h1 := HV.out
        rwa [List.take_of_length_le (by rw [HLN.out]; exact Nat.le_refl _)] at h1)
      go_wp2_with fail
      go_ret
      exact ⟨by rw [HR.out]; rfl, by have HBB := HB.out; (repeat (first | (with_reducible exact Below.refl _ _) | (with_reducible assumption) | (with_reducible apply bl_alloc) | (with_reducible apply bl_drewN) | (with_reducible apply bl_drew) | (with_reducible refine bl_set ?_ (by first | (simp; done) | (simp; omega)) _) | (with_reducible refine bl_call ?_ (by assumption))))⟩
theorem exprs_math (u v : Int) (b : Bool) (n : Nat) (z : Int) : orE (if (decide ((if (decide (u = 0) && b) = true then v else u) = 0) && decide (6 < n)) = true then 6 else (if (decide (u = 0) && b) = true then v else u)) z = orE u (orE (onE b v) (if 6 < n then 6 else z)) := by
  unfold orE onE
  by_cases h1 : u = 0 <;> by_cases h2 : v = 0 <;> by_cases h3 : 6 < n <;> cases b <;> simp [h1, h2, h3]
theorem rexprsL_any (x : St) (P : Pl) (w : World) (hx : SIn w x P) (hs : SzS x) (a1 a2 a3 a4 a5 a6 a7 a8 a9 : Bool) : Calls Tryz.prog 55 #[.agg (cs x P), .agg #[.bool a1, .bool a2, .bool a3, .bool a4, .bool a5, .bool a6, .bool a7, .bool a8, .bool a9]] w (Gives (.int .i64 (orE (onE a3 (chkE false x.e)) (orE (onE a4 (chkE false x.g)) (argE x.ar)))) w) := by
  have h := exprs_walk x P w (Lib.hid hx) (Lib.hid hs.2.2.2.2) a1 a2 a3 a4 a5 a6 a7 a8 a9 _ _ _ (chkE false x.e) (chkE false x.g) _ _ _
    (Lib.hid fun W hb => Ex.rcheck_any x.e P.ep P.em P.ec W (hx.e.on hb) hs.2.2.1.1 hs.2.2.1.2)
    (Lib.hid fun W hb => Ex.rcheck_any x.g P.gp P.gm P.gc W (hx.g.on hb) hs.2.2.2.1.1 hs.2.2.2.1.2)
    (Lib.hid rfl) (Lib.hid rfl) (Lib.hid rfl) (Lib.hid rfl) (Lib.hid rfl) (Lib.hid rfl)
  rw [exprs_math, ← hx.ar.len.1] at h
  exact h
end Go.Proofs.YtonlmnlpofgccaaGreat.Sm

/-
  The contract of the reference's one.
-/
namespace Go.Proofs.YtonlmnlpofgccaaGreat.Sm
open Go.RowKit
open Go.Proofs.YtonlmnlpofgccaaGreat.Na (bs bs_inj chk)
open Go.Proofs.YtonlmnlpofgccaaGreat.Ex (Ex Nm Kin In Sz Lo Gives bl_alloc bl_drewN bl_drew bl_set bl_call block_lt chkE)
attribute [local go_sem] cs0 cs1 cs2 cs3 cs4 cs5 cs6 cs7 cs8 cs9 cs10 cs11 cs12 cs13 cs14 cs15 cs16 cs17 cs18 cs19 cs20
set_option maxHeartbeats 4000000
set_option linter.unusedVariables false
set_option linter.unusedSimpArgs false
set_option maxRecDepth 100000 in
theorem rone_walk (x : St) (P : Pl) (w : World) (a1 a2 a3 a4 a5 a6 a7 a8 a9 K V D q1 q2 D3 : Bool) (c1 c2 r d R : Int)
    (CO : Hid (∀ W, Below w.heap.size w W → Calls Tryz.prog 52 #[.int .i64 x.o] W (Gives (.tuple #[.agg #[.bool a1, .bool a2, .bool a3, .bool a4, .bool a5, .bool a6, .bool a7, .bool a8, .bool a9], .bool K]) W)))
    (CF : Hid (∀ W, Below w.heap.size w W → Calls Tryz.prog 53 #[.agg (cs x P)] W (Gives (.bool V) W)))
    (C1 : Hid (∀ W, Below w.heap.size w W → Calls Tryz.prog 54 #[.string x.nm] W (Gives (.int .i64 c1) W)))
    (C2 : Hid (∀ W, Below w.heap.size w W → Calls Tryz.prog 54 #[.string x.f] W (Gives (.int .i64 c2) W)))
    (CE : Hid (∀ W, Below w.heap.size w W → Calls Tryz.prog 55 #[.agg (cs x P), .agg #[.bool a1, .bool a2, .bool a3, .bool a4, .bool a5, .bool a6, .bool a7, .bool a8, .bool a9]] W (Gives (.int .i64 r) W)))
    (CD : Hid (∀ W, Below w.heap.size w W → Calls Tryz.prog 56 #[.agg #[.int .i64 x.di.op, .int .i64 x.di.a, .int .i64 x.di.b, .int .i64 x.di.n, .slice P.vp P.vm P.vc, .slice P.wp P.wm P.wc]] W (Gives (.int .i64 d) W)))
    (Q1 : (c1 != 0) = q1) (Q2 : (c2 != 0) = q2) (Q3 : (r == 0) = D3)
    (G1 : Hid (D = ((a1 && q1) || (a2 && q2)))) (GR : Hid (R = if V = true then (if D = true then 3 else if (D3 && a6) = true then d else r) else 1)) :
    Calls Tryz.prog 39 #[.agg (cs x P)] w (Gives (.int .i64 R) w) := by
  obtain ⟨n21, hn21⟩ : ∃ n : Nat, 21 = n := ⟨_, rfl⟩
  have hsz : ∀ w, (sizeOf 39).run Tryz.prog w = .ok n21 w := fun w => by rw [Tryz.sizeOf39, hn21]
  have HN21 := Lib.hid hn21
  clear hn21
  have hcsz : (cs x P).size = n21 := HN21.out
  go_enter Tryz.func39, Tryz.ntmps39
  go_wp2_with fail
  refine (CO.out _ (by (repeat (first | (with_reducible exact Below.refl _ _) | (with_reducible assumption) | (with_reducible apply bl_alloc) | (with_reducible apply bl_drewN) | (with_reducible apply bl_drew) | (with_reducible refine bl_set ?_ (by first | (simp; done) | (simp; omega)) _) | (with_reducible refine bl_call ?_ (by assumption)))))).mono ?_
  rintro e w1 ⟨rfl, hb1⟩
  have FX := frm_far x P #[.bool a1, .bool a2, .bool a3, .bool a4, .bool a5, .bool a6, .bool a7, .bool a8, .bool a9] hb1
  have HB0 : Hid (Below w.heap.size w (w1.alloc (.cells #[.bool a1, .bool a2, .bool a3, .bool a4, .bool a5, .bool a6, .bool a7, .bool a8, .bool a9] 87))) := Lib.hid (by (repeat (first | (with_reducible exact Below.refl _ _) | (with_reducible assumption) | (with_reducible apply bl_alloc) | (with_reducible apply bl_drewN) | (with_reducible apply bl_drew) | (with_reducible refine bl_set ?_ (by first | (simp; done) | (simp; omega)) _) | (with_reducible refine bl_call ?_ (by assumption)))))
  have ld1 := (FX.out _ (Below.refl _ _)).1.cell.ldN HN21.out
  go_wp2_with fail
  refine (CF.out _ (by (repeat (first | (with_reducible exact Below.refl _ _) | (with_reducible assumption) | (with_reducible apply bl_alloc) | (with_reducible apply bl_drewN) | (with_reducible apply bl_drew) | (with_reducible refine bl_set ?_ (by first | (simp; done) | (simp; omega)) _) | (with_reducible refine bl_call ?_ (by assumption)))))).mono ?_
  rintro e w2 ⟨rfl, hb2⟩
  have HB : Hid (Below (w1.alloc (.cells #[.bool a1, .bool a2, .bool a3, .bool a4, .bool a5, .bool a6, .bool a7, .bool a8, .bool a9] 87)).heap.size (w1.alloc (.cells #[.bool a1, .bool a2, .bool a3, .bool a4, .bool a5, .bool a6, .bool a7, .bool a8, .bool a9] 87)) w2) := Lib.hid (by (repeat (first | (with_reducible exact Below.refl _ _) | (with_reducible assumption) | (with_reducible apply bl_alloc) | (with_reducible apply bl_drewN) | (with_reducible apply bl_drew) | (with_reducible refine bl_set ?_ (by first | (simp; done) | (simp; omega)) _) | (with_reducible refine bl_call ?_ (by assumption)))))
  clear ld1 hb1
  cases V with
  | false =>
    obtain rfl : R = 1 := by rw [GR.out]; rfl
    clear hb2
    go_wp2_with fail
    go_ret
    exact ⟨rfl, by have HBB := HB.out; have HBC := HB0.out; (repeat (first | (with_reducible exact Below.refl _ _) | (with_reducible assumption) | (with_reducible apply bl_alloc) | (with_reducible apply bl_drewN) | (with_reducible apply bl_drew) | (with_reducible refine bl_set ?_ (by first | (simp; done) | (simp; omega)) _) | (with_reducible refine bl_call ?_ (by assumption))))⟩
  | true =>
  clear hb2 CF
  replace GR : Hid (R = if D = true then 3 else if (D3 && a6) = true then d else r) := Lib.hid (by rw [GR.out, if_pos rfl])
  have q := FX.out w2 (by have HBB := HB.out; (repeat (first | (with_reducible exact Below.refl _ _) | (with_reducible assumption) | (with_reducible apply bl_alloc) | (with_reducible apply bl_drewN) | (with_reducible apply bl_drew) | (with_reducible refine bl_set ?_ (by first | (simp; done) | (simp; omega)) _) | (with_reducible refine bl_call ?_ (by assumption)))))
  obtain ⟨ca1, ca2, ca3, ca4, ca5, ca6, ca7, ca8, ca9⟩ := frm_cells q.2
  have b1 := q.1.c1
  have b2 := q.1.c2
  clear q
  go_upto_region 4 with fail
  go_cut [32] (fun v wr => v = .bool D ∧ Hid (Below (w1.alloc (.cells #[.bool a1, .bool a2, .bool a3, .bool a4, .bool a5, .bool a6, .bool a7, .bool a8, .bool a9] 87)).heap.size (w1.alloc (.cells #[.bool a1, .bool a2, .bool a3, .bool a4, .bool a5, .bool a6, .bool a7, .bool a8, .bool a9] 87)) wr))
  case first =>
    replace C1 : Hid (∀ W, Below (w1.alloc (.cells #[.bool a1, .bool a2, .bool a3, .bool a4, .bool a5, .bool a6, .bool a7, .bool a8, .bool a9] 87)).heap.size (w1.alloc (.cells #[.bool a1, .bool a2, .bool a3, .bool a4, .bool a5, .bool a6, .bool a7, .bool a8, .bool a9] 87)) W → Calls Tryz.prog 54 #[.string x.nm] W (Gives (.int .i64 c1) W)) := Lib.hid fun W hW => C1.out W (by have HBC := HB0.out; (repeat (first | (with_reducible exact Below.refl _ _) | (with_reducible assumption) | (with_reducible apply bl_alloc) | (with_reducible apply bl_drewN) | (with_reducible apply bl_drew) | (with_reducible refine bl_set ?_ (by first | (simp; done) | (simp; omega)) _) | (with_reducible refine bl_call ?_ (by assumption)))))
    replace C2 : Hid (∀ W, Below (w1.alloc (.cells #[.bool a1, .bool a2, .bool a3, .bool a4, .bool a5, .bool a6, .bool a7, .bool a8, .bool a9] 87)).heap.size (w1.alloc (.cells #[.bool a1, .bool a2, .bool a3, .bool a4, .bool a5, .bool a6, .bool a7, .bool a8, .bool a9] 87)) W → Calls Tryz.prog 54 #[.string x.f] W (Gives (.int .i64 c2) W)) := Lib.hid fun W hW => C2.out W (by have HBC := HB0.out; (repeat (first | (with_reducible exact Below.refl _ _) | (with_reducible assumption) | (with_reducible apply bl_alloc) | (with_reducible apply bl_drewN) | (with_reducible apply bl_drew) | (with_reducible refine bl_set ?_ (by first | (simp; done) | (simp; omega)) _) | (with_reducible refine bl_call ?_ (by assumption)))))
    clear GR Q3
    cases a1 with
    | false =>
      cases a2 with
      | false =>
        obtain rfl : D = false := by rw [G1.out]; rfl
        go_wp2_with fail
        go_meet
        exact ⟨rfl, Lib.hid (by have HBB := HB.out; (repeat (first | (with_reducible exact Below.refl _ _) | (with_reducible assumption) | (with_reducible apply bl_alloc) | (with_reducible apply bl_drewN) | (with_reducible apply bl_drew) | (with_reducible refine bl_set ?_ (by first | (simp; done) | (simp; omega)) _) | (with_reducible refine bl_call ?_ (by assumption)))))⟩
      | true =>
        cases q2
        all_goals
          have hd := G1.out
          simp only [Bool.false_and, Bool.true_and, Bool.false_or, Bool.or_false, Bool.and_true, Bool.and_false] at hd
          subst hd
          go_wp2_with fail
          refine (C2.out _ (by have HBB := HB.out; (repeat (first | (with_reducible exact Below.refl _ _) | (with_reducible assumption) | (with_reducible apply bl_alloc) | (with_reducible apply bl_drewN) | (with_reducible apply bl_drew) | (with_reducible refine bl_set ?_ (by first | (simp; done) | (simp; omega)) _) | (with_reducible refine bl_call ?_ (by assumption)))))).mono ?_
          rintro e w4 ⟨rfl, hb4⟩
          go_wp2_with fail
          go_meet
          exact ⟨rfl, Lib.hid (by have HBB := HB.out; (repeat (first | (with_reducible exact Below.refl _ _) | (with_reducible assumption) | (with_reducible apply bl_alloc) | (with_reducible apply bl_drewN) | (with_reducible apply bl_drew) | (with_reducible refine bl_set ?_ (by first | (simp; done) | (simp; omega)) _) | (with_reducible refine bl_call ?_ (by assumption)))))⟩
    | true =>
      cases q1 with
      | true =>
        obtain rfl : D = true := by rw [G1.out]; rfl
        go_wp2_with fail
        refine (C1.out _ (by have HBB := HB.out; (repeat (first | (with_reducible exact Below.refl _ _) | (with_reducible assumption) | (with_reducible apply bl_alloc) | (with_reducible apply bl_drewN) | (with_reducible apply bl_drew) | (with_reducible refine bl_set ?_ (by first | (simp; done) | (simp; omega)) _) | (with_reducible refine bl_call ?_ (by assumption)))))).mono ?_
        rintro e w3 ⟨rfl, hb3⟩
        have q := FX.out w3 (by have HBB := HB.out; (repeat (first | (with_reducible exact Below.refl _ _) | (with_reducible assumption) | (with_reducible apply bl_alloc) | (with_reducible apply bl_drewN) | (with_reducible apply bl_drew) | (with_reducible refine bl_set ?_ (by first | (simp; done) | (simp; omega)) _) | (with_reducible refine bl_call ?_ (by assumption)))))
        obtain ⟨ca1, ca2, ca3, ca4, ca5, ca6, ca7, ca8, ca9⟩ := frm_cells q.2
        have b2 := q.1.c2
        clear q
        go_wp2_with fail
        go_meet
        exact ⟨rfl, Lib.hid (by have HBB := HB.out; (repeat (first | (with_reducible exact Below.refl _ _) | (with_reducible assumption) | (with_reducible apply bl_alloc) | (with_reducible apply bl_drewN) | (with_reducible apply bl_drew) | (with_reducible refine bl_set ?_ (by first | (simp; done) | (simp; omega)) _) | (with_reducible refine bl_call ?_ (by assumption)))))⟩
      | false =>
        cases a2 with
        | false =>
          obtain rfl : D = false := by rw [G1.out]; rfl
          go_wp2_with fail
          refine (C1.out _ (by have HBB := HB.out; (repeat (first | (with_reducible exact Below.refl _ _) | (with_reducible assumption) | (with_reducible apply bl_alloc) | (with_reducible apply bl_drewN) | (with_reducible apply bl_drew) | (with_reducible refine bl_set ?_ (by first | (simp; done) | (simp; omega)) _) | (with_reducible refine bl_call ?_ (by assumption)))))).mono ?_
          rintro e w3 ⟨rfl, hb3⟩
          have q := FX.out w3 (by have HBB := HB.out; (repeat (first | (with_reducible exact Below.refl _ _) | (with_reducible assumption) | (with_reducible apply bl_alloc) | (with_reducible apply bl_drewN) | (with_reducible apply bl_drew) | (with_reducible refine bl_set ?_ (by first | (simp; done) | (simp; omega)) _) | (with_reducible refine bl_call ?_ (by assumption)))))
          obtain ⟨ca1, ca2, ca3, ca4, ca5, ca6, ca7, ca8, ca9⟩ := frm_cells q.2
          have b2 := q.1.c2
          clear q
          go_wp2_with fail
          go_meet
          exact ⟨rfl, Lib.hid (by have HBB := HB.out; (repeat (first | (with_reducible exact Below.refl _ _) | (with_reducible assumption) | (with_reducible apply bl_alloc) | (with_reducible apply bl_drewN) | (with_reducible apply bl_drew) | (with_reducible refine bl_set ?_ (by first | (simp; done) | (simp; omega)) _) | (with_reducible refine bl_call ?_ (by assumption)))))⟩
        | true =>
          cases q2
          all_goals
            have hd := G1.out
            simp only [Bool.false_and, Bool.true_and, Bool.false_or, Bool.or_false, Bool.and_true, Bool.and_false] at hd
            subst hd
            go_wp2_with fail
            refine (C1.out _ (by have HBB := HB.out; (repeat (first | (with_reducible exact Below.refl _ _) | (with_reducible assumption) | (with_reducible apply bl_alloc) | (with_reducible apply bl_drewN) | (with_reducible apply bl_drew) | (with_reducible refine bl_set ?_ (by first | (simp; done) | (simp; omega)) _) | (with_reducible refine bl_call ?_ (by assumption)))))).mono ?_
            rintro e w3 ⟨rfl, hb3⟩
            have q := FX.out w3 (by have HBB := HB.out; (repeat (first | (with_reducible exact Below.refl _ _) | (with_reducible assumption) | (with_reducible apply bl_alloc) | (with_reducible apply bl_drewN) | (with_reducible apply bl_drew) | (with_reducible refine bl_set ?_ (by first | (simp; done) | (simp; omega)) _) | (with_reducible refine bl_call ?_ (by assumption)))))
            obtain ⟨ca1, ca2, ca3, ca4, ca5, ca6, ca7, ca8, ca9⟩ := frm_cells q.2
            have b2 := q.1.c2
            clear q
            go_wp2_with fail
            refine (C2.out _ (by have HBB := HB.out; (repeat (first | (with_reducible exact Below.refl _ _) | (with_reducible assumption) | (with_reducible apply bl_alloc) | (with_reducible apply bl_drewN) | (with_reducible apply bl_drew) | (with_reducible refine bl_set ?_ (by first | (simp; done) | (simp; omega)) _) | (with_reducible refine bl_call ?_ (by assumption)))))).mono ?_
            rintro e w4 ⟨rfl, hb4⟩
            go_wp2_with fail
            go_meet
            exact ⟨rfl, Lib.hid (by have HBB := HB.out; (repeat (first | (with_reducible exact Below.refl _ _) | (with_reducible assumption) | (with_reducible apply bl_alloc) | (with_reducible apply bl_drewN) | (with_reducible apply bl_drew) | (with_reducible refine bl_set ?_ (by first | (simp; done) | (simp; omega)) _) | (with_reducible refine bl_call ?_ (by assumption)))))⟩
  case rest =>
  clear HB
  obtain ⟨rfl, HB⟩ := hcut
  rename World => v1
  clear C1 C2 Q1 Q2 G1
  cases D with
  | true =>
    obtain rfl : R = 3 := by rw [GR.out]; rfl
    go_wp2_with fail
    go_ret
    exact ⟨rfl, by have HBB := HB.out; have HBC := HB0.out; (repeat (first | (with_reducible exact Below.refl _ _) | (with_reducible assumption) | (with_reducible apply bl_alloc) | (with_reducible apply bl_drewN) | (with_reducible apply bl_drew) | (with_reducible refine bl_set ?_ (by first | (simp; done) | (simp; omega)) _) | (with_reducible refine bl_call ?_ (by assumption))))⟩
  | false =>
  replace GR : Hid (R = if (D3 && a6) = true then d else r) := Lib.hid (by rw [GR.out, if_neg (by decide)])
  have ld1 := (FX.out v1 HB.out).1.cell.ldN HN21.out
  clear ca1 ca2 ca3 ca4 ca5 ca6 ca7 ca8 ca9
  obtain ⟨ca1, ca2, ca3, ca4, ca5, ca6, ca7, ca8, ca9⟩ := frm_cells (FX.out v1 HB.out).2
  go_wp2_with fail
  refine (CE.out _ (by have HBB := HB.out; have HBC := HB0.out; (repeat (first | (with_reducible exact Below.refl _ _) | (with_reducible assumption) | (with_reducible apply bl_alloc) | (with_reducible apply bl_drewN) | (with_reducible apply bl_drew) | (with_reducible refine bl_set ?_ (by first | (simp; done) | (simp; omega)) _) | (with_reducible refine bl_call ?_ (by assumption)))))).mono ?_
  rintro e w3 ⟨rfl, hb3⟩
  have HB3 : Hid (Below (w1.alloc (.cells #[.bool a1, .bool a2, .bool a3, .bool a4, .bool a5, .bool a6, .bool a7, .bool a8, .bool a9] 87)).heap.size (w1.alloc (.cells #[.bool a1, .bool a2, .bool a3, .bool a4, .bool a5, .bool a6, .bool a7, .bool a8, .bool a9] 87)) w3) := Lib.hid (by have HBB := HB.out; (repeat (first | (with_reducible exact Below.refl _ _) | (with_reducible assumption) | (with_reducible apply bl_alloc) | (with_reducible apply bl_drewN) | (with_reducible apply bl_drew) | (with_reducible refine bl_set ?_ (by first | (simp; done) | (simp; omega)) _) | (with_reducible refine bl_call ?_ (by assumption)))))
  clear hb3 ld1 CE
  have q := FX.out w3 HB3.out
  obtain ⟨ca1, ca2, ca3, ca4, ca5, ca6, ca7, ca8, ca9⟩ := frm_cells q.2
  have b12 := q.1.c12
  have b13 := q.1.c13
  have b14 := q.1.c14
  have b15 := q.1.c15
  have b16 := q.1.c16
  have b17 := q.1.c17
  clear q
  cases D3 with
  | false =>
    obtain rfl : R = r := by rw [GR.out]; rfl
    go_wp2_with fail
    go_ret
    exact ⟨rfl, by have HBB := HB3.out; have HBC := HB0.out; (repeat (first | (with_reducible exact Below.refl _ _) | (with_reducible assumption) | (with_reducible apply bl_alloc) | (with_reducible apply bl_drewN) | (with_reducible apply bl_drew) | (with_reducible refine bl_set ?_ (by first | (simp; done) | (simp; omega)) _) | (with_reducible refine bl_call ?_ (by assumption))))⟩
  | true =>
    cases a6 with
    | false =>
      obtain rfl : R = r := by rw [GR.out]; rfl
      go_wp2_with fail
      go_ret
      exact ⟨rfl, by have HBB := HB3.out; have HBC := HB0.out; (repeat (first | (with_reducible exact Below.refl _ _) | (with_reducible assumption) | (with_reducible apply bl_alloc) | (with_reducible apply bl_drewN) | (with_reducible apply bl_drew) | (with_reducible refine bl_set ?_ (by first | (simp; done) | (simp; omega)) _) | (with_reducible refine bl_call ?_ (by assumption))))⟩
    | true =>
      obtain rfl : R = d := by rw [GR.out]; rfl
      go_wp2_with fail
      refine (CD.out _ (by have HBB := HB3.out; have HBC := HB0.out; (repeat (first | (with_reducible exact Below.refl _ _) | (with_reducible assumption) | (with_reducible apply bl_alloc) | (with_reducible apply bl_drewN) | (with_reducible apply bl_drew) | (with_reducible refine bl_set ?_ (by first | (simp; done) | (simp; omega)) _) | (with_reducible refine bl_call ?_ (by assumption)))))).mono ?_
      rintro e w4 ⟨rfl, hb4⟩
      go_wp2_with fail
      go_ret
      exact ⟨rfl, by have HBB := HB3.out; have HBC := HB0.out; (repeat (first | (with_reducible exact Below.refl _ _) | (with_reducible assumption) | (with_reducible apply bl_alloc) | (with_reducible apply bl_drewN) | (with_reducible apply bl_drew) | (with_reducible refine bl_set ?_ (by first | (simp; done) | (simp; omega)) _) | (with_reducible refine bl_call ?_ (by assumption))))⟩
theorem chk_two (l : List UInt8) : chk l = 0 ∨ chk l = 3 := by unfold chk; split <;> simp
theorem one_math (a1 a2 a3 a4 a5 a6 : Bool) (c1 c2 e g a d : Int) (h1 : c1 = 0 ∨ c1 = 3) (h2 : c2 = 0 ∨ c2 = 3) (h5 : a5 = false → a = 0) :
    (if ((a1 && (c1 != 0)) || (a2 && (c2 != 0))) = true then 3 else if (((orE (onE a3 e) (orE (onE a4 g) a)) == 0) && a6) = true then d else orE (onE a3 e) (orE (onE a4 g) a)) = orE (onE a1 c1) (orE (onE a2 c2) (orE (onE a3 e) (orE (onE a4 g) (orE (onE a5 a) (onE a6 d))))) := by
  have e5 : onE a5 a = a := by cases a5; · rw [h5 rfl]; rfl
                               · rfl
  rw [e5]
  have e3 : orE (onE a3 e) (orE (onE a4 g) (orE a (onE a6 d))) = orE (orE (onE a3 e) (orE (onE a4 g) a)) (onE a6 d) := by rw [orE_assoc, orE_assoc]
  rw [e3]
  generalize orE (onE a3 e) (orE (onE a4 g) a) = r
  have e6 : (if ((r == 0) && a6) = true then d else r) = orE r (onE a6 d) := by
    unfold orE onE
    by_cases h : r = 0
    · subst h; cases a6 <;> simp
    · have : (r == 0) = false := beq_eq_false_iff_ne.2 h
      rw [this, if_neg h]; rfl
  rw [e6]
  rcases h1 with rfl | rfl <;> rcases h2 with rfl | rfl <;> cases a1 <;> cases a2 <;> rfl
theorem rdcheck_any {w : World} {x : St} {P : Pl} (hx : SIn w x P) : Calls Tryz.prog 56 #[.agg #[.int .i64 x.di.op, .int .i64 x.di.a, .int .i64 x.di.b, .int .i64 x.di.n, .slice P.vp P.vm P.vc, .slice P.wp P.wm P.wc]] w (Gives (.int .i64 (dtE x.di)) w) := by
  have h := Di.rcheck_any x.di.op x.di.a x.di.b x.di.n P.vp x.di.vs.length P.vc P.wp x.di.ws.length P.wc _ _ w hx.vs hx.ws
  rw [show dtE x.di = Di.errD x.di.op x.di.a x.di.b x.di.n x.di.vs.length x.di.ws.length (fun i => x.di.vs.getD i 0) (fun i => x.di.ws.getD i 0) from rfl]
  rw [hx.vlen, hx.wlen] at h ⊢
  exact h
theorem rone_any (x : St) (P : Pl) (w : World) (hx : SIn w x P) (hs : SzS x) : Calls Tryz.prog 39 #[.agg (cs x P)] w (Gives (.int .i64 (oneE x)) w) := by
  refine rone_walk x P w (uN x.o) (uO x.o) (uE x.o) (uF x.o) (uA x.o) (uD x.o) (uG x.o) (uB x.o) (uL x.o) (kn x.o) (kn x.o && frm x) _ _ _ _ (chk (bs x.nm)) (chk (bs x.f)) (orE (onE (uE x.o) (chkE false x.e)) (orE (onE (uF x.o) (chkE false x.g)) (argE x.ar))) (dtE x.di) (oneE x)
    (Lib.hid fun W hb => rof_any x.o W)
    (Lib.hid fun W hb => rformed_any x P W (hx.on hb))
    (Lib.hid fun W hb => Na.rcheck_any x.nm W (by have := hs.1; omega))
    (Lib.hid fun W hb => Na.rcheck_any x.f W (by have := hs.2.1; omega))
    (Lib.hid fun W hb => rexprsL_any x P W (hx.on hb) hs _ _ _ _ _ _ _ _ _)
    (Lib.hid fun W hb => rdcheck_any (hx.on hb))
    rfl rfl rfl (Lib.hid rfl) (Lib.hid ?_)
  unfold oneE
  cases hv : (kn x.o && frm x) with
  | false => rfl
  | true =>
    rw [if_pos rfl, if_pos rfl]
    unfold restE
    have hf : frm x = true := by simp only [Bool.and_eq_true] at hv; exact hv.2
    have h5 : uA x.o = false → argE x.ar = 0 := by
      intro h
      unfold frm at hf
      rw [h] at hf
      simp only [Bool.and_eq_true, Bool.false_or, decide_eq_true_eq] at hf
      have hn : x.ar = [] := List.length_eq_zero_iff.1 hf.1.1.1.1.2
      rw [hn]
      rfl
    exact (one_math _ _ _ _ _ _ _ _ _ _ _ _ (chk_two _) (chk_two _) h5).symm
end Go.Proofs.YtonlmnlpofgccaaGreat.Sm

/-
  The contracts of the reference's list and Check.
-/
namespace Go.Proofs.YtonlmnlpofgccaaGreat.Sm
open Go.RowKit
open Go.Proofs.YtonlmnlpofgccaaGreat.Na (bs bs_inj chk)
open Go.Proofs.YtonlmnlpofgccaaGreat.Ex (Ex Nm Kin In Sz Lo Gives bl_alloc bl_drewN bl_drew bl_set bl_call block_lt chkE)
attribute [local go_sem] cs0 cs1 cs2 cs3 cs4 cs5 cs6 cs7 cs8 cs9 cs10 cs11 cs12 cs13 cs14 cs15 cs16 cs17 cs18 cs19 cs20
set_option maxHeartbeats 4000000
set_option linter.unusedVariables false
set_option linter.unusedSimpArgs false
theorem bad_ord (x : St) : badS (ord x) = orE (oneE x) (orE (badS (ordL x.bo)) (badS (ordL x.el))) := by rw [ord_one, badS, badS_app]
theorem badL_take {l : List St} {k : Nat} {x : St} (h : l[k]? = some x) : badS (ordL (l.take (k + 1))) = orE (badS (ordL (l.take k))) (badS (ord x)) := by rw [ordL_take h, badS_app]
theorem badL_stop {l : List St} {k : Nat} {x : St} (h : l[k]? = some x) (h0 : badS (ordL (l.take k)) = 0) (h1 : ¬ badS (ord x) = 0) : badS (ordL l) = badS (ord x) := by
  have h2 := ordL_app (l.take (k + 1)) (l.drop (k + 1))
  rw [List.take_append_drop] at h2
  rw [h2, badS_app, badL_take h, h0, orE_yes, orE_no h1]
theorem rone_gives {x : St} {v : Int} (h : oneE x = v) (P : Pl) (w : World) (hx : SIn w x P) (hs : SzS x) : Calls Tryz.prog 39 #[.agg (cs x P)] w (Gives (.int .i64 v) w) := by subst h; exact rone_any x P w hx hs
set_option maxRecDepth 100000 in
theorem rlist_any (sl : List St) : ∀ (p : Option Addr) (m c : Nat) (w : World), LIn w sl p m → SzL sl → Calls Tryz.prog 20 #[.slice p m c] w (Gives (.int .i64 (badS (ordL sl))) w) := by
  induction sl using lst_ind with
  | h sl ih =>
    intro p m c w h hc
    have HH := Lib.hid h
    have HI := Lib.hid ih
    obtain ⟨hl, hm⟩ := h.len
    have HL := Lib.hid hl
    have HC := Lib.hid hc
    clear ih h hl hc
    obtain ⟨n21, hn21⟩ : ∃ n : Nat, 21 = n := ⟨_, rfl⟩
    have hsz : ∀ w, (sizeOf 39).run Tryz.prog w = .ok n21 w := fun w => by rw [Tryz.sizeOf39, hn21]
    have HN21 := Lib.hid hn21
    clear hn21
    go_enter Tryz.func20, Tryz.ntmps20
    go_wp2_with fail
    go_loopw [3] (fun i wr => ∃ k : Nat, k ≤ m ∧ Hid (badS (ordL (sl.take k)) = 0) ∧ i = .int .i64 (k : Nat) ∧ Hid (Below w.heap.size w wr)) (fun i _ => m - (intOf i).toNat)
    case atStart => exact ⟨0, Nat.zero_le _, Lib.hid rfl, rfl, Lib.hid (by (repeat (first | (with_reducible exact Below.refl _ _) | (with_reducible assumption) | (with_reducible apply bl_alloc) | (with_reducible apply bl_drewN) | (with_reducible apply bl_drew) | (with_reducible refine bl_set ?_ (by first | (simp; done) | (simp; omega)) _) | (with_reducible refine bl_call ?_ (by assumption)))))⟩
    case round =>
      obtain ⟨k, hk, HT0, rfl, HW⟩ := hrel
      have k0 : (0 : Int) ≤ (k : Int) := by omega
      rcases Nat.lt_or_ge k m with h | h
      · have k1 : (k : Int) < (m : Int) := by omega
        obtain ⟨b, o', rfl, -, hG, hcell⟩ := HH.out.rows (by omega)
        have hkl : k < sl.length := by rw [HL.out]; omega
        obtain ⟨P, hc21, hsin⟩ := hcell.out k hkl
        have hmem : sl[k] ∈ sl := List.getElem_mem hkl
        have hgx : sl[k]? = some sl[k] := List.getElem?_eq_getElem hkl
        obtain ⟨x, hx⟩ : ∃ x, sl[k] = x := ⟨_, rfl⟩
        rw [hx] at hc21 hsin hmem hgx
        have HSIN := Lib.hid hsin
        have HX := Lib.hid hgx
        have HM := Lib.hid hmem
        have hcw := (hc21.on HW.out hG).at HN21.out
        have hbr : b < wr.heap.size := Nat.lt_of_lt_of_le hG HW.out.size
        have hcsz : (cs x P).size = n21 := HN21.out
        have ld1 := (hcw).ldN HN21.out
        have ld2 := (hcw).loadVar
        have ld3 := (hcw).loadAt
        have st1 := st_store x P
        have st2 := st_storeVar x P
        have st3 := st_storeAt x P
        have HCW := Lib.hid hcw
        clear hcell hc21 hsin hx hmem hgx hkl hcw
        obtain ⟨i1, i2⟩ := HI.out x HM.out
        have hsx := HC.out.mem HM.out
        obtain ⟨v1, hv1⟩ : ∃ v, oneE x = v := ⟨_, rfl⟩
        obtain ⟨v2, hv2⟩ : ∃ v, badS (ordL x.bo) = v := ⟨_, rfl⟩
        obtain ⟨v3, hv3⟩ : ∃ v, badS (ordL x.el) = v := ⟨_, rfl⟩
        have F1 := Lib.hid (fun W hi => rone_gives hv1 P W hi hsx)
        have F2 := Lib.hid (fun W hi => i1 P.bp P.bm P.bc W hi (HC.out.bo HM.out))
        have F3 := Lib.hid (fun W hi => i2 P.lp P.lm P.lc W hi (HC.out.el HM.out))
        rw [hv2] at F2
        rw [hv3] at F3
        have hbo : badS (ord x) = orE v1 (orE v2 v3) := by rw [bad_ord, hv1, hv2, hv3]
        have HT : Hid (badS (ordL (sl.take (k + 1))) = orE v1 (orE v2 v3)) := Lib.hid (by rw [badL_take HX.out, HT0.out, orE_yes, hbo])
        have HE : Hid (¬ orE v1 (orE v2 v3) = 0 → badS (ordL sl) = orE v1 (orE v2 v3)) := Lib.hid (fun h1 => by rw [← hbo] at h1 ⊢; exact badL_stop HX.out HT0.out h1)
        have FC := Lib.hid (fun W (hb : Below wr.heap.size wr W) => And.intro ((HCW.out.on hb hbr) 19 _ rfl) ((HCW.out.on hb hbr) 20 _ rfl))
        clear i1 i2 hsx hv1 hv2 hv3 hbo
        go_wp2_with fail
        refine (F1.out _ (HSIN.out.on (by have HBB := HW.out; (repeat (first | (with_reducible exact Below.refl _ _) | (with_reducible assumption) | (with_reducible apply bl_alloc) | (with_reducible apply bl_drewN) | (with_reducible apply bl_drew) | (with_reducible refine bl_set ?_ (by first | (simp; done) | (simp; omega)) _) | (with_reducible refine bl_call ?_ (by assumption))))))).mono ?_
        rintro e w1 ⟨rfl, hb1⟩
        have c19 := (FC.out w1 (by (repeat (first | (with_reducible exact Below.refl _ _) | (with_reducible assumption) | (with_reducible apply bl_alloc) | (with_reducible apply bl_drewN) | (with_reducible apply bl_drew) | (with_reducible refine bl_set ?_ (by first | (simp; done) | (simp; omega)) _) | (with_reducible refine bl_call ?_ (by assumption)))))).1
        clear ld1 ld2 ld3 st1 st2 st3 F1
        by_cases z1 : v1 = 0
        case neg =>
          have t1 : (v1 == 0) = false := beq_eq_false_iff_ne.2 z1
          have t2 : (v1 != 0) = true := bne_iff_ne.2 z1
          have HR : Hid (badS (ordL sl) = v1) := Lib.hid (by rw [HE.out (by rw [orE_no z1]; exact z1), orE_no z1])
          clear z1
          go_wp2_with fail
          go_ret
          exact ⟨by rw [HR.out]; rfl, (by have HBB := HW.out; (repeat (first | (with_reducible exact Below.refl _ _) | (with_reducible assumption) | (with_reducible apply bl_alloc) | (with_reducible apply bl_drewN) | (with_reducible apply bl_drew) | (with_reducible refine bl_set ?_ (by first | (simp; done) | (simp; omega)) _) | (with_reducible refine bl_call ?_ (by assumption)))))⟩
        subst z1
        go_wp2_with fail
        refine (F2.out _ (HSIN.out.bo.on (by have HBB := HW.out; (repeat (first | (with_reducible exact Below.refl _ _) | (with_reducible assumption) | (with_reducible apply bl_alloc) | (with_reducible apply bl_drewN) | (with_reducible apply bl_drew) | (with_reducible refine bl_set ?_ (by first | (simp; done) | (simp; omega)) _) | (with_reducible refine bl_call ?_ (by assumption))))))).mono ?_
        rintro e w2 ⟨rfl, hb2⟩
        have c20 := (FC.out w2 (by (repeat (first | (with_reducible exact Below.refl _ _) | (with_reducible assumption) | (with_reducible apply bl_alloc) | (with_reducible apply bl_drewN) | (with_reducible apply bl_drew) | (with_reducible refine bl_set ?_ (by first | (simp; done) | (simp; omega)) _) | (with_reducible refine bl_call ?_ (by assumption)))))).2
        by_cases z1 : v2 = 0
        case neg =>
          have t1 : (v2 == 0) = false := beq_eq_false_iff_ne.2 z1
          have t2 : (v2 != 0) = true := bne_iff_ne.2 z1
          have HR : Hid (badS (ordL sl) = v2) := Lib.hid (by rw [HE.out (by rw [orE_yes, orE_no z1]; exact z1), orE_yes, orE_no z1])
          clear z1
          go_wp2_with fail
          go_ret
          exact ⟨by rw [HR.out]; rfl, (by have HBB := HW.out; (repeat (first | (with_reducible exact Below.refl _ _) | (with_reducible assumption) | (with_reducible apply bl_alloc) | (with_reducible apply bl_drewN) | (with_reducible apply bl_drew) | (with_reducible refine bl_set ?_ (by first | (simp; done) | (simp; omega)) _) | (with_reducible refine bl_call ?_ (by assumption)))))⟩
        subst z1
        go_wp2_with fail
        refine (F3.out _ (HSIN.out.el.on (by have HBB := HW.out; (repeat (first | (with_reducible exact Below.refl _ _) | (with_reducible assumption) | (with_reducible apply bl_alloc) | (with_reducible apply bl_drewN) | (with_reducible apply bl_drew) | (with_reducible refine bl_set ?_ (by first | (simp; done) | (simp; omega)) _) | (with_reducible refine bl_call ?_ (by assumption))))))).mono ?_
        rintro e w3 ⟨rfl, hb3⟩
        by_cases z1 : v3 = 0
        case neg =>
          have t1 : (v3 == 0) = false := beq_eq_false_iff_ne.2 z1
          have t2 : (v3 != 0) = true := bne_iff_ne.2 z1
          have HR : Hid (badS (ordL sl) = v3) := Lib.hid (by rw [HE.out (by rw [orE_yes, orE_yes]; exact z1), orE_yes, orE_yes])
          clear z1
          go_wp2_with fail
          go_ret
          exact ⟨by rw [HR.out]; rfl, (by have HBB := HW.out; (repeat (first | (with_reducible exact Below.refl _ _) | (with_reducible assumption) | (with_reducible apply bl_alloc) | (with_reducible apply bl_drewN) | (with_reducible apply bl_drew) | (with_reducible refine bl_set ?_ (by first | (simp; done) | (simp; omega)) _) | (with_reducible refine bl_call ?_ (by assumption)))))⟩
        subst z1
        have HR : Hid (badS (ordL (sl.take (k + 1))) = 0) := Lib.hid (by rw [HT.out, orE_yes, orE_yes])
        have HW3 : Hid (Below w.heap.size w w3) := Lib.hid (by have HBB := HW.out; (repeat (first | (with_reducible exact Below.refl _ _) | (with_reducible assumption) | (with_reducible apply bl_alloc) | (with_reducible apply bl_drewN) | (with_reducible apply bl_drew) | (with_reducible refine bl_set ?_ (by first | (simp; done) | (simp; omega)) _) | (with_reducible refine bl_call ?_ (by assumption)))))
        go_wp2_with fail
        go_roundw
        case rel => exact ⟨k + 1, by omega, HR, by go_num, HW3⟩
        case measure => simp [intOf]; omega
      · obtain rfl : m = k := by omega
        have HR : Hid (badS (ordL sl) = 0) := Lib.hid (by have h1 := HT0.out; rwa [List.take_of_length_le (by rw [HL.out]; exact Nat.le_refl _)] at h1)
        go_wp2_with fail
        go_ret
        exact ⟨by rw [HR.out]; rfl, (by have HBB := HW.out; (repeat (first | (with_reducible exact Below.refl _ _) | (with_reducible assumption) | (with_reducible apply bl_alloc) | (with_reducible apply bl_drewN) | (with_reducible apply bl_drew) | (with_reducible refine bl_set ?_ (by first | (simp; done) | (simp; omega)) _) | (with_reducible refine bl_call ?_ (by assumption)))))⟩
set_option maxRecDepth 100000 in
theorem rcheckL_any (sl : List St) (p : Option Addr) (m c : Nat) (w : World) (h : LIn w sl p m) (hs : SzL sl) (hc : cnL sl ≤ 4000000) : Calls Tryz.prog 7 #[.slice p m c] w (Gives (.int .i64 (chkL sl)) w) := by
  have HH := Lib.hid h
  have H1 := Lib.hid (fun W hi => rcount_any sl p m c W hi hc)
  have H2 := Lib.hid (fun W hi => rdepth_any sl p m c W hi hc)
  have H3 := Lib.hid (fun W hi => rlist_any sl p m c W hi hs)
  have hd := dpL_le_cnL sl
  obtain ⟨N, hN⟩ : ∃ N, cnL sl = N := ⟨_, rfl⟩
  obtain ⟨D, hD⟩ : ∃ D, dpL sl = D := ⟨_, rfl⟩
  obtain ⟨V, hV⟩ : ∃ V, badS (ordL sl) = V := ⟨_, rfl⟩
  have hk : chkL sl = if 200 < N then 6 else if 12 < D then 11 else V := by unfold chkL; rw [hN, hD, hV]
  rw [hk]
  rw [hN] at H1 hc hd
  rw [hD] at H2 hd
  rw [hV] at H3
  clear h hs hN hD hV hk
  by_cases h1 : 200 < N
  · rw [if_pos h1]
    have t1 : decide ((200 : Int) < (N : Int)) = true := decide_eq_true (by omega)
    have t2 : (200 : Int) < (N : Int) := by omega
    clear hd
    go_enter Tryz.func7, Tryz.ntmps7
    go_wp2_with fail
    refine (H1.out _ (HH.out.on (by (repeat (first | (with_reducible exact Below.refl _ _) | (with_reducible assumption) | (with_reducible apply bl_alloc) | (with_reducible apply bl_drewN) | (with_reducible apply bl_drew) | (with_reducible refine bl_set ?_ (by first | (simp; done) | (simp; omega)) _) | (with_reducible refine bl_call ?_ (by assumption))))))).mono ?_
    rintro e w1 ⟨rfl, hb1⟩
    go_wp2_with fail
    go_ret
    exact ⟨rfl, by (repeat (first | (with_reducible exact Below.refl _ _) | (with_reducible assumption) | (with_reducible apply bl_alloc) | (with_reducible apply bl_drewN) | (with_reducible apply bl_drew) | (with_reducible refine bl_set ?_ (by first | (simp; done) | (simp; omega)) _) | (with_reducible refine bl_call ?_ (by assumption))))⟩
  rw [if_neg h1]
  have t1 : decide ((200 : Int) < (N : Int)) = false := decide_eq_false (by omega)
  have t2 : (N : Int) ≤ 200 := by omega
  by_cases h2 : 12 < D
  · rw [if_pos h2]
    have t3 : decide ((12 : Int) < (D : Int)) = true := decide_eq_true (by omega)
    have t4 : (12 : Int) < (D : Int) := by omega
    clear hd
    go_enter Tryz.func7, Tryz.ntmps7
    go_wp2_with fail
    refine (H1.out _ (HH.out.on (by (repeat (first | (with_reducible exact Below.refl _ _) | (with_reducible assumption) | (with_reducible apply bl_alloc) | (with_reducible apply bl_drewN) | (with_reducible apply bl_drew) | (with_reducible refine bl_set ?_ (by first | (simp; done) | (simp; omega)) _) | (with_reducible refine bl_call ?_ (by assumption))))))).mono ?_
    rintro e w1 ⟨rfl, hb1⟩
    go_wp2_with fail
    refine (H2.out _ (HH.out.on (by (repeat (first | (with_reducible exact Below.refl _ _) | (with_reducible assumption) | (with_reducible apply bl_alloc) | (with_reducible apply bl_drewN) | (with_reducible apply bl_drew) | (with_reducible refine bl_set ?_ (by first | (simp; done) | (simp; omega)) _) | (with_reducible refine bl_call ?_ (by assumption))))))).mono ?_
    rintro e w2 ⟨rfl, hb2⟩
    go_wp2_with fail
    go_ret
    exact ⟨rfl, by (repeat (first | (with_reducible exact Below.refl _ _) | (with_reducible assumption) | (with_reducible apply bl_alloc) | (with_reducible apply bl_drewN) | (with_reducible apply bl_drew) | (with_reducible refine bl_set ?_ (by first | (simp; done) | (simp; omega)) _) | (with_reducible refine bl_call ?_ (by assumption))))⟩
  rw [if_neg h2]
  have t3 : decide ((12 : Int) < (D : Int)) = false := decide_eq_false (by omega)
  have t4 : (D : Int) ≤ 12 := by omega
  clear hd
  go_enter Tryz.func7, Tryz.ntmps7
  go_wp2_with fail
  refine (H1.out _ (HH.out.on (by (repeat (first | (with_reducible exact Below.refl _ _) | (with_reducible assumption) | (with_reducible apply bl_alloc) | (with_reducible apply bl_drewN) | (with_reducible apply bl_drew) | (with_reducible refine bl_set ?_ (by first | (simp; done) | (simp; omega)) _) | (with_reducible refine bl_call ?_ (by assumption))))))).mono ?_
  rintro e w1 ⟨rfl, hb1⟩
  go_wp2_with fail
  refine (H2.out _ (HH.out.on (by (repeat (first | (with_reducible exact Below.refl _ _) | (with_reducible assumption) | (with_reducible apply bl_alloc) | (with_reducible apply bl_drewN) | (with_reducible apply bl_drew) | (with_reducible refine bl_set ?_ (by first | (simp; done) | (simp; omega)) _) | (with_reducible refine bl_call ?_ (by assumption))))))).mono ?_
  rintro e w2 ⟨rfl, hb2⟩
  go_wp2_with fail
  refine (H3.out _ (HH.out.on (by (repeat (first | (with_reducible exact Below.refl _ _) | (with_reducible assumption) | (with_reducible apply bl_alloc) | (with_reducible apply bl_drewN) | (with_reducible apply bl_drew) | (with_reducible refine bl_set ?_ (by first | (simp; done) | (simp; omega)) _) | (with_reducible refine bl_call ?_ (by assumption))))))).mono ?_
  rintro e w3 ⟨rfl, hb3⟩
  go_wp2_with fail
  go_ret
  exact ⟨rfl, by (repeat (first | (with_reducible exact Below.refl _ _) | (with_reducible assumption) | (with_reducible apply bl_alloc) | (with_reducible apply bl_drewN) | (with_reducible apply bl_drew) | (with_reducible refine bl_set ?_ (by first | (simp; done) | (simp; omega)) _) | (with_reducible refine bl_call ?_ (by assumption))))⟩
end Go.Proofs.YtonlmnlpofgccaaGreat.Sm

/-
  The law of Checks.
-/
namespace Go.Proofs.YtonlmnlpofgccaaGreat.Sm
open Go.RowKit
open Go.Proofs.YtonlmnlpofgccaaGreat.Na (bs bs_inj chk)
open Go.Proofs.YtonlmnlpofgccaaGreat.Ex (Ex Nm Kin In Sz Lo Gives bl_alloc bl_drewN bl_drew bl_set bl_call block_lt)
set_option maxHeartbeats 2000000
set_option linter.unusedVariables false
theorem rcheckL_gives {sl : List St} {v : Int} (h : chkL sl = v) (p : Option Addr) (m c : Nat) (w : World) (hi : LIn w sl p m) (hs : SzL sl) (hc : cnL sl ≤ 4000000) : Calls Tryz.prog 7 #[.slice p m c] w (Gives (.int .i64 v) w) := by subst h; exact rcheckL_any sl p m c w hi hs hc
theorem rcount_gives {sl : List St} {n : Nat} (h : cnL sl = n) (p : Option Addr) (m c : Nat) (w : World) (hi : LIn w sl p m) (hc : cnL sl ≤ 4000000) : Calls Tryz.prog 9 #[.slice p m c] w (Gives (.int .i64 (n : Nat)) w) := by subst h; exact rcount_any sl p m c w hi hc
theorem rdepth_gives {sl : List St} {n : Nat} (h : dpL sl = n) (p : Option Addr) (m c : Nat) (w : World) (hi : LIn w sl p m) (hc : cnL sl ≤ 4000000) : Calls Tryz.prog 11 #[.slice p m c] w (Gives (.int .i64 (n : Nat)) w) := by subst h; exact rdepth_any sl p m c w hi hc
set_option maxRecDepth 100000 in
theorem stmtChecks_walk (l : List St) (p : Option Addr) (m c : Nat) (w : World) (h : LIn w l p m) (hmc : m ≤ c) (hz : szL l ≤ 1048576) (hs : SzL l) : Calls Tryz.prog 3 #[.slice p m c] w (Gives (.bool true) w) := by
  have HH := Lib.hid h
  obtain ⟨sb, hsb⟩ : ∃ b, decide (szL l ≤ 3000) = b := ⟨_, rfl⟩
  have HS := Lib.hid (fun W hi => small_gives hsb p m c W hi (by omega) hs)
  cases sb with
  | false =>
    clear h hmc hz hs hsb
    go_enter Tryz.func3, Tryz.ntmps3
    go_wp2_with fail
    refine (HS.out _ (HH.out.on (by (repeat (first | (with_reducible exact Below.refl _ _) | (with_reducible assumption) | (with_reducible apply bl_alloc) | (with_reducible apply bl_drewN) | (with_reducible apply bl_drew) | (with_reducible refine bl_set ?_ (by first | (simp; done) | (simp; omega)) _) | (with_reducible refine bl_call ?_ (by assumption))))))).mono ?_
    rintro e w1 ⟨rfl, hb1⟩
    go_wp2_with fail
    refine (awake_any _).mono ?_
    rintro e wz ⟨rfl, hbz⟩
    go_wp2_with fail
    go_ret
    exact ⟨rfl, by (repeat (first | (with_reducible exact Below.refl _ _) | (with_reducible assumption) | (with_reducible apply bl_alloc) | (with_reducible apply bl_drewN) | (with_reducible apply bl_drew) | (with_reducible refine bl_set ?_ (by first | (simp; done) | (simp; omega)) _) | (with_reducible refine bl_call ?_ (by assumption))))⟩
  | true =>
    have hz3 : szL l ≤ 3000 := of_decide_eq_true hsb
    have q3 := cnL_le_szL l
    obtain ⟨v, hv⟩ : ∃ v, chkL l = v := ⟨_, rfl⟩
    obtain ⟨N, hN⟩ : ∃ N, cnL l = N := ⟨_, rfl⟩
    obtain ⟨D, hD⟩ : ∃ D, dpL l = D := ⟨_, rfl⟩
    have C1 := Lib.hid (fun W hi => check_gives hv (p := p) (m := m) (c := c) (w := W) hi hs)
    have C2 := Lib.hid (fun W hi => rcheckL_gives hv p m c W hi hs (by omega))
    have N1 := Lib.hid (fun W hi => count_gives hN (p := p) (m := m) (c := c) (w := W) hi hs (by omega))
    have N2 := Lib.hid (fun W hi => rcount_gives hN p m c W hi (by omega))
    have D1 := Lib.hid (fun W hi => depth_gives2 hD (p := p) (m := m) (c := c) (w := W) hi (by omega))
    have D2 := Lib.hid (fun W hi => rdepth_gives hD p m c W hi (by omega))
    have e1 : (v == v) = true := beq_self_eq_true v
    have e2 : ((N : Int) == (N : Int)) = true := beq_self_eq_true _
    have e3 : ((D : Int) == (D : Int)) = true := beq_self_eq_true _
    clear h hmc hz hs hsb hz3 q3 hv hN hD
    go_enter Tryz.func3, Tryz.ntmps3
    go_wp2_with fail
    refine (HS.out _ (HH.out.on (by (repeat (first | (with_reducible exact Below.refl _ _) | (with_reducible assumption) | (with_reducible apply bl_alloc) | (with_reducible apply bl_drewN) | (with_reducible apply bl_drew) | (with_reducible refine bl_set ?_ (by first | (simp; done) | (simp; omega)) _) | (with_reducible refine bl_call ?_ (by assumption))))))).mono ?_
    rintro e w1 ⟨rfl, hb1⟩
    go_wp2_with fail
    refine (C1.out _ (HH.out.on (by (repeat (first | (with_reducible exact Below.refl _ _) | (with_reducible assumption) | (with_reducible apply bl_alloc) | (with_reducible apply bl_drewN) | (with_reducible apply bl_drew) | (with_reducible refine bl_set ?_ (by first | (simp; done) | (simp; omega)) _) | (with_reducible refine bl_call ?_ (by assumption))))))).mono ?_
    rintro e w2 ⟨rfl, hb2⟩
    go_wp2_with fail
    refine (C2.out _ (HH.out.on (by (repeat (first | (with_reducible exact Below.refl _ _) | (with_reducible assumption) | (with_reducible apply bl_alloc) | (with_reducible apply bl_drewN) | (with_reducible apply bl_drew) | (with_reducible refine bl_set ?_ (by first | (simp; done) | (simp; omega)) _) | (with_reducible refine bl_call ?_ (by assumption))))))).mono ?_
    rintro e w3 ⟨rfl, hb3⟩
    go_wp2_with fail
    refine (N1.out _ (HH.out.on (by (repeat (first | (with_reducible exact Below.refl _ _) | (with_reducible assumption) | (with_reducible apply bl_alloc) | (with_reducible apply bl_drewN) | (with_reducible apply bl_drew) | (with_reducible refine bl_set ?_ (by first | (simp; done) | (simp; omega)) _) | (with_reducible refine bl_call ?_ (by assumption))))))).mono ?_
    rintro e w4 ⟨rfl, hb4⟩
    go_wp2_with fail
    refine (N2.out _ (HH.out.on (by (repeat (first | (with_reducible exact Below.refl _ _) | (with_reducible assumption) | (with_reducible apply bl_alloc) | (with_reducible apply bl_drewN) | (with_reducible apply bl_drew) | (with_reducible refine bl_set ?_ (by first | (simp; done) | (simp; omega)) _) | (with_reducible refine bl_call ?_ (by assumption))))))).mono ?_
    rintro e w5 ⟨rfl, hb5⟩
    go_wp2_with fail
    refine (D1.out _ (HH.out.on (by (repeat (first | (with_reducible exact Below.refl _ _) | (with_reducible assumption) | (with_reducible apply bl_alloc) | (with_reducible apply bl_drewN) | (with_reducible apply bl_drew) | (with_reducible refine bl_set ?_ (by first | (simp; done) | (simp; omega)) _) | (with_reducible refine bl_call ?_ (by assumption))))))).mono ?_
    rintro e w6 ⟨rfl, hb6⟩
    go_wp2_with fail
    refine (D2.out _ (HH.out.on (by (repeat (first | (with_reducible exact Below.refl _ _) | (with_reducible assumption) | (with_reducible apply bl_alloc) | (with_reducible apply bl_drewN) | (with_reducible apply bl_drew) | (with_reducible refine bl_set ?_ (by first | (simp; done) | (simp; omega)) _) | (with_reducible refine bl_call ?_ (by assumption))))))).mono ?_
    rintro e w7 ⟨rfl, hb7⟩
    go_wp2_with fail
    refine (awake_any _).mono ?_
    rintro e wz ⟨rfl, hbz⟩
    go_wp2_with fail
    go_ret
    exact ⟨rfl, by (repeat (first | (with_reducible exact Below.refl _ _) | (with_reducible assumption) | (with_reducible apply bl_alloc) | (with_reducible apply bl_drewN) | (with_reducible apply bl_drew) | (with_reducible refine bl_set ?_ (by first | (simp; done) | (simp; omega)) _) | (with_reducible refine bl_call ?_ (by assumption))))⟩
end Go.Proofs.YtonlmnlpofgccaaGreat.Sm
