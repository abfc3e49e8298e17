/-
  The contract of the reference's Size.
-/
import Derived.Test.YtonlmnlpofgccaaGreatPBase
import Derived.Test.YtonlmnlpofgccaaGreatERNode
namespace Go.Proofs.YtonlmnlpofgccaaGreat.Sm
open Go.RowKit
open Go.Proofs.YtonlmnlpofgccaaGreat.Ex (Ex Nm Kin In Sz Lo Gives bl_alloc bl_drewN bl_drew bl_set bl_call block_lt)
attribute [local go_sem] cs0 cs1 cs2 cs3 cs4 cs5 cs6 cs7 cs8 cs9 cs10 cs11 cs12 cs13 cs14 cs15 cs16 cs17 cs18 cs19 cs20
set_option maxHeartbeats 1000000
set_option linter.unusedVariables false
theorem wr_add {a b : Nat} (h : a + b ≤ 2000000) : IntKind.i64.wrap ((a : Int) + (b : Int)) = ((a + b : Nat) : Int) := by rw [IntKind.wrap_i64]; omega
theorem szL_cap {l : List St} (k : Nat) {x : St} (hx : l[k]? = some x) : szL (l.take k) + sz x ≤ szL l := by
  rw [← szL_take hx]; exact szL_le _ _
theorem one_far {w : World} (x : St) (P : Pl) : Hid (∀ W, Below (w.alloc (.cells (cs x P) 39)).heap.size (w.alloc (.cells (cs x P) 39)) W → box21 W w.heap.size x P) := Lib.hid fun W hb => box_new21.on hb
theorem keep12 {w' : World} {g : Nat} {x : St} {P : Pl} (h : box21 w' g x P) : w'.cell? ⟨g, 3, none⟩ = some (.int .i64 x.e.o) ∧ w'.cell? ⟨g, 4, none⟩ = some (.string x.e.s) ∧ w'.cell? ⟨g, 5, none⟩ = some (.int .i64 x.e.n) ∧ w'.cell? ⟨g, 6, none⟩ = some (.slice P.ep P.em P.ec) ∧ w'.cell? ⟨g, 7, none⟩ = some (.int .i64 x.g.o) ∧ w'.cell? ⟨g, 8, none⟩ = some (.string x.g.s) ∧ w'.cell? ⟨g, 9, none⟩ = some (.int .i64 x.g.n) ∧ w'.cell? ⟨g, 10, none⟩ = some (.slice P.gp P.gm P.gc) ∧ w'.cell? ⟨g, 16, none⟩ = some (.slice P.vp P.vm P.vc) ∧ w'.cell? ⟨g, 17, none⟩ = some (.slice P.wp P.wm P.wc) ∧ w'.cell? ⟨g, 19, none⟩ = some (.slice P.bp P.bm P.bc) ∧ w'.cell? ⟨g, 20, none⟩ = some (.slice P.lp P.lm P.lc) :=
  ⟨h.c3, h.c4, h.c5, h.c6, h.c7, h.c8, h.c9, h.c10, h.c16, h.c17, h.c19, h.c20⟩
theorem rnodes_gives {e : Ex} {n : Nat} (h : Ex.cnt e = n) (p : Option Addr) (m c : Nat) (w : World) (hi : In w e p m) (hc : n ≤ 1000000) : Calls Tryz.prog 21 #[.agg #[.int .i64 e.o, .string e.s, .int .i64 e.n, .slice p m c]] w (Gives (.int .i64 (n : Nat)) w) := by subst h; exact Ex.rnodes_any e p m c w hi hc
set_option maxRecDepth 100000 in
theorem rsize_any (sl : List St) : ∀ (p : Option Addr) (m c : Nat) (w : World), LIn w sl p m → szL sl ≤ 2000000 → SzL sl → Calls Tryz.prog 12 #[.slice p m c] w (Gives (.int .i64 (szL sl : Nat)) w) := by
  induction sl using lst_ind with
  | h sl ih =>
    intro p m c w h hc hs
    have HH := Lib.hid h
    have HI := Lib.hid ih
    obtain ⟨hl, hm⟩ := h.len
    have HL := Lib.hid hl
    have HC := Lib.hid hc
    have HS := Lib.hid hs
    clear ih h hl hc hs
    obtain ⟨n21, hn21⟩ : ∃ n : Nat, 21 = n := ⟨_, rfl⟩
    have hsz : ∀ w, (sizeOf 39).run Tryz.prog w = .ok n21 w := fun w => by rw [Tryz.sizeOf39, hn21]
    have HN21 := Lib.hid hn21
    clear hn21
    go_enter Tryz.func12, Tryz.ntmps12
    go_wp2_with fail
    go_loopw [3, 4] (fun d i wr => ∃ k : Nat, k ≤ m ∧ d = .int .i64 (szL (sl.take k) : Nat) ∧ i = .int .i64 (k : Nat) ∧ Hid (Below w.heap.size w wr)) (fun d i _ => m - (intOf i).toNat)
    case atStart => exact ⟨0, Nat.zero_le _, rfl, rfl, Lib.hid (by (repeat (first | (with_reducible exact Below.refl _ _) | (with_reducible assumption) | (with_reducible apply bl_alloc) | (with_reducible apply bl_drewN) | (with_reducible apply bl_drew) | (with_reducible refine bl_set ?_ (by first | (simp; done) | (simp; omega)) _) | (with_reducible refine bl_call ?_ (by assumption)))))⟩
    case round =>
      obtain ⟨k, hk, rfl, rfl, HW⟩ := hrel
      have k0 : (0 : Int) ≤ (k : Int) := by omega
      rcases Nat.lt_or_ge k m with h | h
      · have k1 : (k : Int) < (m : Int) := by omega
        obtain ⟨b, o', rfl, -, hG, hcell⟩ := HH.out.rows (by omega)
        have hkl : k < sl.length := by rw [HL.out]; omega
        obtain ⟨P, hc21, hsin⟩ := hcell.out k hkl
        have hmem : sl[k] ∈ sl := List.getElem_mem hkl
        have hgx : sl[k]? = some sl[k] := List.getElem?_eq_getElem hkl
        obtain ⟨x, hx⟩ : ∃ x, sl[k] = x := ⟨_, rfl⟩
        rw [hx] at hc21 hsin hmem hgx
        have HSIN := Lib.hid hsin
        have HX := Lib.hid hgx
        have HM := Lib.hid hmem
        have hcw := (hc21.on HW.out hG).at HN21.out
        have hbr : b < wr.heap.size := Nat.lt_of_lt_of_le hG HW.out.size
        have hcsz : (cs x P).size = n21 := HN21.out
        have ld1 := (hcw).ldN HN21.out
        have ld2 := (hcw).loadVar
        have ld3 := (hcw).loadAt
        have st1 := st_store x P
        have st2 := st_storeVar x P
        have st3 := st_storeAt x P
        have HCW := Lib.hid hcw
        clear hcell hc21 hsin hx hmem hgx hkl hcw
        obtain ⟨i1, i2⟩ := HI.out x HM.out
        have hcap := szL_cap k HX.out
        have hcc := HC.out
        have hone := sz_one x
        have hsz0 : sz0 x.e x.g x.ar x.di = 1 + Ex.cnt x.e + Ex.cnt x.g + x.di.vs.length + x.di.ws.length + Ex.cntL x.ar := rfl
        have hSS := HS.out.mem HM.out
        have hv := HSIN.out.vlen
        have hw := HSIN.out.wlen
        have HK := Lib.hid (szL_take HX.out)
        obtain ⟨D, hD⟩ : ∃ D, szL (sl.take k) = D := ⟨_, rfl⟩
        obtain ⟨A1, hA1⟩ : ∃ n, Ex.cnt x.e = n := ⟨_, rfl⟩
        obtain ⟨A2, hA2⟩ : ∃ n, Ex.cnt x.g = n := ⟨_, rfl⟩
        obtain ⟨A3, hA3⟩ : ∃ n, szL x.bo = n := ⟨_, rfl⟩
        obtain ⟨A4, hA4⟩ : ∃ n, szL x.el = n := ⟨_, rfl⟩
        have F1 := Lib.hid (fun W hi => rnodes_gives hA1 P.ep P.em P.ec W hi (by rw [← hA1]; exact hSS.2.2.1.2))
        have F2 := Lib.hid (fun W hi => rnodes_gives hA2 P.gp P.gm P.gc W hi (by rw [← hA2]; exact hSS.2.2.2.1.2))
        have F3 := Lib.hid (fun W hi => i1 P.bp P.bm P.bc W hi (by omega) (HS.out.bo HM.out))
        have F4 := Lib.hid (fun W hi => i2 P.lp P.lm P.lc W hi (by omega) (HS.out.el HM.out))
        rw [hA3] at F3
        rw [hA4] at F4
        rw [hone, hsz0, hA1, hA2, hA3, hA4, hv, hw] at hcap
        have HSUM : Hid (szL (sl.take (k + 1)) = D + 1 + A1 + A2 + P.vm + P.wm + A3 + A4 + Ex.cntL x.ar) := Lib.hid (by rw [HK.out, hone, hsz0, hA1, hA2, hA3, hA4, hv, hw, hD]; omega)
        rw [hD] at hcap ⊢
        have htot : D + 1 + A1 + A2 + P.vm + P.wm + A3 + A4 + Ex.cntL x.ar ≤ 2000000 := by omega
        obtain ⟨A5, hA5⟩ : ∃ n, Ex.cntL x.ar = n := ⟨_, rfl⟩
        rw [hA5] at htot HSUM
        have HA5 := Lib.hid hA5
        have HSA := Lib.hid hSS.2.2.2.2
        have FX := one_far (w := wr) x P
        clear hD hA1 hA2 hA3 hA4 hA5 i1 i2 hcap hcc hone hsz0 hSS hv hw
        go_wp2_with fail
        go_region_held3 (fun w' => w'.cell? ⟨wr.heap.size, 3, none⟩ = some (.int .i64 x.e.o) ∧ w'.cell? ⟨wr.heap.size, 4, none⟩ = some (.string x.e.s) ∧ w'.cell? ⟨wr.heap.size, 5, none⟩ = some (.int .i64 x.e.n) ∧ w'.cell? ⟨wr.heap.size, 6, none⟩ = some (.slice P.ep P.em P.ec) ∧ w'.cell? ⟨wr.heap.size, 7, none⟩ = some (.int .i64 x.g.o) ∧ w'.cell? ⟨wr.heap.size, 8, none⟩ = some (.string x.g.s) ∧ w'.cell? ⟨wr.heap.size, 9, none⟩ = some (.int .i64 x.g.n) ∧ w'.cell? ⟨wr.heap.size, 10, none⟩ = some (.slice P.gp P.gm P.gc) ∧ w'.cell? ⟨wr.heap.size, 16, none⟩ = some (.slice P.vp P.vm P.vc) ∧ w'.cell? ⟨wr.heap.size, 17, none⟩ = some (.slice P.wp P.wm P.wc) ∧ w'.cell? ⟨wr.heap.size, 19, none⟩ = some (.slice P.bp P.bm P.bc) ∧ w'.cell? ⟨wr.heap.size, 20, none⟩ = some (.slice P.lp P.lm P.lc)) (first | (refine keep12 (FX.out _ ?_); (repeat (first | (with_reducible exact Below.refl _ _) | (with_reducible assumption) | (with_reducible apply bl_alloc) | (with_reducible apply bl_drewN) | (with_reducible apply bl_drew) | (with_reducible refine bl_set ?_ (by first | (simp; done) | (simp; omega)) _) | (with_reducible refine bl_call ?_ (by assumption)))); done) | (go_keep; done)) (first
          | (have t := hb3; go_at_call 12; refine (F4.out _ (HSIN.out.el.on (by have HBB := HW.out; (repeat (first | (with_reducible exact Below.refl _ _) | (with_reducible assumption) | (with_reducible apply bl_alloc) | (with_reducible apply bl_drewN) | (with_reducible apply bl_drew) | (with_reducible refine bl_set ?_ (by first | (simp; done) | (simp; omega)) _) | (with_reducible refine bl_call ?_ (by assumption))))))).mono ?_; rintro e w4 ⟨rfl, hb4⟩)
          | (have t := hb2; go_at_call 12; refine (F3.out _ (HSIN.out.bo.on (by have HBB := HW.out; (repeat (first | (with_reducible exact Below.refl _ _) | (with_reducible assumption) | (with_reducible apply bl_alloc) | (with_reducible apply bl_drewN) | (with_reducible apply bl_drew) | (with_reducible refine bl_set ?_ (by first | (simp; done) | (simp; omega)) _) | (with_reducible refine bl_call ?_ (by assumption))))))).mono ?_; rintro e w3 ⟨rfl, hb3⟩)
          | (have t := hb1; go_at_call 21; refine (F2.out _ (HSIN.out.g.on (by have HBB := HW.out; (repeat (first | (with_reducible exact Below.refl _ _) | (with_reducible assumption) | (with_reducible apply bl_alloc) | (with_reducible apply bl_drewN) | (with_reducible apply bl_drew) | (with_reducible refine bl_set ?_ (by first | (simp; done) | (simp; omega)) _) | (with_reducible refine bl_call ?_ (by assumption))))))).mono ?_; rintro e w2 ⟨rfl, hb2⟩)
          | (go_at_call 21; refine (F1.out _ (HSIN.out.e.on (by have HBB := HW.out; (repeat (first | (with_reducible exact Below.refl _ _) | (with_reducible assumption) | (with_reducible apply bl_alloc) | (with_reducible apply bl_drewN) | (with_reducible apply bl_drew) | (with_reducible refine bl_set ?_ (by first | (simp; done) | (simp; omega)) _) | (with_reducible refine bl_call ?_ (by assumption))))))).mono ?_; rintro e w1 ⟨rfl, hb1⟩))
        have HW4 : Hid (Below w.heap.size w w4) := Lib.hid (by have HBB := HW.out; (repeat (first | (with_reducible exact Below.refl _ _) | (with_reducible assumption) | (with_reducible apply bl_alloc) | (with_reducible apply bl_drewN) | (with_reducible apply bl_drew) | (with_reducible refine bl_set ?_ (by first | (simp; done) | (simp; omega)) _) | (with_reducible refine bl_call ?_ (by assumption)))))
        have FX4 : Hid (∀ W, Below w4.heap.size w4 W → box21 W wr.heap.size x P) := Lib.hid fun W hbW => FX.out _ (by (repeat (first | (with_reducible exact Below.refl _ _) | (with_reducible assumption) | (with_reducible apply bl_alloc) | (with_reducible apply bl_drewN) | (with_reducible apply bl_drew) | (with_reducible refine bl_set ?_ (by first | (simp; done) | (simp; omega)) _) | (with_reducible refine bl_call ?_ (by assumption)))))
        obtain ⟨S, hS⟩ : ∃ S, D + 1 + A1 + A2 + P.vm + P.wm + A3 + A4 = S := ⟨_, rfl⟩
        have hwr : IntKind.i64.wrap (IntKind.i64.wrap (IntKind.i64.wrap (IntKind.i64.wrap (IntKind.i64.wrap (IntKind.i64.wrap (IntKind.i64.wrap ((D : Int) + 1) + (A1 : Int)) + (A2 : Int)) + (P.vm : Int)) + (P.wm : Int)) + (A3 : Int)) + (A4 : Int)) = (S : Int) := by
          rw [show (D : Int) + 1 = (D : Int) + ((1 : Nat) : Int) from rfl, wr_add (by omega), wr_add (by omega), wr_add (by omega), wr_add (by omega), wr_add (by omega), wr_add (by omega), wr_add (by omega), hS]
        rw [hwr]
        rw [hS] at htot HSUM
        have HTOT := Lib.hid htot
        have c11 := (FX4.out _ (Below.refl _ _)).c11
        clear hwr hS htot hb1 hb2 hb3 hb4 FX F1 F2 F3 F4 HI ld1 ld2 ld3 st1 st2 st3 hcsz
        go_wp2_with fail
        go_loopw [3, 6] (fun d j wr => ∃ t : Nat, t ≤ P.am ∧ d = .int .i64 ((S + Ex.cntL (x.ar.take t) : Nat)) ∧ j = .int .i64 (t : Nat) ∧ Hid (Below w4.heap.size w4 wr)) (fun d j _ => P.am - (intOf j).toNat)
        case atStart => exact ⟨0, Nat.zero_le _, by simp [Ex.cntL], rfl, Lib.hid (Below.refl _ _)⟩
        case round =>
          obtain ⟨t, ht, rfl, rfl, HWi⟩ := hrel
          have t0 : (0 : Int) ≤ (t : Int) := by omega
          obtain ⟨hal, ham⟩ := HSIN.out.ar.len
          have c11 := (FX4.out _ HWi.out).c11
          have HWI : Hid (Below w.heap.size w wr) := Lib.hid (by have h1 := HW4.out; have h2 := HWi.out; (repeat (first | (with_reducible exact Below.refl _ _) | (with_reducible assumption) | (with_reducible apply bl_alloc) | (with_reducible apply bl_drewN) | (with_reducible apply bl_drew) | (with_reducible refine bl_set ?_ (by first | (simp; done) | (simp; omega)) _) | (with_reducible refine bl_call ?_ (by assumption)))))
          rcases Nat.lt_or_ge t P.am with h | h
          · have t1 : (t : Int) < (P.am : Int) := by omega
            obtain ⟨b', o'', hap, -, hG', hcell'⟩ := HSIN.out.ar.kids (by omega)
            have hkl' : t < x.ar.length := by omega
            obtain ⟨q, j, c', hc4, hkin⟩ := hcell'.out t hkl'
            have hmem' : x.ar[t] ∈ x.ar := List.getElem_mem hkl'
            have hgx' : x.ar[t]? = some x.ar[t] := List.getElem?_eq_getElem hkl'
            obtain ⟨y, hy⟩ : ∃ y, x.ar[t] = y := ⟨_, rfl⟩
            rw [hy] at hc4 hkin hmem' hgx'
            obtain ⟨e0, e1, e2, e3⟩ := hc4.on HWI.out hG'
            rw [hap] at c11
            have hbi : b' < wr.heap.size := Nat.lt_of_lt_of_le hG' HWI.out.size
            have HKIN := Lib.hid hkin
            have hcap : Ex.cntL (x.ar.take t) + Ex.cnt y ≤ Ex.cntL x.ar := by
              have h1 := Ex.cntL_take hgx'
              have h2 := Ex.cntL_le x.ar (t + 1)
              omega
            have HK2 := Lib.hid (Ex.cntL_take hgx')
            have hb1 := (HSA.out y hmem').2
            have htt := HTOT.out
            rw [HA5.out] at hcap
            obtain ⟨G, hG0⟩ : ∃ G, Ex.cntL (x.ar.take t) = G := ⟨_, rfl⟩
            obtain ⟨E, hE⟩ : ∃ E, Ex.cnt y = E := ⟨_, rfl⟩
            have F1 := Lib.hid (fun W hi => rnodes_gives hE q j c' W hi (by rw [← hE]; exact hb1))
            rw [hG0] at hcap HK2 ⊢
            rw [hE] at hcap HK2
            have hcap2 : S + G + E ≤ 2000000 := by omega
            clear hcell' hc4 hkin hy hmem' hgx' hkl' hcap hb1 htt hG0 hE
            go_wp2_with fail
            refine (F1.out _ (HKIN.out.on (by have HBB := HWI.out; (repeat (first | (with_reducible exact Below.refl _ _) | (with_reducible assumption) | (with_reducible apply bl_alloc) | (with_reducible apply bl_drewN) | (with_reducible apply bl_drew) | (with_reducible refine bl_set ?_ (by first | (simp; done) | (simp; omega)) _) | (with_reducible refine bl_call ?_ (by assumption))))))).mono ?_
            rintro e w5 ⟨rfl, hb5⟩
            have HW5 : Hid (Below w4.heap.size w4 w5) := Lib.hid (by have h1 := HWi.out; (repeat (first | (with_reducible exact Below.refl _ _) | (with_reducible assumption) | (with_reducible apply bl_alloc) | (with_reducible apply bl_drewN) | (with_reducible apply bl_drew) | (with_reducible refine bl_set ?_ (by first | (simp; done) | (simp; omega)) _) | (with_reducible refine bl_call ?_ (by assumption)))))
            clear hb5 F1
            go_wp2_with fail
            go_roundw
            case rel => exact ⟨t + 1, by omega, by rw [HK2.out]; go_num, by go_num, HW5⟩
            case measure => simp [intOf]; omega
          · obtain rfl : P.am = t := by omega
            have HTA : Hid (x.ar.take P.am = x.ar) := Lib.hid (List.take_of_length_le (by omega))
            rw [HTA.out, HA5.out]
            have HR : Hid (szL (sl.take (k + 1)) = S + A5) := Lib.hid (by rw [HSUM.out])
            go_wp2_with fail
            go_roundw
            case rel => exact ⟨k + 1, by omega, by rw [HR.out], by go_num, HWI⟩
            case measure => simp [intOf]; omega
      · obtain rfl : m = k := by omega
        have HT : Hid (sl.take m = sl) := Lib.hid (List.take_of_length_le (by rw [HL.out]; exact Nat.le_refl _))
        have d2 := HC.out
        rw [HT.out]
        obtain ⟨D, hD⟩ : ∃ D, szL sl = D := ⟨_, rfl⟩
        rw [hD] at d2 ⊢
        have HD := Lib.hid hD
        clear hD
        go_wp2_with fail
        go_ret
        exact ⟨by rw [HD.out]; rfl, HW.out⟩
end Go.Proofs.YtonlmnlpofgccaaGreat.Sm
