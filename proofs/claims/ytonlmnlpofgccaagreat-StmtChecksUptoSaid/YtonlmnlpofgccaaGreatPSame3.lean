/-
  The contracts of Same and of the library's EqualFunc by sameOne.
-/
import Derived.Test.YtonlmnlpofgccaaGreatPSame2
namespace Go.Proofs.YtonlmnlpofgccaaGreat.Sm
open Go.RowKit
open Go.Proofs.YtonlmnlpofgccaaGreat.Na (bs bs_inj chk)
open Go.Proofs.YtonlmnlpofgccaaGreat.Ex (Ex Nm Kin In Sz Lo Gives bl_alloc bl_drewN bl_drew bl_set bl_call block_lt eq_yes eq_no)
attribute [local go_sem] cs0 cs1 cs2 cs3 cs4 cs5 cs6 cs7 cs8 cs9 cs10 cs11 cs12 cs13 cs14 cs15 cs16 cs17 cs18 cs19 cs20
set_option maxHeartbeats 1000000
set_option linter.unusedVariables false
abbrev SameC (f : FuncId) (sl : List St) : Prop := ∀ (l2 : List St) (p : Option Addr) (m c : Nat) (p2 : Option Addr) (m2 c2 : Nat) (w : World), LIn w sl p m → LIn w l2 p2 m2 → Calls Tryz.prog f #[.slice p m c, .slice p2 m2 c2] w (Gives (.bool (sameSL sl l2)) w)
theorem sameS_no {x y : St} (h : same0 x y = false) : sameS x y = false := by rw [sameS_one, h]; rfl
theorem one_of (x : St) (h1 : SameC 16 x.bo) (h2 : SameC 16 x.el) (y : St) (P Q : Pl) (w : World) (hx : SIn w x P) (hy : SIn w y Q) : Calls Tryz.prog 25 #[.agg (cs x P), .agg (cs y Q)] w (Gives (.bool (sameS x y)) w) := by
  by_cases t1 : x.o = y.o
  case neg =>
    rw [sameS_no (by unfold same0; rw [decide_eq_false t1]; rfl)]
    exact one_no1 x y P Q w (beq_eq_false_iff_ne.2 t1)
  by_cases t2 : bs x.nm = bs y.nm
  case neg =>
    rw [sameS_no (by unfold same0; rw [decide_eq_false t2]; simp)]
    exact one_no2 x y P Q w (beq_iff_eq.2 t1) (eq_no t2)
  by_cases t3 : bs x.f = bs y.f
  case neg =>
    rw [sameS_no (by unfold same0; rw [decide_eq_false t3]; simp)]
    exact one_no3 x y P Q w (beq_iff_eq.2 t1) (eq_yes t2) (eq_no t3)
  cases t4 : (x.fl == y.fl) with
  | false =>
    rw [sameS_no (by unfold same0; rw [t4]; simp)]
    exact one_no4 x y P Q w (beq_iff_eq.2 t1) (eq_yes t2) (eq_yes t3) t4
  | true =>
    have e : sameS x y = (Ex.same x.e y.e && Ex.same x.g y.g && Ex.sameL x.ar y.ar && sameDt x.di y.di && sameSL x.bo y.bo && sameSL x.el y.el) := by
      rw [sameS_one]; unfold same0; rw [decide_eq_true t1, decide_eq_true t2, decide_eq_true t3, t4]; simp only [Bool.true_and]
    rw [e]
    exact one_calls x y P Q w _ _ _ _ _ _ (Lib.hid fun W hb => Ex.same_any x.e y.e P.ep P.em P.ec Q.ep Q.em Q.ec W (hx.e.on hb) (hy.e.on hb)) (Lib.hid fun W hb => Ex.same_any x.g y.g P.gp P.gm P.gc Q.gp Q.gm Q.gc W (hx.g.on hb) (hy.g.on hb))
      (Lib.hid fun W hb => args_any (hx.on hb) (hy.on hb)) (Lib.hid fun W hb => dsame_any (hx.on hb) (hy.on hb)) (Lib.hid fun W hb => h1 y.bo P.bp P.bm P.bc Q.bp Q.bm Q.bc W (hx.on hb).bo (hy.on hb).bo) (Lib.hid fun W hb => h2 y.el P.lp P.lm P.lc Q.lp Q.lm Q.lc W (hx.on hb).el (hy.on hb).el)
      (beq_iff_eq.2 t1) (eq_yes t2) (eq_yes t3) t4
theorem st_store1 {P : Pl} (x : St) (w : World) (o : Obj) (z : Array Value) (hz : z.size = 21) : (storeCells ⟨w.heap.size + 1, 0, none⟩ (cs x P).toList 0).run Tryz.prog ((w.alloc o).alloc (.cells z 39)) = .ok () ((w.alloc o).alloc (.cells (cs x P) 39)) := by
  have := st_store x P z hz (w.alloc o)
  rwa [show (w.alloc o).heap.size = w.heap.size + 1 by simp] at this
theorem st_storeVar1 {P : Pl} (x : St) (w : World) (o : Obj) (z : Array Value) (hz : z.size = 21) : (storeVar 39 ⟨w.heap.size + 1, 0, none⟩ (.agg (cs x P))).run Tryz.prog ((w.alloc o).alloc (.cells z 39)) = .ok () ((w.alloc o).alloc (.cells (cs x P) 39)) := by
  have := st_storeVar x P z hz (w.alloc o)
  rwa [show (w.alloc o).heap.size = w.heap.size + 1 by simp] at this
theorem st_storeAt1 {P : Pl} (x : St) (w : World) (o : Obj) (z : Array Value) (hz : z.size = 21) : (Instr.storeAt 39 (.pointer (some ⟨w.heap.size + 1, 0, none⟩)) (.agg (cs x P))).run Tryz.prog ((w.alloc o).alloc (.cells z 39)) = .ok () ((w.alloc o).alloc (.cells (cs x P) 39)) := by
  have := st_storeAt x P z hz (w.alloc o)
  rwa [show (w.alloc o).heap.size = w.heap.size + 1 by simp] at this
set_option maxRecDepth 100000 in
theorem equal_of (sl : List St) (ih : ∀ x ∈ sl, ∀ (y : St) (P Q : Pl) (w : World), SIn w x P → SIn w y Q → Calls Tryz.prog 25 #[.agg (cs x P), .agg (cs y Q)] w (Gives (.bool (sameS x y)) w))
    (l2 : List St) (p : Option Addr) (m c : Nat) (p2 : Option Addr) (m2 c2 : Nat) (w : World) (h : LIn w sl p m) (h2 : LIn w l2 p2 m2) :
    Calls Tryz.prog 24 #[.slice p m c, .slice p2 m2 c2, .func (.func 25) #[] #[]] w (Gives (.bool (sameSL sl l2)) w) := by
  have HH := Lib.hid h
  have HH2 := Lib.hid h2
  have HI := Lib.hid ih
  obtain ⟨hl, hm⟩ := h.len
  obtain ⟨hl2, hm2⟩ := h2.len
  have HL := Lib.hid hl
  have HL2 := Lib.hid hl2
  clear ih h h2 hl hl2
  by_cases hmm : m = m2
  · subst hmm
    obtain ⟨n21, hn21⟩ : ∃ n : Nat, 21 = n := ⟨_, rfl⟩
    have hsz : ∀ w, (sizeOf 39).run Tryz.prog w = .ok n21 w := fun w => by rw [Tryz.sizeOf39, hn21]
    have HN21 := Lib.hid hn21
    clear hn21
    go_enter Tryz.func24, Tryz.ntmps24
    go_wp2_with fail
    go_loopw [17] (fun i wr => ∃ k : Nat, k ≤ m ∧ Hid (sl.take k = l2.take k) ∧ i = .int .i64 (k : Nat) ∧ Hid (Below w.heap.size w wr)) (fun i _ => m - (intOf i).toNat)
    case atStart => exact ⟨0, Nat.zero_le _, Lib.hid rfl, rfl, Lib.hid (by (repeat (first | (with_reducible exact Below.refl _ _) | (with_reducible assumption) | (with_reducible apply bl_alloc) | (with_reducible apply bl_drewN) | (with_reducible apply bl_drew) | (with_reducible refine bl_set ?_ (by first | (simp; done) | (simp; omega)) _) | (with_reducible refine bl_call ?_ (by assumption)))))⟩
    case round =>
      obtain ⟨k, hk, HT0, rfl, HW⟩ := hrel
      have k0 : (0 : Int) ≤ (k : Int) := by omega
      rcases Nat.lt_or_ge k m with h | h
      · have k1 : (k : Int) < (m : Int) := by omega
        obtain ⟨b, o', rfl, -, hG, hcell⟩ := HH.out.rows (by omega)
        have hkl : k < sl.length := by rw [HL.out]; omega
        obtain ⟨P, hc21, hsin⟩ := hcell.out k hkl
        have hmem : sl[k] ∈ sl := List.getElem_mem hkl
        have hgx : sl[k]? = some sl[k] := List.getElem?_eq_getElem hkl
        obtain ⟨x, hx⟩ : ∃ x, sl[k] = x := ⟨_, rfl⟩
        rw [hx] at hc21 hsin hmem hgx
        have HSIN := Lib.hid hsin
        have HX := Lib.hid hgx
        have HM := Lib.hid hmem
        have hcw := (hc21.on HW.out hG).at HN21.out
        have hbr : b < wr.heap.size := Nat.lt_of_lt_of_le hG HW.out.size
        have hcsz : (cs x P).size = n21 := HN21.out
        have ld1 := (hcw).ldN HN21.out
        have ld2 := (hcw).loadVar
        have ld3 := (hcw).loadAt
        have st1 := st_store x P
        have st2 := st_storeVar x P
        have st3 := st_storeAt x P
        have HCW := Lib.hid hcw
        clear hcell hc21 hsin hx hmem hgx hkl hcw
        obtain ⟨b2, o2, rfl, -, hG2, hcell2⟩ := HH2.out.rows (by omega)
        have hkl2 : k < l2.length := by rw [HL2.out]; omega
        obtain ⟨Q, hcy, hsy⟩ := hcell2.out k hkl2
        have hgy : l2[k]? = some l2[k] := List.getElem?_eq_getElem hkl2
        obtain ⟨y, hy⟩ : ∃ y, l2[k] = y := ⟨_, rfl⟩
        rw [hy] at hcy hsy hgy
        have hcyw := (((hcy.on HW.out hG2).on (w2 := wr.alloc (.cells (cs x P) 39)) (by (repeat (first | (with_reducible exact Below.refl _ _) | (with_reducible assumption) | (with_reducible apply bl_alloc) | (with_reducible apply bl_drewN) | (with_reducible apply bl_drew) | (with_reducible refine bl_set ?_ (by first | (simp; done) | (simp; omega)) _) | (with_reducible refine bl_call ?_ (by assumption))))) (Nat.lt_of_lt_of_le hG2 HW.out.size))).at HN21.out
        have hbr2 : b2 < wr.heap.size := Nat.lt_of_lt_of_le hG2 HW.out.size
        have hcsz2 : (cs y Q).size = n21 := HN21.out
        have le1 := hcyw.ldN HN21.out
        have le2 := hcyw.loadVar
        have le3 := hcyw.loadAt
        have sy1 := st_store1 (P := Q) y wr (.cells (cs x P) 39)
        have sy2 := st_storeVar1 (P := Q) y wr (.cells (cs x P) 39)
        have sy3 := st_storeAt1 (P := Q) y wr (.cells (cs x P) 39)
        have T2 := (two_far (w := wr) x y P Q).out _ (Below.refl _ _)
        have lx := T2.1.cell.ldN HN21.out
        have ly := T2.2.cell.ldN HN21.out
        have HSY := Lib.hid hsy
        have HS := Lib.hid (sameSL_stop HX.out hgy)
        have HE := Lib.hid (takeS_same HX.out hgy)
        have HI1 := Lib.hid (fun W => HI.out x HM.out y P Q W)
        obtain ⟨E, hE⟩ : ∃ E, sameS x y = E := ⟨_, rfl⟩
        rw [hE] at HI1 HS HE
        clear hE hcell2 hkl2 hcy hsy hgy hy hcyw T2
        go_wp2_with fail
        refine (HI1.out _ (HSIN.out.on (by have HBB := HW.out; (repeat (first | (with_reducible exact Below.refl _ _) | (with_reducible assumption) | (with_reducible apply bl_alloc) | (with_reducible apply bl_drewN) | (with_reducible apply bl_drew) | (with_reducible refine bl_set ?_ (by first | (simp; done) | (simp; omega)) _) | (with_reducible refine bl_call ?_ (by assumption)))))) (HSY.out.on (by have HBB := HW.out; (repeat (first | (with_reducible exact Below.refl _ _) | (with_reducible assumption) | (with_reducible apply bl_alloc) | (with_reducible apply bl_drewN) | (with_reducible apply bl_drew) | (with_reducible refine bl_set ?_ (by first | (simp; done) | (simp; omega)) _) | (with_reducible refine bl_call ?_ (by assumption))))))).mono ?_
        rintro e w2 ⟨rfl, hb2⟩
        have HW2 : Hid (Below w.heap.size w w2) := Lib.hid (by have HBB := HW.out; (repeat (first | (with_reducible exact Below.refl _ _) | (with_reducible assumption) | (with_reducible apply bl_alloc) | (with_reducible apply bl_drewN) | (with_reducible apply bl_drew) | (with_reducible refine bl_set ?_ (by first | (simp; done) | (simp; omega)) _) | (with_reducible refine bl_call ?_ (by assumption)))))
        clear hb2 HI1
        cases E with
        | true =>
          have HR := Lib.hid (HE.out rfl HT0.out)
          go_wp2_with fail
          go_roundw
          case rel => exact ⟨k + 1, by omega, HR, by go_num, HW2⟩
          case measure => simp [intOf]; omega
        | false =>
          have HR := Lib.hid (HS.out rfl)
          go_wp2_with fail
          go_ret
          exact ⟨by rw [HR.out]; rfl, HW2.out⟩
      · obtain rfl : m = k := by omega
        have HR : Hid (sameSL sl l2 = true) := Lib.hid (by
          have h1 := HT0.out
          rw [List.take_of_length_le (by rw [HL.out]; exact Nat.le_refl _), List.take_of_length_le (by rw [HL2.out]; exact Nat.le_refl _)] at h1
          rw [h1]
          exact sameSL_self _)
        go_wp2_with fail
        go_ret
        exact ⟨by rw [HR.out]; rfl, HW.out⟩
  · rw [sameSL_len (by rw [HL.out, HL2.out]; exact hmm)]
    have t1 : ((m : Int) == (m2 : Int)) = false := beq_eq_false_iff_ne.2 (by omega)
    have t2 : ((m : Int) != (m2 : Int)) = true := bne_iff_ne.2 (by omega)
    clear hmm
    go_enter Tryz.func24, Tryz.ntmps24
    go_wp2_with fail
    go_ret
    exact ⟨rfl, by (repeat (first | (with_reducible exact Below.refl _ _) | (with_reducible assumption) | (with_reducible apply bl_alloc) | (with_reducible apply bl_drewN) | (with_reducible apply bl_drew) | (with_reducible refine bl_set ?_ (by first | (simp; done) | (simp; omega)) _) | (with_reducible refine bl_call ?_ (by assumption))))⟩
theorem same_any (sl : List St) : SameC 16 sl := by
  induction sl using lst_ind with
  | h sl ih =>
    intro l2 p m c p2 m2 c2 w h h2
    have HE := Lib.hid (fun W g1 g2 => equal_of sl (fun x hx => one_of x (ih x hx).1 (ih x hx).2) l2 p m c p2 m2 c2 W g1 g2)
    have HH := Lib.hid h
    have HH2 := Lib.hid h2
    clear ih h h2
    go_enter Tryz.func16, Tryz.ntmps16
    go_wp2_with fail
    refine (HE.out _ (HH.out.on (by (repeat (first | (with_reducible exact Below.refl _ _) | (with_reducible assumption) | (with_reducible apply bl_alloc) | (with_reducible apply bl_drewN) | (with_reducible apply bl_drew) | (with_reducible refine bl_set ?_ (by first | (simp; done) | (simp; omega)) _) | (with_reducible refine bl_call ?_ (by assumption)))))) (HH2.out.on (by (repeat (first | (with_reducible exact Below.refl _ _) | (with_reducible assumption) | (with_reducible apply bl_alloc) | (with_reducible apply bl_drewN) | (with_reducible apply bl_drew) | (with_reducible refine bl_set ?_ (by first | (simp; done) | (simp; omega)) _) | (with_reducible refine bl_call ?_ (by assumption))))))).mono ?_
    rintro e w1 ⟨rfl, hb1⟩
    go_wp2_with fail
    go_ret
    exact ⟨rfl, by (repeat (first | (with_reducible exact Below.refl _ _) | (with_reducible assumption) | (with_reducible apply bl_alloc) | (with_reducible apply bl_drewN) | (with_reducible apply bl_drew) | (with_reducible refine bl_set ?_ (by first | (simp; done) | (simp; omega)) _) | (with_reducible refine bl_call ?_ (by assumption))))⟩
end Go.Proofs.YtonlmnlpofgccaaGreat.Sm
