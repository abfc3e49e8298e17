/-
  The contract of Depth.
-/
import Derived.Test.YtonlmnlpofgccaaGreatPBase
import Derived.Laws.Cover1
namespace Go.Proofs.YtonlmnlpofgccaaGreat.Sm
open Go.RowKit
open Go.Proofs.YtonlmnlpofgccaaGreat.Ex (Ex Kin In Sz Lo Gives bl_alloc bl_drewN bl_drew bl_set bl_call block_lt add_off take_one take_snoc)
attribute [local go_sem] cs0 cs1 cs2 cs3 cs4 cs5 cs6 cs7 cs8 cs9 cs10 cs11 cs12 cs13 cs14 cs15 cs16 cs17 cs18 cs19 cs20
set_option maxHeartbeats 1000000
set_option linter.unusedVariables false
theorem keep2 {w' : World} {g : Nat} {x : St} {P : Pl} (h : box21 w' g x P) : w'.cell? ⟨g, 19, none⟩ = some (.slice P.bp P.bm P.bc) ∧ w'.cell? ⟨g, 20, none⟩ = some (.slice P.lp P.lm P.lc) := ⟨h.c19, h.c20⟩
set_option maxRecDepth 100000 in
theorem depth_any (sl : List St) : ∀ (p : Option Addr) (m c : Nat) (w : World), LIn w sl p m → cnL sl ≤ 4000000 → Calls Tryz.prog 10 #[.slice p m c] w (Gives (.int .i64 (dpL sl : Nat)) w) := by
  induction sl using lst_ind with
  | h sl ih =>
    intro p m c w h hc
    have HH := Lib.hid h
    have HI := Lib.hid ih
    obtain ⟨hl, hm⟩ := h.len
    have HL := Lib.hid hl
    have HC := Lib.hid hc
    clear ih h hl hc
    rcases Nat.eq_zero_or_pos m with h0 | h0
    · have hz : sl = [] := List.length_eq_zero_iff.1 (by rw [HL.out, h0])
      subst h0
      rw [show dpL sl = 0 by rw [hz, dpL]]
      clear hz
      go_enter Tryz.func10, Tryz.ntmps10
      go_wp2_with fail
      go_ret
      exact ⟨rfl, by (repeat (first | (with_reducible exact Below.refl _ _) | (with_reducible assumption) | (with_reducible apply bl_alloc) | (with_reducible apply bl_drewN) | (with_reducible apply bl_drew) | (with_reducible refine bl_set ?_ (by first | (simp; done) | (simp; omega)) _) | (with_reducible refine bl_call ?_ (by assumption))))⟩
    have hd := dpL_inL (l := sl) (by rw [HL.out]; exact h0)
    rw [hd]
    clear hd
    have t0 : ((m : Int) == 0) = false := beq_eq_false_iff_ne.2 (by omega)
    obtain ⟨n21, hn21⟩ : ∃ n : Nat, 21 = n := ⟨_, rfl⟩
    have hsz : ∀ w, (sizeOf 39).run Tryz.prog w = .ok n21 w := fun w => by rw [Tryz.sizeOf39, hn21]
    have HN21 := Lib.hid hn21
    clear hn21
    go_enter Tryz.func10, Tryz.ntmps10
    go_wp2_with fail
    go_loopw [3, 11] (fun d i wr => ∃ k : Nat, k ≤ m ∧ d = .int .i64 (inL (sl.take k) : Nat) ∧ i = .int .i64 (k : Nat) ∧ Hid (Below w.heap.size w wr)) (fun d i _ => m - (intOf i).toNat)
    case atStart => exact ⟨0, Nat.zero_le _, rfl, rfl, Lib.hid (by (repeat (first | (with_reducible exact Below.refl _ _) | (with_reducible assumption) | (with_reducible apply bl_alloc) | (with_reducible apply bl_drewN) | (with_reducible apply bl_drew) | (with_reducible refine bl_set ?_ (by first | (simp; done) | (simp; omega)) _) | (with_reducible refine bl_call ?_ (by assumption)))))⟩
    case round =>
      obtain ⟨k, hk, rfl, rfl, HW⟩ := hrel
      have k0 : (0 : Int) ≤ (k : Int) := by omega
      rcases Nat.lt_or_ge k m with h | h
      · have k1 : (k : Int) < (m : Int) := by omega
        obtain ⟨b, o', rfl, -, hG, hcell⟩ := HH.out.rows (by omega)
        have hkl : k < sl.length := by rw [HL.out]; omega
        obtain ⟨P, hc21, hsin⟩ := hcell.out k hkl
        have hmem : sl[k] ∈ sl := List.getElem_mem hkl
        have hgx : sl[k]? = some sl[k] := List.getElem?_eq_getElem hkl
        obtain ⟨x, hx⟩ : ∃ x, sl[k] = x := ⟨_, rfl⟩
        rw [hx] at hc21 hsin hmem hgx
        have HSIN := Lib.hid hsin
        have HX := Lib.hid hgx
        have HM := Lib.hid hmem
        have hcw := (hc21.on HW.out hG).at HN21.out
        have hbr : b < wr.heap.size := Nat.lt_of_lt_of_le hG HW.out.size
        have hcsz : (cs x P).size = n21 := HN21.out
        have ld1 := (hcw).ldN HN21.out
        have ld2 := (hcw).loadVar
        have ld3 := (hcw).loadAt
        have st1 := st_store x P
        have st2 := st_storeVar x P
        have st3 := st_storeAt x P
        have HCW := Lib.hid hcw
        clear hcell hc21 hsin hx hmem hgx hkl hcw
        have d1 := inL_cap sl k
        have HK := Lib.hid (inL_take HX.out)
        obtain ⟨i1, i2⟩ := HI.out x HM.out
        have d2 := cn_mem HM.out
        rw [cn_one] at d2
        have c1 := dpL_le_cnL x.bo
        have c2 := dpL_le_cnL x.el
        obtain ⟨D, hD⟩ : ∃ D, inL (sl.take k) = D := ⟨_, rfl⟩
        obtain ⟨E, hE⟩ : ∃ E, dpL x.bo = E := ⟨_, rfl⟩
        obtain ⟨F, hF⟩ : ∃ F, dpL x.el = F := ⟨_, rfl⟩
        have hcc := HC.out
        have F1 := Lib.hid (fun W hi => i1 P.bp P.bm P.bc W hi (by omega))
        have F2 := Lib.hid (fun W hi => i2 P.lp P.lm P.lc W hi (by omega))
        rw [hD] at d1 HK ⊢
        rw [hE] at c1 HK F1
        rw [hF] at c2 HK F2
        have d3 : D ≤ 4000000 := by omega
        have d4 : E ≤ 4000000 := by omega
        have d5 : F ≤ 4000000 := by omega
        clear hD hE hF i1 i2 c1 c2 d1 d2 hcc
        have HBX : Hid (∀ W, Below (wr.alloc (.cells (cs x P) 39)).heap.size (wr.alloc (.cells (cs x P) 39)) W → box21 W wr.heap.size x P) := Lib.hid fun W hb => box_new21.on hb
        obtain ⟨M, hM⟩ : ∃ M, max D (max E F) = M := ⟨_, rfl⟩
        have hmx : ∀ (ts : Array TypeId) (t : TypeId) (W : World), (Builtin.max_ ts t #[.int .i64 (D : Int), .int .i64 (E : Int), .int .i64 (F : Int)]).run Tryz.prog W = .ok (.int .i64 (M : Int)) W := fun ts t W => by
          rw [run_max_int3]
          congr 2
          rw [← hM]
          split <;> split at * <;> omega
        rw [hM] at HK
        have hM2 : M ≤ 4000000 := by omega
        clear hM d3 d4 d5
        go_wp2_with fail
        go_region_held3 (fun w' => w'.cell? ⟨wr.heap.size, 19, none⟩ = some (.slice P.bp P.bm P.bc) ∧ w'.cell? ⟨wr.heap.size, 20, none⟩ = some (.slice P.lp P.lm P.lc)) (first | (refine keep2 (HBX.out _ ?_); (repeat (first | (with_reducible exact Below.refl _ _) | (with_reducible assumption) | (with_reducible apply bl_alloc) | (with_reducible apply bl_drewN) | (with_reducible apply bl_drew) | (with_reducible refine bl_set ?_ (by first | (simp; done) | (simp; omega)) _) | (with_reducible refine bl_call ?_ (by assumption)))); done) | (go_keep; done)) (first | (have t := hb1; go_at_call 10; refine (F2.out _ (HSIN.out.el.on (by have HBB := HW.out; (repeat (first | (with_reducible exact Below.refl _ _) | (with_reducible assumption) | (with_reducible apply bl_alloc) | (with_reducible apply bl_drewN) | (with_reducible apply bl_drew) | (with_reducible refine bl_set ?_ (by first | (simp; done) | (simp; omega)) _) | (with_reducible refine bl_call ?_ (by assumption))))))).mono ?_; rintro e w2 ⟨rfl, hb2⟩) | (go_at_call 10; refine (F1.out _ (HSIN.out.bo.on (by have HBB := HW.out; (repeat (first | (with_reducible exact Below.refl _ _) | (with_reducible assumption) | (with_reducible apply bl_alloc) | (with_reducible apply bl_drewN) | (with_reducible apply bl_drew) | (with_reducible refine bl_set ?_ (by first | (simp; done) | (simp; omega)) _) | (with_reducible refine bl_call ?_ (by assumption))))))).mono ?_; rintro e w1 ⟨rfl, hb1⟩))
        all_goals
          have HWz : Hid (Below w.heap.size w w2) := Lib.hid (by have HBB := HW.out; (repeat (first | (with_reducible exact Below.refl _ _) | (with_reducible assumption) | (with_reducible apply bl_alloc) | (with_reducible apply bl_drewN) | (with_reducible apply bl_drew) | (with_reducible refine bl_set ?_ (by first | (simp; done) | (simp; omega)) _) | (with_reducible refine bl_call ?_ (by assumption)))))
          go_wp2_with fail
          go_roundw
          case rel => exact ⟨k + 1, by omega, by rw [HK.out], by go_num, HWz⟩
          case measure => simp [intOf]; omega
      · obtain rfl : m = k := by omega
        have HT : Hid (sl.take m = sl) := Lib.hid (List.take_of_length_le (by rw [HL.out]; exact Nat.le_refl _))
        have d1 := inL_cap sl m
        have d2 := HC.out
        rw [HT.out] at d1 ⊢
        have d9 := inL_le sl
        have d8 := dpL_le_cnL sl
        obtain ⟨D, hD⟩ : ∃ D, inL sl = D := ⟨_, rfl⟩
        rw [hD] at d1 d9 ⊢
        have d3 : D ≤ 4000000 := by omega
        have HD := Lib.hid hD
        clear hD d1 d2 d8 d9
        go_wp2_with fail
        go_ret
        exact ⟨by rw [HD.out]; go_num, HW.out⟩
end Go.Proofs.YtonlmnlpofgccaaGreat.Sm
