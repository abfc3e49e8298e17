/-
  The contract of the reference's Uses.
-/
import Derived.Test.YtonlmnlpofgccaaPRUses
namespace Go.Proofs.Ytonlmnlpofgccaa.Sm
open Go.RowKit
open Go.Proofs.Ytonlmnlpofgccaa.Na (bs bs_inj chk)
open Go.Proofs.Ytonlmnlpofgccaa.Ex (Ex Nm Kin In Sz Lo Gives bl_alloc bl_drewN bl_drew bl_set bl_call block_lt Txs OwnT tbs tb bs_tb tb_bs eq_yes eq_no take_one take_snoc ins ins_is ins_old Inc insA insA_inc insA_len insA_app insA_take inc_unique inc_ins mem_ins inc_nil str_info)
set_option maxHeartbeats 4000000
set_option linter.unusedVariables false
attribute [local go_sem] cs0 cs1 cs2 cs3 cs4 cs5 cs6 cs7 cs8 cs9 cs10 cs11 cs12 cs13 cs14 cs15 cs16 cs17 cs18 cs19 cs20
theorem own_txs_le {lo : Nat} {w : World} {v : Value} {l : List Nm} (h : OwnT lo w v l) : ∃ p c, v = .slice p l.length c ∧ Txs w p l.length l := Ex.own_txs h
set_option maxRecDepth 100000 in
theorem ruses_any (sl : List St) : ∀ (p : Option Addr) (m c : Nat) (w : World), LIn w sl p m → cnL sl ≤ 800000 → Calls Try.prog 15 #[.slice p m c] w (GivesO w.heap.size (usL sl) w) := by
  induction sl using lst_ind with
  | h sl ih =>
    intro p m c w h hc
    have HH := Lib.hid h
    have HI := Lib.hid ih
    obtain ⟨hl, hm⟩ := h.len
    have HL := Lib.hid hl
    have HC := Lib.hid hc
    clear ih h hl hc
    obtain ⟨n21, hn21⟩ : ∃ n : Nat, 21 = n := ⟨_, rfl⟩
    have hsz : ∀ w, (sizeOf 47).run Try.prog w = .ok n21 w := fun w => by rw [Try.sizeOf47, hn21]
    have HN21 := Lib.hid hn21
    clear hn21
    go_enter Try.func15, Try.ntmps15
    go_wp2_with fail
    go_loopw [3, 4] (fun d i wr => ∃ k : Nat, k ≤ m ∧ i = .int .i64 (k : Nat) ∧ Hid (OwnT w.heap.size wr d (usL (sl.take k))) ∧ Hid (Below w.heap.size w wr)) (fun d i _ => m - (intOf i).toNat)
    case atStart => exact ⟨0, Nat.zero_le _, rfl, Lib.hid (own_nil _ _), Lib.hid (by (repeat (first | (with_reducible exact Below.refl _ _) | (with_reducible assumption) | (with_reducible apply bl_alloc) | (with_reducible apply bl_drewN) | (with_reducible apply bl_drew) | (with_reducible refine bl_set ?_ (by first | (simp; done) | (simp; omega)) _) | (with_reducible refine bl_call ?_ (by assumption)))))⟩
    case round =>
      obtain ⟨k, hk, rfl, HO, HW⟩ := hrel
      have k0 : (0 : Int) ≤ (k : Int) := by omega
      rcases Nat.lt_or_ge k m with h | h
      · have k1 : (k : Int) < (m : Int) := by omega
        obtain ⟨b, o', rfl, -, hG, hcell⟩ := HH.out.rows (by omega)
        have hkl : k < sl.length := by rw [HL.out]; omega
        obtain ⟨P, hc21, hsin⟩ := hcell.out k hkl
        have hmem : sl[k] ∈ sl := List.getElem_mem hkl
        have hgx : sl[k]? = some sl[k] := List.getElem?_eq_getElem hkl
        obtain ⟨x, hx⟩ : ∃ x, sl[k] = x := ⟨_, rfl⟩
        rw [hx] at hc21 hsin hmem hgx
        have HSIN := Lib.hid hsin
        have HX := Lib.hid hgx
        have HM := Lib.hid hmem
        have hcw := (hc21.on HW.out hG).at HN21.out
        have hbr : b < wr.heap.size := Nat.lt_of_lt_of_le hG HW.out.size
        have hcsz : (cs x P).size = n21 := HN21.out
        have ld1 := (hcw).ldN HN21.out
        have ld2 := (hcw).loadVar
        have ld3 := (hcw).loadAt
        have st1 := st_store x P
        have st2 := st_storeVar x P
        have st3 := st_storeAt x P
        have FC := Lib.hid (fun W (hb : Below w.heap.size w W) => And.intro (((hc21.on hb hG).at HN21.out) 19 _ rfl) (((hc21.on hb hG).at HN21.out) 20 _ rfl))
        obtain ⟨i1, i2⟩ := HI.out x HM.out
        have hq := cnL_take HX.out
        have hq2 := cnL_le sl (k + 1)
        have hq3 := cn_one x
        have hcc := HC.out
        have l0 := usL_len (sl.take k)
        have l1 := usL_len x.bo
        have l2 := usL_len x.el
        have hsum : (usL (sl.take k)).length + 1 + (usL x.bo).length + (usL x.el).length ≤ 800000 := by omega
        have F1 := Lib.hid (fun W hi => i1 P.bp P.bm P.bc W hi (by omega))
        have F2 := Lib.hid (fun W hi => i2 P.lp P.lm P.lc W hi (by omega))
        have HT0 := usL_take HX.out
        have HIO := Lib.hid (usL_inc (sl.take k))
        have huse := use_obj x
        clear hcell hc21 hsin hx hmem hgx hkl i1 i2 hq hq2 hq3 hcc l0 l1 l2 HI
        obtain ⟨O0, hO0⟩ : ∃ T, usL (sl.take k) = T := ⟨_, rfl⟩
        obtain ⟨U1, hU1⟩ : ∃ T, usL x.bo = T := ⟨_, rfl⟩
        obtain ⟨U2, hU2⟩ : ∃ T, usL x.el = T := ⟨_, rfl⟩
        rw [hO0] at HO HIO
        rw [hU1] at F1
        rw [hU2] at F2
        rw [hO0, hU1, hU2] at HT0
        rw [hO0, hU1, hU2] at hsum
        clear hO0 hU1 hU2
        have FO := Lib.hid (fun W => robject_any x P W)
        obtain ⟨nb, hnb⟩ : ∃ b, objB x = b := ⟨_, rfl⟩
        obtain ⟨ns, hns⟩ : ∃ b, objS x = b := ⟨_, rfl⟩
        rw [hnb, hns] at FO huse
        clear hnb hns
        cases nb with
        | true =>
          rw [show use x = [bs ns] from huse] at HT0
          obtain ⟨O1, hO1⟩ : ∃ T, insA O0 [bs ns] = T := ⟨_, rfl⟩
          have hO1' : ins O0 (bs ns) = O1 := hO1
          have HI1 : Hid (Inc O1) := Lib.hid (by rw [← hO1']; exact inc_ins HIO.out)
          have hl1 : O1.length ≤ O0.length + 1 := by rw [← hO1']; exact Ex.ins_len _ _
          have FW := Lib.hid (fun W (hb : Below (World.heap wr).size wr W) => rwith_gives (x := bs ns) hO1' HIO.out (Ex.OwnT.below HO.out hb) (by omega) (Nat.le_trans HW.out.size hb.size))
          rw [hO1] at HT0
          clear hO1 hO1' huse
          go_wp2_with fail
          refine (FO.out _).mono ?_
          rintro e w1 ⟨rfl, hb1⟩
          go_wp2_with fail
          refine (FW.out _ (by (repeat (first | (with_reducible exact Below.refl _ _) | (with_reducible assumption) | (with_reducible apply bl_alloc) | (with_reducible apply bl_drewN) | (with_reducible apply bl_drew) | (with_reducible refine bl_set ?_ (by first | (simp; done) | (simp; omega)) _) | (with_reducible refine bl_call ?_ (by assumption)))))).mono ?_
          rintro e w2 ⟨v2, rfl, hown2, hb2⟩
          have HO2 := Lib.hid hown2
          have HW2 : Hid (Below w.heap.size w w2) := Lib.hid (by have HBB := HW.out; (repeat (first | (with_reducible exact Below.refl _ _) | (with_reducible assumption) | (with_reducible apply bl_alloc) | (with_reducible apply bl_drewN) | (with_reducible apply bl_drew) | (with_reducible refine bl_set ?_ (by first | (simp; done) | (simp; omega)) _) | (with_reducible refine bl_call ?_ (by assumption)))))
          clear hown2 hb2 hb1 FO FW ld1 ld2 ld3 st1 st2 st3 hcw hcsz
          have FB1 := (FC.out w2 (HW2.out)).1
          go_wp2_with fail
          clear FB1
          refine (F1.out _ (HSIN.out.bo.on (by have HBB := (HW2.out); (repeat (first | (with_reducible exact Below.refl _ _) | (with_reducible assumption) | (with_reducible apply bl_alloc) | (with_reducible apply bl_drewN) | (with_reducible apply bl_drew) | (with_reducible refine bl_set ?_ (by first | (simp; done) | (simp; omega)) _) | (with_reducible refine bl_call ?_ (by assumption))))))).mono ?_
          rintro e w5 ⟨v5, rfl, hown5, hb5⟩
          have FB2 := (FC.out w5 (bl_call (HW2.out) hb5)).2
          go_wp2_with fail
          clear FB2
          refine (F2.out _ (HSIN.out.el.on (by have HBB := (HW2.out); (repeat (first | (with_reducible exact Below.refl _ _) | (with_reducible assumption) | (with_reducible apply bl_alloc) | (with_reducible apply bl_drewN) | (with_reducible apply bl_drew) | (with_reducible refine bl_set ?_ (by first | (simp; done) | (simp; omega)) _) | (with_reducible refine bl_call ?_ (by assumption))))))).mono ?_
          rintro e w7 ⟨v7, rfl, hown7, hb7⟩
          obtain ⟨p7, c7, rfl, ht7⟩ := own_txs_le hown7
          obtain ⟨v8, w8, hrun8, hown8, hg8⟩ := appt_run (Ex.OwnT.below hown5 hb7) ht7 c7 (Nat.le_trans hb5.size hb7.size) (by omega)
          have hb08 : Below (World.heap w2).size w2 w8 := grown_below (bl_call hb5 hb7) (Nat.le_refl _) (Nat.le_trans hb5.size hb7.size) (Ex.OwnT.below hown5 hb7) hg8
          have HB8 : Hid (Below w.heap.size w w8) := Lib.hid (bl_call (HW2.out) hb08)
          have HO8 := Lib.hid (Ex.OwnT.below (HO2.out) hb08)
          obtain ⟨p8, c8, rfl, ht8⟩ := own_txs_le hown8
          obtain ⟨inn, hinn⟩ : ∃ L, U1 ++ U2 = L := ⟨_, rfl⟩
          have hil : inn.length = U1.length + U2.length := by rw [← hinn, List.length_append]
          rw [hinn] at ht8 HT0 hrun8
          obtain ⟨n8, hn8⟩ : ∃ n, inn.length = n := ⟨_, rfl⟩
          rw [hn8] at ht8 hil hrun8
          have HN8 := Lib.hid hn8
          have HT8 := Lib.hid ht8
          have HT := Lib.hid HT0
          clear HT0 hn8 ht8 hown8 hg8 hb08 hown5 hown7 ht7 hb5 hb7 hinn
          go_wp2_with (at_builtin; refine Lib.wpList_append_run _ rfl _ _ _ _ rfl _ _ rfl rfl _ _ hrun8 ?_)
          clear hrun8
          go_loopw [3, 8] (fun d j wr => ∃ t : Nat, t ≤ n8 ∧ j = .int .i64 (t : Nat) ∧ Hid (OwnT w.heap.size wr d (insA O1 (inn.take t))) ∧ Hid (Below w8.heap.size w8 wr)) (fun d j _ => n8 - (intOf j).toNat)
          case atStart => exact ⟨0, Nat.zero_le _, rfl, HO8, Lib.hid (Below.refl _ _)⟩
          case round =>
            obtain ⟨t, ht, rfl, HOt, HWt⟩ := hrel
            have t0 : (0 : Int) ≤ (t : Int) := by omega
            rcases Nat.lt_or_ge t n8 with h | h
            · have t1 : (t : Int) < (n8 : Int) := by omega
              obtain ⟨b8, o8, rfl, hb8, hc8⟩ := HT8.out.2.2.resolve_left (by omega)
              have htl : t < inn.length := by rw [HN8.out]; exact h
              have e1 := (HWt.out.cell (p := ⟨b8, o8 + t, none⟩) hb8).trans (hc8.out t htl)
              have hins := (insA_take (acc := O1) htl).symm
              obtain ⟨y, hy⟩ : ∃ y, inn[t] = y := ⟨_, rfl⟩
              rw [hy] at e1 hins
              have hlen2 := insA_len (inn.take t) O1
              have hlt2 : (inn.take t).length ≤ n8 := by rw [List.length_take, HN8.out]; omega
              have hInc := (insA_inc (l := inn.take t) HI1.out).1
              obtain ⟨A, hA⟩ : ∃ A, insA O1 (inn.take t) = A := ⟨_, rfl⟩
              obtain ⟨A2, hA2⟩ : ∃ A, insA O1 (inn.take (t + 1)) = A := ⟨_, rfl⟩
              rw [hA] at HOt hins hlen2 hInc
              rw [hA2] at hins
              have HA2 := Lib.hid hA2
              have FW := Lib.hid (fun W (hb : Below (World.heap wr).size wr W) => rwith_gives hins hInc (Ex.OwnT.below HOt.out hb) (by omega) (Nat.le_trans (Nat.le_trans HB8.out.size HWt.out.size) hb.size))
              clear hc8 hy hA hA2 hins htl hInc hlen2 hlt2
              go_wp2_with fail
              refine (FW.out _ (by (repeat (first | (with_reducible exact Below.refl _ _) | (with_reducible assumption) | (with_reducible apply bl_alloc) | (with_reducible apply bl_drewN) | (with_reducible apply bl_drew) | (with_reducible refine bl_set ?_ (by first | (simp; done) | (simp; omega)) _) | (with_reducible refine bl_call ?_ (by assumption)))))).mono ?_
              rintro e w9 ⟨v9, rfl, hown9, hb9⟩
              have HO9 : Hid (OwnT w.heap.size w9 v9 (insA O1 (inn.take (t + 1)))) := Lib.hid (by rw [HA2.out]; exact hown9)
              have HW9 : Hid (Below w8.heap.size w8 w9) := Lib.hid (by have HBB := HWt.out; (repeat (first | (with_reducible exact Below.refl _ _) | (with_reducible assumption) | (with_reducible apply bl_alloc) | (with_reducible apply bl_drewN) | (with_reducible apply bl_drew) | (with_reducible refine bl_set ?_ (by first | (simp; done) | (simp; omega)) _) | (with_reducible refine bl_call ?_ (by assumption)))))
              clear hown9 hb9 FW HA2
              go_wp2_with fail
              go_roundw
              case rel => exact ⟨t + 1, by omega, by go_num, HO9, HW9⟩
              case measure => simp [intOf]; omega
            · obtain rfl : n8 = t := by omega
              have HO9 : Hid (OwnT w.heap.size wr _ (usL (sl.take (k + 1)))) := Lib.hid (by rw [HT.out]; have h9 := HOt.out; rw [List.take_of_length_le (by rw [HN8.out]; exact Nat.le_refl _)] at h9; exact h9)
              have HW9 : Hid (Below w.heap.size w wr) := Lib.hid (bl_call HB8.out HWt.out)
              go_wp2_with fail
              go_roundw
              case rel => exact ⟨k + 1, by omega, by go_num, HO9, HW9⟩
              case measure => simp [intOf]; omega
        | false =>
          rw [show use x = [] from huse, show insA O0 [] = O0 from rfl] at HT0
          obtain ⟨O1, rfl⟩ : ∃ T, T = O0 := ⟨_, rfl⟩
          have HI1 := HIO
          have hl1 : O1.length ≤ O1.length + 1 := by omega
          clear huse
          go_wp2_with fail
          refine (FO.out _).mono ?_
          rintro e w1 ⟨rfl, hb1⟩
          have HO2 := Lib.hid (Ex.OwnT.below HO.out hb1)
          have HW2 : Hid (Below w.heap.size w w1) := Lib.hid (by have HBB := HW.out; (repeat (first | (with_reducible exact Below.refl _ _) | (with_reducible assumption) | (with_reducible apply bl_alloc) | (with_reducible apply bl_drewN) | (with_reducible apply bl_drew) | (with_reducible refine bl_set ?_ (by first | (simp; done) | (simp; omega)) _) | (with_reducible refine bl_call ?_ (by assumption)))))
          clear hb1 FO ld1 ld2 ld3 st1 st2 st3 hcw hcsz
          have FB1 := (FC.out w1 (HW2.out)).1
          go_wp2_with fail
          clear FB1
          refine (F1.out _ (HSIN.out.bo.on (by have HBB := (HW2.out); (repeat (first | (with_reducible exact Below.refl _ _) | (with_reducible assumption) | (with_reducible apply bl_alloc) | (with_reducible apply bl_drewN) | (with_reducible apply bl_drew) | (with_reducible refine bl_set ?_ (by first | (simp; done) | (simp; omega)) _) | (with_reducible refine bl_call ?_ (by assumption))))))).mono ?_
          rintro e w5 ⟨v5, rfl, hown5, hb5⟩
          have FB2 := (FC.out w5 (bl_call (HW2.out) hb5)).2
          go_wp2_with fail
          clear FB2
          refine (F2.out _ (HSIN.out.el.on (by have HBB := (HW2.out); (repeat (first | (with_reducible exact Below.refl _ _) | (with_reducible assumption) | (with_reducible apply bl_alloc) | (with_reducible apply bl_drewN) | (with_reducible apply bl_drew) | (with_reducible refine bl_set ?_ (by first | (simp; done) | (simp; omega)) _) | (with_reducible refine bl_call ?_ (by assumption))))))).mono ?_
          rintro e w7 ⟨v7, rfl, hown7, hb7⟩
          obtain ⟨p7, c7, rfl, ht7⟩ := own_txs_le hown7
          obtain ⟨v8, w8, hrun8, hown8, hg8⟩ := appt_run (Ex.OwnT.below hown5 hb7) ht7 c7 (Nat.le_trans hb5.size hb7.size) (by omega)
          have hb08 : Below (World.heap w1).size w1 w8 := grown_below (bl_call hb5 hb7) (Nat.le_refl _) (Nat.le_trans hb5.size hb7.size) (Ex.OwnT.below hown5 hb7) hg8
          have HB8 : Hid (Below w.heap.size w w8) := Lib.hid (bl_call (HW2.out) hb08)
          have HO8 := Lib.hid (Ex.OwnT.below (HO2.out) hb08)
          obtain ⟨p8, c8, rfl, ht8⟩ := own_txs_le hown8
          obtain ⟨inn, hinn⟩ : ∃ L, U1 ++ U2 = L := ⟨_, rfl⟩
          have hil : inn.length = U1.length + U2.length := by rw [← hinn, List.length_append]
          rw [hinn] at ht8 HT0 hrun8
          obtain ⟨n8, hn8⟩ : ∃ n, inn.length = n := ⟨_, rfl⟩
          rw [hn8] at ht8 hil hrun8
          have HN8 := Lib.hid hn8
          have HT8 := Lib.hid ht8
          have HT := Lib.hid HT0
          clear HT0 hn8 ht8 hown8 hg8 hb08 hown5 hown7 ht7 hb5 hb7 hinn
          go_wp2_with (at_builtin; refine Lib.wpList_append_run _ rfl _ _ _ _ rfl _ _ rfl rfl _ _ hrun8 ?_)
          clear hrun8
          go_loopw [3, 8] (fun d j wr => ∃ t : Nat, t ≤ n8 ∧ j = .int .i64 (t : Nat) ∧ Hid (OwnT w.heap.size wr d (insA O1 (inn.take t))) ∧ Hid (Below w8.heap.size w8 wr)) (fun d j _ => n8 - (intOf j).toNat)
          case atStart => exact ⟨0, Nat.zero_le _, rfl, HO8, Lib.hid (Below.refl _ _)⟩
          case round =>
            obtain ⟨t, ht, rfl, HOt, HWt⟩ := hrel
            have t0 : (0 : Int) ≤ (t : Int) := by omega
            rcases Nat.lt_or_ge t n8 with h | h
            · have t1 : (t : Int) < (n8 : Int) := by omega
              obtain ⟨b8, o8, rfl, hb8, hc8⟩ := HT8.out.2.2.resolve_left (by omega)
              have htl : t < inn.length := by rw [HN8.out]; exact h
              have e1 := (HWt.out.cell (p := ⟨b8, o8 + t, none⟩) hb8).trans (hc8.out t htl)
              have hins := (insA_take (acc := O1) htl).symm
              obtain ⟨y, hy⟩ : ∃ y, inn[t] = y := ⟨_, rfl⟩
              rw [hy] at e1 hins
              have hlen2 := insA_len (inn.take t) O1
              have hlt2 : (inn.take t).length ≤ n8 := by rw [List.length_take, HN8.out]; omega
              have hInc := (insA_inc (l := inn.take t) HI1.out).1
              obtain ⟨A, hA⟩ : ∃ A, insA O1 (inn.take t) = A := ⟨_, rfl⟩
              obtain ⟨A2, hA2⟩ : ∃ A, insA O1 (inn.take (t + 1)) = A := ⟨_, rfl⟩
              rw [hA] at HOt hins hlen2 hInc
              rw [hA2] at hins
              have HA2 := Lib.hid hA2
              have FW := Lib.hid (fun W (hb : Below (World.heap wr).size wr W) => rwith_gives hins hInc (Ex.OwnT.below HOt.out hb) (by omega) (Nat.le_trans (Nat.le_trans HB8.out.size HWt.out.size) hb.size))
              clear hc8 hy hA hA2 hins htl hInc hlen2 hlt2
              go_wp2_with fail
              refine (FW.out _ (by (repeat (first | (with_reducible exact Below.refl _ _) | (with_reducible assumption) | (with_reducible apply bl_alloc) | (with_reducible apply bl_drewN) | (with_reducible apply bl_drew) | (with_reducible refine bl_set ?_ (by first | (simp; done) | (simp; omega)) _) | (with_reducible refine bl_call ?_ (by assumption)))))).mono ?_
              rintro e w9 ⟨v9, rfl, hown9, hb9⟩
              have HO9 : Hid (OwnT w.heap.size w9 v9 (insA O1 (inn.take (t + 1)))) := Lib.hid (by rw [HA2.out]; exact hown9)
              have HW9 : Hid (Below w8.heap.size w8 w9) := Lib.hid (by have HBB := HWt.out; (repeat (first | (with_reducible exact Below.refl _ _) | (with_reducible assumption) | (with_reducible apply bl_alloc) | (with_reducible apply bl_drewN) | (with_reducible apply bl_drew) | (with_reducible refine bl_set ?_ (by first | (simp; done) | (simp; omega)) _) | (with_reducible refine bl_call ?_ (by assumption)))))
              clear hown9 hb9 FW HA2
              go_wp2_with fail
              go_roundw
              case rel => exact ⟨t + 1, by omega, by go_num, HO9, HW9⟩
              case measure => simp [intOf]; omega
            · obtain rfl : n8 = t := by omega
              have HO9 : Hid (OwnT w.heap.size wr _ (usL (sl.take (k + 1)))) := Lib.hid (by rw [HT.out]; have h9 := HOt.out; rw [List.take_of_length_le (by rw [HN8.out]; exact Nat.le_refl _)] at h9; exact h9)
              have HW9 : Hid (Below w.heap.size w wr) := Lib.hid (bl_call HB8.out HWt.out)
              go_wp2_with fail
              go_roundw
              case rel => exact ⟨k + 1, by omega, by go_num, HO9, HW9⟩
              case measure => simp [intOf]; omega
      · obtain rfl : m = k := by omega
        have HT : Hid (sl.take m = sl) := Lib.hid (List.take_of_length_le (by rw [HL.out]; exact Nat.le_refl _))
        rw [HT.out] at HO
        go_wp2_with fail
        go_ret
        exact ⟨_, rfl, HO.out, HW.out⟩
end Go.Proofs.Ytonlmnlpofgccaa.Sm
