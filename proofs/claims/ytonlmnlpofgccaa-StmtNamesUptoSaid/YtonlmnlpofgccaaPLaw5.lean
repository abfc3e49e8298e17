/-
  The law of Parts.
-/
import Derived.Test.YtonlmnlpofgccaaPAwake
import Derived.Test.YtonlmnlpofgccaaPRSize
namespace Go.Proofs.Ytonlmnlpofgccaa.Sm
open Go.RowKit
open Go.Proofs.Ytonlmnlpofgccaa.Na (bs bs_inj chk)
open Go.Proofs.Ytonlmnlpofgccaa.Ex (Ex Nm Kin In Sz Lo Gives bl_alloc bl_drewN bl_drew bl_set bl_call block_lt)
attribute [local go_sem] cs0 cs1 cs2 cs3 cs4 cs5 cs6 cs7 cs8 cs9 cs10 cs11 cs12 cs13 cs14 cs15 cs16 cs17 cs18 cs19 cs20
set_option maxHeartbeats 2000000
set_option linter.unusedVariables false
theorem rsize_gives {sl : List St} {n : Nat} (h : szL sl = n) (p : Option Addr) (m c : Nat) (w : World) (hi : LIn w sl p m) (hc : n ≤ 2000000) (hs : SzL sl) : Calls Try.prog 23 #[.slice p m c] w (Gives (.int .i64 (n : Nat)) w) := by subst h; exact rsize_any sl p m c w hi hc hs
set_option maxRecDepth 100000 in
theorem small_any (sl : List St) (p : Option Addr) (m c : Nat) (w : World) (h : LIn w sl p m) (hc : szL sl ≤ 2000000) (hs : SzL sl) : Calls Try.prog 8 #[.slice p m c] w (Gives (.bool (decide (szL sl ≤ 3000))) w) := by
  obtain ⟨n, hn⟩ : ∃ n, szL sl = n := ⟨_, rfl⟩
  have HR := Lib.hid (fun W hi => rsize_gives hn p m c W hi (by omega) hs)
  have HH := Lib.hid h
  rw [hn]
  clear h hc hs hn
  by_cases h3 : n ≤ 3000
  · rw [decide_eq_true h3]
    have t1 : (n : Int) ≤ 3000 := by omega
    go_enter Try.func8, Try.ntmps8
    go_wp2_with fail
    refine (HR.out _ (HH.out.on (by (repeat (first | (with_reducible exact Below.refl _ _) | (with_reducible assumption) | (with_reducible apply bl_alloc) | (with_reducible apply bl_drewN) | (with_reducible apply bl_drew) | (with_reducible refine bl_set ?_ (by first | (simp; done) | (simp; omega)) _) | (with_reducible refine bl_call ?_ (by assumption))))))).mono ?_
    rintro e w1 ⟨rfl, hb1⟩
    go_wp2_with fail
    go_ret
    exact ⟨by first | (simp; done) | (simp; omega), by (repeat (first | (with_reducible exact Below.refl _ _) | (with_reducible assumption) | (with_reducible apply bl_alloc) | (with_reducible apply bl_drewN) | (with_reducible apply bl_drew) | (with_reducible refine bl_set ?_ (by first | (simp; done) | (simp; omega)) _) | (with_reducible refine bl_call ?_ (by assumption))))⟩
  · rw [decide_eq_false h3]
    have t1 : (3000 : Int) < (n : Int) := by omega
    go_enter Try.func8, Try.ntmps8
    go_wp2_with fail
    refine (HR.out _ (HH.out.on (by (repeat (first | (with_reducible exact Below.refl _ _) | (with_reducible assumption) | (with_reducible apply bl_alloc) | (with_reducible apply bl_drewN) | (with_reducible apply bl_drew) | (with_reducible refine bl_set ?_ (by first | (simp; done) | (simp; omega)) _) | (with_reducible refine bl_call ?_ (by assumption))))))).mono ?_
    rintro e w1 ⟨rfl, hb1⟩
    go_wp2_with fail
    go_ret
    exact ⟨by first | (simp; done) | (simp; omega), by (repeat (first | (with_reducible exact Below.refl _ _) | (with_reducible assumption) | (with_reducible apply bl_alloc) | (with_reducible apply bl_drewN) | (with_reducible apply bl_drew) | (with_reducible refine bl_set ?_ (by first | (simp; done) | (simp; omega)) _) | (with_reducible refine bl_call ?_ (by assumption))))⟩
theorem small_gives {sl : List St} {b : Bool} (h : decide (szL sl ≤ 3000) = b) (p : Option Addr) (m c : Nat) (w : World) (hi : LIn w sl p m) (hc : szL sl ≤ 2000000) (hs : SzL sl) : Calls Try.prog 8 #[.slice p m c] w (Gives (.bool b) w) := by subst h; exact small_any sl p m c w hi hc hs
/-- The condition around a list. -/
abbrev sIf (l : List St) : St := .mk 3 nE nE (.mk 2 nE 0 []) zE [] zD false l []
abbrev PB (p : Option Addr) (m c : Nat) : Pl := ⟨none, 0, 0, none, 0, 0, none, 0, 0, none, 0, 0, none, 0, 0, p, m, c, none, 0, 0⟩
theorem if_one (l : List St) : oneE (sIf l) = 0 := by
  have h1 : frm (sIf l) = true := by
    unfold frm
    simp only [St.o, St.nm, St.f, St.e, St.g, St.ar, St.di, St.fl, St.bo, St.el]
    rw [show uB 3 = true from rfl, show uL 3 = true from rfl]
    rfl
  unfold oneE
  rw [h1]
  rfl
theorem if_cn (l : List St) : cnL [sIf l] = cnL l + 1 := by rw [cnL_cons, cn_one]; simp [cnL, St.bo, St.el]
theorem if_dp (l : List St) : dpL [sIf l] = dpL l + 1 := by rw [dpL_cons, dp_one]; simp [dpL, St.bo, St.el]
theorem if_ord (l : List St) : ordL [sIf l] = sIf l :: ordL l := by rw [ordL_cons, ord_one]; simp [ordL, St.bo, St.el]
theorem if_chk (l : List St) (h : chkL l = 0) : chkL [sIf l] = if 200 ≤ cnL l then 6 else if 12 ≤ dpL l then 11 else 0 := by
  obtain ⟨h1, h2, h3⟩ := chkL_ok h
  unfold chkL
  rw [if_cn, if_dp]
  by_cases g1 : 200 ≤ cnL l
  · rw [if_pos (by omega), if_pos g1]
  · rw [if_neg (by omega), if_neg g1]
    by_cases g2 : 12 ≤ dpL l
    · rw [if_pos (by omega), if_pos g2]
    · rw [if_neg (by omega), if_neg g2, if_ord]
      exact badS_zero.2 fun x hx => by
        rcases List.mem_cons.1 hx with rfl | hx
        · exact if_one l
        · exact h3 x hx
theorem if_sz {l : List St} (h : SzL l) : SzL [sIf l] := fun x hx => by
  rw [if_ord] at hx
  rcases List.mem_cons.1 hx with rfl | hx
  · have h0 : SzS (sIf []) := sz_of (l := [sIf []]) (by decide +kernel) (sIf []) (by rw [if_ord]; exact List.mem_cons_self)
    exact h0
  · exact h x hx
theorem take_chk {l : List St} (k : Nat) (h : chkL l = 0) : chkL (l.take k) = 0 := by
  obtain ⟨h1, h2, h3⟩ := chkL_ok h
  refine chkL_of (Nat.le_trans (cnL_le l k) h1) (Nat.le_trans (dpL_le l k) h2) fun x hx => h3 x ?_
  obtain ⟨y, hy, hxy⟩ := ordL_mem' hx
  exact ordL_mem (List.mem_of_mem_take hy) hxy
theorem take_szL {l : List St} (k : Nat) (h : SzL l) : SzL (l.take k) := fun x hx => by
  obtain ⟨y, hy, hxy⟩ := ordL_mem' hx
  exact h x (ordL_mem (List.mem_of_mem_take hy) hxy)
theorem take_lin {w : World} {l : List St} {p : Option Addr} {m k : Nat} (hk : k ≤ m) (h : LIn w l p m) : LIn w (l.take k) p k := by
  obtain ⟨h1, h2, h3⟩ := h
  refine ⟨by simp; omega, by omega, ?_⟩
  rcases h3 with h3 | ⟨b, o, rfl, hg, hb, h4⟩
  · exact .inl (by omega)
  · refine .inr ⟨b, o, rfl, hg, hb, Lib.hid fun j hj => ?_⟩
    have hj2 : j < l.length := by
      rw [List.length_take] at hj
      omega
    obtain ⟨P, h5, h6⟩ := h4.out j hj2
    exact ⟨P, by rw [List.getElem_take]; exact h5, by rw [List.getElem_take]; exact h6⟩
set_option maxRecDepth 100000 in
theorem stmtParts_walk (l : List St) (p : Option Addr) (m c : Nat) (n : Int) (hn : 0 ≤ n ∧ n ≤ 255) (w : World) (h : LIn w l p m) (hmc : m ≤ c) (hz : szL l ≤ 1048576) (hs : SzL l) : Calls Try.prog 6 #[.slice p m c, .int .u8 n] w (Gives (.bool true) w) := by
  have HH := Lib.hid h
  obtain ⟨sb, hsb⟩ : ∃ b, decide (szL l ≤ 3000) = b := ⟨_, rfl⟩
  have HS := Lib.hid (fun W hi => small_gives hsb p m c W hi (by omega) hs)
  cases sb with
  | false =>
    clear h hmc hz hs hsb hn
    go_enter Try.func6, Try.ntmps6
    go_wp2_with fail
    refine (HS.out _ (HH.out.on (by (repeat (first | (with_reducible exact Below.refl _ _) | (with_reducible assumption) | (with_reducible apply bl_alloc) | (with_reducible apply bl_drewN) | (with_reducible apply bl_drew) | (with_reducible refine bl_set ?_ (by first | (simp; done) | (simp; omega)) _) | (with_reducible refine bl_call ?_ (by assumption))))))).mono ?_
    rintro e w1 ⟨rfl, hb1⟩
    go_wp2_with fail
    refine (awake_any _).mono ?_
    rintro e w2 ⟨rfl, hb2⟩
    go_wp2_with fail
    go_ret
    exact ⟨rfl, by (repeat (first | (with_reducible exact Below.refl _ _) | (with_reducible assumption) | (with_reducible apply bl_alloc) | (with_reducible apply bl_drewN) | (with_reducible apply bl_drew) | (with_reducible refine bl_set ?_ (by first | (simp; done) | (simp; omega)) _) | (with_reducible refine bl_call ?_ (by assumption))))⟩
  | true =>
    have hz3 : szL l ≤ 3000 := of_decide_eq_true hsb
    obtain ⟨v, hv⟩ : ∃ v, chkL l = v := ⟨_, rfl⟩
    have HC := Lib.hid (fun W hi => check_gives hv (p := p) (m := m) (c := c) (w := W) hi hs)
    by_cases hv0 : v = 0
    case neg =>
      have t1 : (v != 0) = true := bne_iff_ne.2 hv0
      clear h hmc hz hs hsb hn hz3 hv hv0
      go_enter Try.func6, Try.ntmps6
      go_wp2_with fail
      refine (HS.out _ (HH.out.on (by (repeat (first | (with_reducible exact Below.refl _ _) | (with_reducible assumption) | (with_reducible apply bl_alloc) | (with_reducible apply bl_drewN) | (with_reducible apply bl_drew) | (with_reducible refine bl_set ?_ (by first | (simp; done) | (simp; omega)) _) | (with_reducible refine bl_call ?_ (by assumption))))))).mono ?_
      rintro e w1 ⟨rfl, hb1⟩
      go_wp2_with fail
      refine (HC.out _ (HH.out.on (by (repeat (first | (with_reducible exact Below.refl _ _) | (with_reducible assumption) | (with_reducible apply bl_alloc) | (with_reducible apply bl_drewN) | (with_reducible apply bl_drew) | (with_reducible refine bl_set ?_ (by first | (simp; done) | (simp; omega)) _) | (with_reducible refine bl_call ?_ (by assumption))))))).mono ?_
      rintro e w2 ⟨rfl, hb2⟩
      go_wp2_with fail
      refine (awake_any _).mono ?_
      rintro e w3 ⟨rfl, hb3⟩
      go_wp2_with fail
      go_ret
      exact ⟨rfl, by (repeat (first | (with_reducible exact Below.refl _ _) | (with_reducible assumption) | (with_reducible apply bl_alloc) | (with_reducible apply bl_drewN) | (with_reducible apply bl_drew) | (with_reducible refine bl_set ?_ (by first | (simp; done) | (simp; omega)) _) | (with_reducible refine bl_call ?_ (by assumption))))⟩
    subst hv0
    obtain ⟨hc1, hc2, hc3⟩ := chkL_ok hv
    obtain ⟨k, hk⟩ : ∃ k : Nat, n.toNat % (m + 1) = k := ⟨_, rfl⟩
    have hkm : k ≤ m := by rw [← hk]; have := Nat.mod_lt n.toNat (show 0 < m + 1 by omega); omega
    have hml : l.length = m := h.len.1
    have hm200 : m ≤ 200 := by have := len_cnL l; omega
    have hrem : Int.tmod n ((m : Int) + 1) = (k : Int) := by
      rw [← hk]
      obtain ⟨q, rfl⟩ : ∃ q : Nat, n = (q : Int) := ⟨n.toNat, by omega⟩
      rfl
    have HT := Lib.hid (fun W hi => check_gives (take_chk k hv) (p := p) (m := k) (c := c) (w := W) hi (take_szL k hs))
    have HKM := Lib.hid hkm
    go_enter Try.func6, Try.ntmps6
    go_wp2_with fail
    refine (HS.out _ (HH.out.on (by (repeat (first | (with_reducible exact Below.refl _ _) | (with_reducible assumption) | (with_reducible apply bl_alloc) | (with_reducible apply bl_drewN) | (with_reducible apply bl_drew) | (with_reducible refine bl_set ?_ (by first | (simp; done) | (simp; omega)) _) | (with_reducible refine bl_call ?_ (by assumption))))))).mono ?_
    rintro e w1 ⟨rfl, hb1⟩
    go_wp2_with fail
    refine (HC.out _ (HH.out.on (by (repeat (first | (with_reducible exact Below.refl _ _) | (with_reducible assumption) | (with_reducible apply bl_alloc) | (with_reducible apply bl_drewN) | (with_reducible apply bl_drew) | (with_reducible refine bl_set ?_ (by first | (simp; done) | (simp; omega)) _) | (with_reducible refine bl_call ?_ (by assumption))))))).mono ?_
    rintro e w2 ⟨rfl, hb2⟩
    have k0 : (0 : Int) ≤ (k : Int) := by omega
    have k1 : (k : Int) ≤ (c : Int) := by omega
    have hmw : IntKind.i64.wrap ((m : Int) + 1) = (m : Int) + 1 := by rw [IntKind.wrap_i64]; omega
    go_wp2_with fail
    refine (HT.out _ (take_lin HKM.out (HH.out.on (by (repeat (first | (with_reducible exact Below.refl _ _) | (with_reducible assumption) | (with_reducible apply bl_alloc) | (with_reducible apply bl_drewN) | (with_reducible apply bl_drew) | (with_reducible refine bl_set ?_ (by first | (simp; done) | (simp; omega)) _) | (with_reducible refine bl_call ?_ (by assumption)))))))).mono ?_
    rintro e w3 ⟨rfl, hb3⟩
    obtain ⟨N, hN⟩ : ∃ N, cnL l = N := ⟨_, rfl⟩
    obtain ⟨D, hD⟩ : ∃ D, dpL l = D := ⟨_, rfl⟩
    have C1 := Lib.hid (fun W hi => count_gives (by rw [if_cn, hN]) (p := some ⟨w3.heap.size, 0, none⟩) (m := 1) (c := 1) (w := W) hi (if_sz hs) (n := N + 1) (by omega))
    have C2 := Lib.hid (fun W hi => count_gives hN (p := p) (m := m) (c := c) (w := W) hi hs (by omega))
    have D1 := Lib.hid (fun W hi => depth_gives2 (by rw [if_dp, hD]) (p := some ⟨w3.heap.size, 0, none⟩) (m := 1) (c := 1) (w := W) hi (n := D + 1) (by rw [if_cn]; omega))
    have D2 := Lib.hid (fun W hi => depth_gives2 hD (p := p) (m := m) (c := c) (w := W) hi (by omega))
    have hife := if_chk l hv
    rw [hN, hD] at hife
    rw [hN] at hc1
    rw [hD] at hc2
    have HSI := Lib.hid (if_sz hs)
    have FI : Hid (∀ W, Below (w3.alloc (.cells (cs (sIf l) (PB p m c)) 47)).heap.size (w3.alloc (.cells (cs (sIf l) (PB p m c)) 47)) W → LIn W [sIf l] (some ⟨w3.heap.size, 0, none⟩) 1) := Lib.hid fun W hb => by
      have hl3 : LIn (w3.alloc (.cells (cs (sIf l) (PB p m c)) 47)) l p m := HH.out.on (by (repeat (first | (with_reducible exact Below.refl _ _) | (with_reducible assumption) | (with_reducible apply bl_alloc) | (with_reducible apply bl_drewN) | (with_reducible apply bl_drew) | (with_reducible refine bl_set ?_ (by first | (simp; done) | (simp; omega)) _) | (with_reducible refine bl_call ?_ (by assumption)))))
      exact (lin_one (World.alloc_heap_new w3 _) (sin_iff.2 ⟨⟨Ex.Kin.zero, Ex.Kin.zero, Ex.Kin.zero, ints_nil, ints_nil⟩, hl3, Lin.nil⟩)).on hb
    have hNw : IntKind.i64.wrap ((N : Int) + 1) = (N : Int) + 1 := by rw [IntKind.wrap_i64]; omega
    have hDw : IntKind.i64.wrap ((D : Int) + 1) = (D : Int) + 1 := by rw [IntKind.wrap_i64]; omega
    have hNc : ((N + 1 : Nat) : Int) = (N : Int) + 1 := rfl
    have hDc : ((D + 1 : Nat) : Int) = (D : Int) + 1 := rfl
    clear hrem hmw k0 k1 hk hm200 hml hc3 hz hz3 hsb hn hmc hN hD hkm
    by_cases g1 : 200 ≤ N
    · rw [if_pos g1] at hife
      have CI := Lib.hid (fun W hi => check_gives hife (p := some ⟨w3.heap.size, 0, none⟩) (m := 1) (c := 1) (w := W) hi HSI.out)
      have t1 : (200 : Int) ≤ (N : Int) := by omega
      clear h hs hv hife
      go_wp2_with (first | (refine wpList_buildTo rfl 47 _ rfl _ rfl (cs (sIf l) (PB p m c)) (by kernel_rfl) ?_) | (refine wpList_one rfl _ rfl _ rfl w3.heap.size rfl (sIf l) (PB p m c) (by kernel_rfl) ?_))
      refine (C1.out _ (FI.out _ (by (repeat (first | (with_reducible exact Below.refl _ _) | (with_reducible assumption) | (with_reducible apply bl_alloc) | (with_reducible apply bl_drewN) | (with_reducible apply bl_drew) | (with_reducible refine bl_set ?_ (by first | (simp; done) | (simp; omega)) _) | (with_reducible refine bl_call ?_ (by assumption))))))).mono ?_
      rintro e w4 ⟨rfl, hb4⟩
      go_wp2_with fail
      refine (C2.out _ (HH.out.on (by (repeat (first | (with_reducible exact Below.refl _ _) | (with_reducible assumption) | (with_reducible apply bl_alloc) | (with_reducible apply bl_drewN) | (with_reducible apply bl_drew) | (with_reducible refine bl_set ?_ (by first | (simp; done) | (simp; omega)) _) | (with_reducible refine bl_call ?_ (by assumption))))))).mono ?_
      rintro e w5 ⟨rfl, hb5⟩
      go_wp2_with fail
      refine (D1.out _ (FI.out _ (by (repeat (first | (with_reducible exact Below.refl _ _) | (with_reducible assumption) | (with_reducible apply bl_alloc) | (with_reducible apply bl_drewN) | (with_reducible apply bl_drew) | (with_reducible refine bl_set ?_ (by first | (simp; done) | (simp; omega)) _) | (with_reducible refine bl_call ?_ (by assumption))))))).mono ?_
      rintro e w6 ⟨rfl, hb6⟩
      go_wp2_with fail
      refine (D2.out _ (HH.out.on (by (repeat (first | (with_reducible exact Below.refl _ _) | (with_reducible assumption) | (with_reducible apply bl_alloc) | (with_reducible apply bl_drewN) | (with_reducible apply bl_drew) | (with_reducible refine bl_set ?_ (by first | (simp; done) | (simp; omega)) _) | (with_reducible refine bl_call ?_ (by assumption))))))).mono ?_
      rintro e w7 ⟨rfl, hb7⟩
      go_wp2_with fail
      refine (CI.out _ (FI.out _ (by (repeat (first | (with_reducible exact Below.refl _ _) | (with_reducible assumption) | (with_reducible apply bl_alloc) | (with_reducible apply bl_drewN) | (with_reducible apply bl_drew) | (with_reducible refine bl_set ?_ (by first | (simp; done) | (simp; omega)) _) | (with_reducible refine bl_call ?_ (by assumption))))))).mono ?_
      rintro e w8 ⟨rfl, hb8⟩
      go_wp2_with fail
      refine (C2.out _ (HH.out.on (by (repeat (first | (with_reducible exact Below.refl _ _) | (with_reducible assumption) | (with_reducible apply bl_alloc) | (with_reducible apply bl_drewN) | (with_reducible apply bl_drew) | (with_reducible refine bl_set ?_ (by first | (simp; done) | (simp; omega)) _) | (with_reducible refine bl_call ?_ (by assumption))))))).mono ?_
      rintro e w9 ⟨rfl, hb9⟩
      go_wp2_with fail
      refine (awake_any _).mono ?_
      rintro e wa ⟨rfl, hba⟩
      go_wp2_with fail
      go_ret
      exact ⟨rfl, by (repeat (first | (with_reducible exact Below.refl _ _) | (with_reducible assumption) | (with_reducible apply bl_alloc) | (with_reducible apply bl_drewN) | (with_reducible apply bl_drew) | (with_reducible refine bl_set ?_ (by first | (simp; done) | (simp; omega)) _) | (with_reducible refine bl_call ?_ (by assumption))))⟩
    · rw [if_neg g1] at hife
      have t1 : (N : Int) < 200 := by omega
      by_cases g2 : 12 ≤ D
      · rw [if_pos g2] at hife
        have CI := Lib.hid (fun W hi => check_gives hife (p := some ⟨w3.heap.size, 0, none⟩) (m := 1) (c := 1) (w := W) hi HSI.out)
        have t2 : (12 : Int) ≤ (D : Int) := by omega
        clear h hs hv hife
        go_wp2_with (first | (refine wpList_buildTo rfl 47 _ rfl _ rfl (cs (sIf l) (PB p m c)) (by kernel_rfl) ?_) | (refine wpList_one rfl _ rfl _ rfl w3.heap.size rfl (sIf l) (PB p m c) (by kernel_rfl) ?_))
        refine (C1.out _ (FI.out _ (by (repeat (first | (with_reducible exact Below.refl _ _) | (with_reducible assumption) | (with_reducible apply bl_alloc) | (with_reducible apply bl_drewN) | (with_reducible apply bl_drew) | (with_reducible refine bl_set ?_ (by first | (simp; done) | (simp; omega)) _) | (with_reducible refine bl_call ?_ (by assumption))))))).mono ?_
        rintro e w4 ⟨rfl, hb4⟩
        go_wp2_with fail
        refine (C2.out _ (HH.out.on (by (repeat (first | (with_reducible exact Below.refl _ _) | (with_reducible assumption) | (with_reducible apply bl_alloc) | (with_reducible apply bl_drewN) | (with_reducible apply bl_drew) | (with_reducible refine bl_set ?_ (by first | (simp; done) | (simp; omega)) _) | (with_reducible refine bl_call ?_ (by assumption))))))).mono ?_
        rintro e w5 ⟨rfl, hb5⟩
        go_wp2_with fail
        refine (D1.out _ (FI.out _ (by (repeat (first | (with_reducible exact Below.refl _ _) | (with_reducible assumption) | (with_reducible apply bl_alloc) | (with_reducible apply bl_drewN) | (with_reducible apply bl_drew) | (with_reducible refine bl_set ?_ (by first | (simp; done) | (simp; omega)) _) | (with_reducible refine bl_call ?_ (by assumption))))))).mono ?_
        rintro e w6 ⟨rfl, hb6⟩
        go_wp2_with fail
        refine (D2.out _ (HH.out.on (by (repeat (first | (with_reducible exact Below.refl _ _) | (with_reducible assumption) | (with_reducible apply bl_alloc) | (with_reducible apply bl_drewN) | (with_reducible apply bl_drew) | (with_reducible refine bl_set ?_ (by first | (simp; done) | (simp; omega)) _) | (with_reducible refine bl_call ?_ (by assumption))))))).mono ?_
        rintro e w7 ⟨rfl, hb7⟩
        go_wp2_with fail
        refine (CI.out _ (FI.out _ (by (repeat (first | (with_reducible exact Below.refl _ _) | (with_reducible assumption) | (with_reducible apply bl_alloc) | (with_reducible apply bl_drewN) | (with_reducible apply bl_drew) | (with_reducible refine bl_set ?_ (by first | (simp; done) | (simp; omega)) _) | (with_reducible refine bl_call ?_ (by assumption))))))).mono ?_
        rintro e w8 ⟨rfl, hb8⟩
        go_wp2_with fail
        refine (C2.out _ (HH.out.on (by (repeat (first | (with_reducible exact Below.refl _ _) | (with_reducible assumption) | (with_reducible apply bl_alloc) | (with_reducible apply bl_drewN) | (with_reducible apply bl_drew) | (with_reducible refine bl_set ?_ (by first | (simp; done) | (simp; omega)) _) | (with_reducible refine bl_call ?_ (by assumption))))))).mono ?_
        rintro e w9 ⟨rfl, hb9⟩
        go_wp2_with fail
        refine (D2.out _ (HH.out.on (by (repeat (first | (with_reducible exact Below.refl _ _) | (with_reducible assumption) | (with_reducible apply bl_alloc) | (with_reducible apply bl_drewN) | (with_reducible apply bl_drew) | (with_reducible refine bl_set ?_ (by first | (simp; done) | (simp; omega)) _) | (with_reducible refine bl_call ?_ (by assumption))))))).mono ?_
        rintro e wa ⟨rfl, hba⟩
        go_wp2_with fail
        refine (awake_any _).mono ?_
        rintro e wb ⟨rfl, hbb⟩
        go_wp2_with fail
        go_ret
        exact ⟨rfl, by (repeat (first | (with_reducible exact Below.refl _ _) | (with_reducible assumption) | (with_reducible apply bl_alloc) | (with_reducible apply bl_drewN) | (with_reducible apply bl_drew) | (with_reducible refine bl_set ?_ (by first | (simp; done) | (simp; omega)) _) | (with_reducible refine bl_call ?_ (by assumption))))⟩
      · rw [if_neg g2] at hife
        have CI := Lib.hid (fun W hi => check_gives hife (p := some ⟨w3.heap.size, 0, none⟩) (m := 1) (c := 1) (w := W) hi HSI.out)
        have t2 : (D : Int) < 12 := by omega
        clear h hs hv hife
        go_wp2_with (first | (refine wpList_buildTo rfl 47 _ rfl _ rfl (cs (sIf l) (PB p m c)) (by kernel_rfl) ?_) | (refine wpList_one rfl _ rfl _ rfl w3.heap.size rfl (sIf l) (PB p m c) (by kernel_rfl) ?_))
        refine (C1.out _ (FI.out _ (by (repeat (first | (with_reducible exact Below.refl _ _) | (with_reducible assumption) | (with_reducible apply bl_alloc) | (with_reducible apply bl_drewN) | (with_reducible apply bl_drew) | (with_reducible refine bl_set ?_ (by first | (simp; done) | (simp; omega)) _) | (with_reducible refine bl_call ?_ (by assumption))))))).mono ?_
        rintro e w4 ⟨rfl, hb4⟩
        go_wp2_with fail
        refine (C2.out _ (HH.out.on (by (repeat (first | (with_reducible exact Below.refl _ _) | (with_reducible assumption) | (with_reducible apply bl_alloc) | (with_reducible apply bl_drewN) | (with_reducible apply bl_drew) | (with_reducible refine bl_set ?_ (by first | (simp; done) | (simp; omega)) _) | (with_reducible refine bl_call ?_ (by assumption))))))).mono ?_
        rintro e w5 ⟨rfl, hb5⟩
        go_wp2_with fail
        refine (D1.out _ (FI.out _ (by (repeat (first | (with_reducible exact Below.refl _ _) | (with_reducible assumption) | (with_reducible apply bl_alloc) | (with_reducible apply bl_drewN) | (with_reducible apply bl_drew) | (with_reducible refine bl_set ?_ (by first | (simp; done) | (simp; omega)) _) | (with_reducible refine bl_call ?_ (by assumption))))))).mono ?_
        rintro e w6 ⟨rfl, hb6⟩
        go_wp2_with fail
        refine (D2.out _ (HH.out.on (by (repeat (first | (with_reducible exact Below.refl _ _) | (with_reducible assumption) | (with_reducible apply bl_alloc) | (with_reducible apply bl_drewN) | (with_reducible apply bl_drew) | (with_reducible refine bl_set ?_ (by first | (simp; done) | (simp; omega)) _) | (with_reducible refine bl_call ?_ (by assumption))))))).mono ?_
        rintro e w7 ⟨rfl, hb7⟩
        go_wp2_with fail
        refine (CI.out _ (FI.out _ (by (repeat (first | (with_reducible exact Below.refl _ _) | (with_reducible assumption) | (with_reducible apply bl_alloc) | (with_reducible apply bl_drewN) | (with_reducible apply bl_drew) | (with_reducible refine bl_set ?_ (by first | (simp; done) | (simp; omega)) _) | (with_reducible refine bl_call ?_ (by assumption))))))).mono ?_
        rintro e w8 ⟨rfl, hb8⟩
        go_wp2_with fail
        refine (C2.out _ (HH.out.on (by (repeat (first | (with_reducible exact Below.refl _ _) | (with_reducible assumption) | (with_reducible apply bl_alloc) | (with_reducible apply bl_drewN) | (with_reducible apply bl_drew) | (with_reducible refine bl_set ?_ (by first | (simp; done) | (simp; omega)) _) | (with_reducible refine bl_call ?_ (by assumption))))))).mono ?_
        rintro e w9 ⟨rfl, hb9⟩
        go_wp2_with fail
        refine (D2.out _ (HH.out.on (by (repeat (first | (with_reducible exact Below.refl _ _) | (with_reducible assumption) | (with_reducible apply bl_alloc) | (with_reducible apply bl_drewN) | (with_reducible apply bl_drew) | (with_reducible refine bl_set ?_ (by first | (simp; done) | (simp; omega)) _) | (with_reducible refine bl_call ?_ (by assumption))))))).mono ?_
        rintro e wa ⟨rfl, hba⟩
        go_wp2_with fail
        refine (awake_any _).mono ?_
        rintro e wb ⟨rfl, hbb⟩
        go_wp2_with fail
        go_ret
        exact ⟨rfl, by (repeat (first | (with_reducible exact Below.refl _ _) | (with_reducible assumption) | (with_reducible apply bl_alloc) | (with_reducible apply bl_drewN) | (with_reducible apply bl_drew) | (with_reducible refine bl_set ?_ (by first | (simp; done) | (simp; omega)) _) | (with_reducible refine bl_call ?_ (by assumption))))⟩
end Go.Proofs.Ytonlmnlpofgccaa.Sm
