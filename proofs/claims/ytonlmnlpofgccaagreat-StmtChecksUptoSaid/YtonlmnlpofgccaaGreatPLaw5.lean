/-
  The law of Parts.
-/
import Derived.Test.YtonlmnlpofgccaaGreatPAwake
import Derived.Test.YtonlmnlpofgccaaGreatPRSize
namespace Go.Proofs.YtonlmnlpofgccaaGreat.Sm
open Go.RowKit
open Go.Proofs.YtonlmnlpofgccaaGreat.Na (bs bs_inj chk)
open Go.Proofs.YtonlmnlpofgccaaGreat.Ex (Ex Nm Kin In Sz Lo Gives bl_alloc bl_drewN bl_drew bl_set bl_call block_lt)
attribute [local go_sem] cs0 cs1 cs2 cs3 cs4 cs5 cs6 cs7 cs8 cs9 cs10 cs11 cs12 cs13 cs14 cs15 cs16 cs17 cs18 cs19 cs20
set_option maxHeartbeats 2000000
set_option linter.unusedVariables false
theorem rsize_gives {sl : List St} {n : Nat} (h : szL sl = n) (p : Option Addr) (m c : Nat) (w : World) (hi : LIn w sl p m) (hc : n ≤ 2000000) (hs : SzL sl) : Calls Tryz.prog 12 #[.slice p m c] w (Gives (.int .i64 (n : Nat)) w) := by subst h; exact rsize_any sl p m c w hi hc hs
set_option maxRecDepth 100000 in
theorem small_any (sl : List St) (p : Option Addr) (m c : Nat) (w : World) (h : LIn w sl p m) (hc : szL sl ≤ 2000000) (hs : SzL sl) : Calls Tryz.prog 4 #[.slice p m c] w (Gives (.bool (decide (szL sl ≤ 3000))) w) := by
  obtain ⟨n, hn⟩ : ∃ n, szL sl = n := ⟨_, rfl⟩
  have HR := Lib.hid (fun W hi => rsize_gives hn p m c W hi (by omega) hs)
  have HH := Lib.hid h
  rw [hn]
  clear h hc hs hn
  by_cases h3 : n ≤ 3000
  · rw [decide_eq_true h3]
    have t1 : (n : Int) ≤ 3000 := by omega
    go_enter Tryz.func4, Tryz.ntmps4
    go_wp2_with fail
    refine (HR.out _ (HH.out.on (by (repeat (first | (with_reducible exact Below.refl _ _) | (with_reducible assumption) | (with_reducible apply bl_alloc) | (with_reducible apply bl_drewN) | (with_reducible apply bl_drew) | (with_reducible refine bl_set ?_ (by first | (simp; done) | (simp; omega)) _) | (with_reducible refine bl_call ?_ (by assumption))))))).mono ?_
    rintro e w1 ⟨rfl, hb1⟩
    go_wp2_with fail
    go_ret
    exact ⟨by first | (simp; done) | (simp; omega), by (repeat (first | (with_reducible exact Below.refl _ _) | (with_reducible assumption) | (with_reducible apply bl_alloc) | (with_reducible apply bl_drewN) | (with_reducible apply bl_drew) | (with_reducible refine bl_set ?_ (by first | (simp; done) | (simp; omega)) _) | (with_reducible refine bl_call ?_ (by assumption))))⟩
  · rw [decide_eq_false h3]
    have t1 : (3000 : Int) < (n : Int) := by omega
    go_enter Tryz.func4, Tryz.ntmps4
    go_wp2_with fail
    refine (HR.out _ (HH.out.on (by (repeat (first | (with_reducible exact Below.refl _ _) | (with_reducible assumption) | (with_reducible apply bl_alloc) | (with_reducible apply bl_drewN) | (with_reducible apply bl_drew) | (with_reducible refine bl_set ?_ (by first | (simp; done) | (simp; omega)) _) | (with_reducible refine bl_call ?_ (by assumption))))))).mono ?_
    rintro e w1 ⟨rfl, hb1⟩
    go_wp2_with fail
    go_ret
    exact ⟨by first | (simp; done) | (simp; omega), by (repeat (first | (with_reducible exact Below.refl _ _) | (with_reducible assumption) | (with_reducible apply bl_alloc) | (with_reducible apply bl_drewN) | (with_reducible apply bl_drew) | (with_reducible refine bl_set ?_ (by first | (simp; done) | (simp; omega)) _) | (with_reducible refine bl_call ?_ (by assumption))))⟩
theorem small_gives {sl : List St} {b : Bool} (h : decide (szL sl ≤ 3000) = b) (p : Option Addr) (m c : Nat) (w : World) (hi : LIn w sl p m) (hc : szL sl ≤ 2000000) (hs : SzL sl) : Calls Tryz.prog 4 #[.slice p m c] w (Gives (.bool b) w) := by subst h; exact small_any sl p m c w hi hc hs
/-- The condition around a list. -/
abbrev sIf (l : List St) : St := .mk 3 nE nE (.mk 2 nE 0 []) zE [] zD false l []
abbrev PB (p : Option Addr) (m c : Nat) : Pl := ⟨none, 0, 0, none, 0, 0, none, 0, 0, none, 0, 0, none, 0, 0, p, m, c, none, 0, 0⟩
theorem if_one (l : List St) : oneE (sIf l) = 0 := by
  have h1 : frm (sIf l) = true := by
    unfold frm
    simp only [St.o, St.nm, St.f, St.e, St.g, St.ar, St.di, St.fl, St.bo, St.el]
    rw [show uB 3 = true from rfl, show uL 3 = true from rfl]
    rfl
  unfold oneE
  rw [h1]
  rfl
theorem if_cn (l : List St) : cnL [sIf l] = cnL l + 1 := by rw [cnL_cons, cn_one]; simp [cnL, St.bo, St.el]
theorem if_dp (l : List St) : dpL [sIf l] = dpL l + 1 := by rw [dpL_cons, dp_one]; simp [dpL, St.bo, St.el]
theorem if_ord (l : List St) : ordL [sIf l] = sIf l :: ordL l := by rw [ordL_cons, ord_one]; simp [ordL, St.bo, St.el]
theorem if_chk (l : List St) (h : chkL l = 0) : chkL [sIf l] = if 200 ≤ cnL l then 6 else if 12 ≤ dpL l then 11 else 0 := by
  obtain ⟨h1, h2, h3⟩ := chkL_ok h
  unfold chkL
  rw [if_cn, if_dp]
  by_cases g1 : 200 ≤ cnL l
  · rw [if_pos (by omega), if_pos g1]
  · rw [if_neg (by omega), if_neg g1]
    by_cases g2 : 12 ≤ dpL l
    · rw [if_pos (by omega), if_pos g2]
    · rw [if_neg (by omega), if_neg g2, if_ord]
      exact badS_zero.2 fun x hx => by
        rcases List.mem_cons.1 hx with rfl | hx
        · exact if_one l
        · exact h3 x hx
theorem if_sz {l : List St} (h : SzL l) : SzL [sIf l] := fun x hx => by
  rw [if_ord] at hx
  rcases List.mem_cons.1 hx with rfl | hx
  · have h0 : SzS (sIf []) := sz_of (l := [sIf []]) (by decide +kernel) (sIf []) (by rw [if_ord]; exact List.mem_cons_self)
    exact h0
  · exact h x hx
theorem take_chk {l : List St} (k : Nat) (h : chkL l = 0) : chkL (l.take k) = 0 := by
  obtain ⟨h1, h2, h3⟩ := chkL_ok h
  refine chkL_of (Nat.le_trans (cnL_le l k) h1) (Nat.le_trans (dpL_le l k) h2) fun x hx => h3 x ?_
  obtain ⟨y, hy, hxy⟩ := ordL_mem' hx
  exact ordL_mem (List.mem_of_mem_take hy) hxy
theorem take_szL {l : List St} (k : Nat) (h : SzL l) : SzL (l.take k) := fun x hx => by
  obtain ⟨y, hy, hxy⟩ := ordL_mem' hx
  exact h x (ordL_mem (List.mem_of_mem_take hy) hxy)
theorem take_lin {w : World} {l : List St} {p : Option Addr} {m k : Nat} (hk : k ≤ m) (h : LIn w l p m) : LIn w (l.take k) p k := by
  obtain ⟨h1, h2, h3⟩ := h
  refine ⟨by simp; omega, by omega, ?_⟩
  rcases h3 with h3 | ⟨b, o, rfl, hg, hb, h4⟩
  · exact .inl (by omega)
  · refine .inr ⟨b, o, rfl, hg, hb, Lib.hid fun j hj => ?_⟩
    have hj2 : j < l.length := by
      rw [List.length_take] at hj
      omega
    obtain ⟨P, h5, h6⟩ := h4.out j hj2
    exact ⟨P, by rw [List.getElem_take]; exact h5, by rw [List.getElem_take]; exact h6⟩
end Go.Proofs.YtonlmnlpofgccaaGreat.Sm
