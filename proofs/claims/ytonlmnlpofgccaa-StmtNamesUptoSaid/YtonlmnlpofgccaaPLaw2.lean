/-
  The law of Names.
-/
import Derived.Test.YtonlmnlpofgccaaPLaw5
import Derived.Test.YtonlmnlpofgccaaPRTgt
import Derived.Test.YtonlmnlpofgccaaPRUses2
namespace Go.Proofs.Ytonlmnlpofgccaa.Sm
open Go.RowKit
open Go.Proofs.Ytonlmnlpofgccaa.Na (bs bs_inj chk)
open Go.Proofs.Ytonlmnlpofgccaa.Ex (Ex Nm Kin In Sz Lo Gives bl_alloc bl_drewN bl_drew bl_set bl_call block_lt Txs OwnT GivesT tb insA)
set_option maxHeartbeats 2000000
set_option linter.unusedVariables false
theorem samet2_yes {l l2 : List (Nm × Nm)} (h : l = l2) {p : Option Addr} {m c : Nat} {p2 : Option Addr} {m2 c2 : Nat} {w : World} (h1 : Tgs w p m l) (h2 : Tgs w p2 m2 l2) : Calls Try.prog 10 #[.slice p m c, .slice p2 m2 c2] w (Gives (.bool true) w) := by
  have := samet_any l l2 p m c p2 m2 c2 w h1 h2
  rwa [decide_eq_true h] at this
theorem r07same_yes {l l2 : List Nm} (h : l = l2) {p : Option Addr} {m c : Nat} {p2 : Option Addr} {m2 c2 : Nat} {w : World} (h1 : Txs w p m l) (h2 : Txs w p2 m2 l2) : Calls Try.prog 13 #[.slice p m c, .slice p2 m2 c2] w (Gives (.bool true) w) := by
  have := r07same_any l l2 p m c p2 m2 c2 w h1 h2
  rwa [decide_eq_true h] at this
set_option maxRecDepth 100000 in
theorem stmtNames_walk (l : List St) (p : Option Addr) (m c : Nat) (w : World) (h : LIn w l p m) (hmc : m ≤ c) (hz : szL l ≤ 1048576) (hs : SzL l) : Calls Try.prog 3 #[.slice p m c] w (Gives (.bool true) w) := by
  have HH := Lib.hid h
  obtain ⟨sb, hsb⟩ : ∃ b, decide (szL l ≤ 3000) = b := ⟨_, rfl⟩
  have HS := Lib.hid (fun W hi => small_gives hsb p m c W hi (by omega) hs)
  cases sb with
  | false =>
    clear h hmc hz hs hsb
    go_enter Try.func3, Try.ntmps3
    go_wp2_with fail
    refine (HS.out _ (HH.out.on (by (repeat (first | (with_reducible exact Below.refl _ _) | (with_reducible assumption) | (with_reducible apply bl_alloc) | (with_reducible apply bl_drewN) | (with_reducible apply bl_drew) | (with_reducible refine bl_set ?_ (by first | (simp; done) | (simp; omega)) _) | (with_reducible refine bl_call ?_ (by assumption))))))).mono ?_
    rintro e w1 ⟨rfl, hb1⟩
    go_wp2_with fail
    refine (awake_any _).mono ?_
    rintro e wz ⟨rfl, hbz⟩
    go_wp2_with fail
    go_ret
    exact ⟨rfl, by (repeat (first | (with_reducible exact Below.refl _ _) | (with_reducible assumption) | (with_reducible apply bl_alloc) | (with_reducible apply bl_drewN) | (with_reducible apply bl_drew) | (with_reducible refine bl_set ?_ (by first | (simp; done) | (simp; omega)) _) | (with_reducible refine bl_call ?_ (by assumption))))⟩
  | true =>
    have hz3 : szL l ≤ 3000 := of_decide_eq_true hsb
    have q3 := cnL_le_szL l
    have T1 := Lib.hid (fun W hi => targets_gives (sl := l) rfl (p := p) (m := m) (c := c) (w := W) hi hs (by omega))
    have T2 := Lib.hid (fun W hi => rtargets_any l p m c W hi (by omega))
    have U1 := Lib.hid (fun W hi => uses_gives (sl := l) rfl (p := p) (m := m) (c := c) (w := W) hi hs (by omega))
    have U2 := Lib.hid (fun W hi => ruses_any l p m c W hi (by omega))
    clear h hmc hz hs hsb hz3 q3
    go_enter Try.func3, Try.ntmps3
    go_wp2_with fail
    refine (HS.out _ (HH.out.on (by (repeat (first | (with_reducible exact Below.refl _ _) | (with_reducible assumption) | (with_reducible apply bl_alloc) | (with_reducible apply bl_drewN) | (with_reducible apply bl_drew) | (with_reducible refine bl_set ?_ (by first | (simp; done) | (simp; omega)) _) | (with_reducible refine bl_call ?_ (by assumption))))))).mono ?_
    rintro e w1 ⟨rfl, hb1⟩
    go_wp2_with fail
    refine (T1.out _ (HH.out.on (by (repeat (first | (with_reducible exact Below.refl _ _) | (with_reducible assumption) | (with_reducible apply bl_alloc) | (with_reducible apply bl_drewN) | (with_reducible apply bl_drew) | (with_reducible refine bl_set ?_ (by first | (simp; done) | (simp; omega)) _) | (with_reducible refine bl_call ?_ (by assumption))))))).mono ?_
    rintro e w2 ⟨p2, n2, c2, rfl, ht2, hb2⟩
    go_wp2_with fail
    refine (T2.out _ (HH.out.on (by (repeat (first | (with_reducible exact Below.refl _ _) | (with_reducible assumption) | (with_reducible apply bl_alloc) | (with_reducible apply bl_drewN) | (with_reducible apply bl_drew) | (with_reducible refine bl_set ?_ (by first | (simp; done) | (simp; omega)) _) | (with_reducible refine bl_call ?_ (by assumption))))))).mono ?_
    rintro e w3 ⟨p3, n3, c3, rfl, ht3, hb3⟩
    go_wp2_with fail
    refine (samet2_yes rfl (ht2.on hb3) ht3).mono ?_
    rintro e w4 ⟨rfl, hb4⟩
    clear ht2 ht3 T1 T2
    go_wp2_with fail
    refine (U1.out _ (HH.out.on (by (repeat (first | (with_reducible exact Below.refl _ _) | (with_reducible assumption) | (with_reducible apply bl_alloc) | (with_reducible apply bl_drewN) | (with_reducible apply bl_drew) | (with_reducible refine bl_set ?_ (by first | (simp; done) | (simp; omega)) _) | (with_reducible refine bl_call ?_ (by assumption))))))).mono ?_
    rintro e w5 ⟨p5, n5, c5, rfl, ht5, hb5⟩
    go_wp2_with fail
    refine (U2.out _ (HH.out.on (by (repeat (first | (with_reducible exact Below.refl _ _) | (with_reducible assumption) | (with_reducible apply bl_alloc) | (with_reducible apply bl_drewN) | (with_reducible apply bl_drew) | (with_reducible refine bl_set ?_ (by first | (simp; done) | (simp; omega)) _) | (with_reducible refine bl_call ?_ (by assumption))))))).mono ?_
    rintro e w6 ⟨v6, rfl, hown6, hb6⟩
    obtain ⟨p6, c6, rfl, ht6⟩ := own_txs_le hown6
    go_wp2_with fail
    refine (r07same_yes rfl (ht5.on hb6) ht6).mono ?_
    rintro e w7 ⟨rfl, hb7⟩
    clear ht5 ht6 hown6
    go_wp2_with fail
    refine (awake_any _).mono ?_
    rintro e wz ⟨rfl, hbz⟩
    go_wp2_with fail
    go_ret
    exact ⟨rfl, by (repeat (first | (with_reducible exact Below.refl _ _) | (with_reducible assumption) | (with_reducible apply bl_alloc) | (with_reducible apply bl_drewN) | (with_reducible apply bl_drew) | (with_reducible refine bl_set ?_ (by first | (simp; done) | (simp; omega)) _) | (with_reducible refine bl_call ?_ (by assumption))))⟩
end Go.Proofs.Ytonlmnlpofgccaa.Sm
