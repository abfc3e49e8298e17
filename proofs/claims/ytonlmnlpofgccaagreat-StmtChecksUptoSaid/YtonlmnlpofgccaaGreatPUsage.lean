/-
  The contracts of usage, of checkUsed at its four types, of checkArgs and of the library's cmp.Or.
-/
import Derived.Test.YtonlmnlpofgccaaGreatPBase
import Derived.Test.YtonlmnlpofgccaaGreatECheck
import Derived.Test.YtonlmnlpofgccaaGreatDCheck2
namespace Go.Proofs.YtonlmnlpofgccaaGreat.Sm
open Go.RowKit
open Go.Proofs.YtonlmnlpofgccaaGreat.Na (bs bs_inj chk)
open Go.Proofs.YtonlmnlpofgccaaGreat.Ex (Ex Nm Kin In Sz Lo Gives bl_alloc bl_drewN bl_drew bl_set bl_call block_lt chkE ret_int cell4)
attribute [local go_sem] cs0 cs1 cs2 cs3 cs4 cs5 cs6 cs7 cs8 cs9 cs10 cs11 cs12 cs13 cs14 cs15 cs16 cs17 cs18 cs19 cs20
set_option maxHeartbeats 2000000
set_option linter.unusedVariables false
/-- What the statements of a form use. -/
abbrev usV (o : Int) : Value := .agg #[.bool (uN o), .bool (uO o), .bool (uE o), .bool (uF o), .bool (uA o), .bool (uD o), .bool (uG o), .bool (uB o), .bool (uL o)]
theorem op_cases (o : Int) : (o = 1 ∨ o = 2 ∨ o = 3 ∨ o = 4 ∨ o = 5 ∨ o = 6 ∨ o = 7 ∨ o = 8 ∨ o = 9 ∨ o = 10 ∨ o = 11 ∨ o = 12 ∨ o = 13 ∨ o = 14 ∨ o = 15 ∨ o = 16 ∨ o = 17 ∨ o = 18) ∨ (o < 1 ∨ 18 < o) := by omega
set_option maxRecDepth 100000 in
theorem usage_any (o : Int) (w : World) : Calls Tryz.prog 28 #[.int .i64 o] w (Gives (.tuple #[usV o, .bool (kn o)]) w) := by
  rcases op_cases o with h | h
  · rcases h with rfl | rfl | rfl | rfl | rfl | rfl | rfl | rfl | rfl | rfl | rfl | rfl | rfl | rfl | rfl | rfl | rfl | rfl
    all_goals
      go_enter Tryz.func28, Tryz.ntmps28
      go_wp2_with fail
      exact bodyPost_ret (v := .tuple #[usV _, .bool (kn _)]) (by simp [results, Tryz.results28, go_sem, usV, uN, uO, uE, uF, uA, uD, uG, uB, uL, kn]) rfl ⟨rfl, by (repeat (first | (with_reducible exact Below.refl _ _) | (with_reducible assumption) | (with_reducible apply bl_alloc) | (with_reducible apply bl_drewN) | (with_reducible apply bl_drew) | (with_reducible refine bl_set ?_ (by first | (simp; done) | (simp; omega)) _) | (with_reducible refine bl_call ?_ (by assumption))))⟩
  · have hk : kn o = false := by unfold kn; rcases h with h | h <;> simp <;> omega
    have e0 : usV o = .agg #[.bool false, .bool false, .bool false, .bool false, .bool false, .bool false, .bool false, .bool false, .bool false] := by
      have a1 : uN o = false := by unfold uN; exact decide_eq_false (by omega)
      have a2 : uO o = false := by unfold uO; exact decide_eq_false (by omega)
      have a3 : uE o = false := by unfold uE; exact decide_eq_false (by omega)
      have a4 : uF o = false := by unfold uF; exact decide_eq_false (by omega)
      have a5 : uA o = false := by unfold uA; exact decide_eq_false (by omega)
      have a6 : uD o = false := by unfold uD; exact decide_eq_false (by omega)
      have a7 : uG o = false := by unfold uG; exact decide_eq_false (by omega)
      have a8 : uB o = false := by unfold uB; exact decide_eq_false (by omega)
      have a9 : uL o = false := by unfold uL; exact decide_eq_false (by omega)
      show Value.agg _ = _
      rw [a1, a2, a3, a4, a5, a6, a7, a8, a9]
    rw [hk, e0]
    have u1 : (o == 1) = false := beq_eq_false_iff_ne.2 (by omega)
    have u2 : (o == 2) = false := beq_eq_false_iff_ne.2 (by omega)
    have u3 : (o == 3) = false := beq_eq_false_iff_ne.2 (by omega)
    have u4 : (o == 4) = false := beq_eq_false_iff_ne.2 (by omega)
    have u5 : (o == 5) = false := beq_eq_false_iff_ne.2 (by omega)
    have u6 : (o == 6) = false := beq_eq_false_iff_ne.2 (by omega)
    have u7 : (o == 7) = false := beq_eq_false_iff_ne.2 (by omega)
    have u8 : (o == 8) = false := beq_eq_false_iff_ne.2 (by omega)
    have u9 : (o == 9) = false := beq_eq_false_iff_ne.2 (by omega)
    have u10 : (o == 10) = false := beq_eq_false_iff_ne.2 (by omega)
    have u11 : (o == 11) = false := beq_eq_false_iff_ne.2 (by omega)
    have u12 : (o == 12) = false := beq_eq_false_iff_ne.2 (by omega)
    have u13 : (o == 13) = false := beq_eq_false_iff_ne.2 (by omega)
    have u14 : (o == 14) = false := beq_eq_false_iff_ne.2 (by omega)
    have u15 : (o == 15) = false := beq_eq_false_iff_ne.2 (by omega)
    have u16 : (o == 16) = false := beq_eq_false_iff_ne.2 (by omega)
    have u17 : (o == 17) = false := beq_eq_false_iff_ne.2 (by omega)
    have u18 : (o == 18) = false := beq_eq_false_iff_ne.2 (by omega)
    clear h hk e0
    go_enter Tryz.func28, Tryz.ntmps28
    go_wp2_with fail
    exact bodyPost_ret (v := .tuple #[.agg #[.bool false, .bool false, .bool false, .bool false, .bool false, .bool false, .bool false, .bool false, .bool false], .bool false]) (by simp [results, Tryz.results28, go_sem]) rfl ⟨rfl, by (repeat (first | (with_reducible exact Below.refl _ _) | (with_reducible assumption) | (with_reducible apply bl_alloc) | (with_reducible apply bl_drewN) | (with_reducible apply bl_drew) | (with_reducible refine bl_set ?_ (by first | (simp; done) | (simp; omega)) _) | (with_reducible refine bl_call ?_ (by assumption))))⟩
theorem onE_true (v : Int) : onE true v = v := rfl
theorem onE_false (v : Int) : onE false v = 0 := rfl
set_option maxRecDepth 100000 in
theorem usedS_any (u : Bool) (s : ByteArray) (v : Int) (w : World) (C : Hid (u = true → ∀ W, Below w.heap.size w W → Calls Tryz.prog 32 #[.string s] W (Gives (.int .i64 v) W))) : Calls Tryz.prog 31 #[.bool u, .func (.func 32) #[] #[], .string s] w (Gives (.int .i64 (onE u v)) w) := by
  cases u with
  | false =>
    clear C
    go_enter Tryz.func31, Tryz.ntmps31
    go_wp2_with fail
    go_ret
    exact ⟨rfl, by (repeat (first | (with_reducible exact Below.refl _ _) | (with_reducible assumption) | (with_reducible apply bl_alloc) | (with_reducible apply bl_drewN) | (with_reducible apply bl_drew) | (with_reducible refine bl_set ?_ (by first | (simp; done) | (simp; omega)) _) | (with_reducible refine bl_call ?_ (by assumption))))⟩
  | true =>
    replace C := Lib.hid ((C).out rfl)
    go_enter Tryz.func31, Tryz.ntmps31
    go_wp2_with fail
    refine ((C).out _ (by (repeat (first | (with_reducible exact Below.refl _ _) | (with_reducible assumption) | (with_reducible apply bl_alloc) | (with_reducible apply bl_drewN) | (with_reducible apply bl_drew) | (with_reducible refine bl_set ?_ (by first | (simp; done) | (simp; omega)) _) | (with_reducible refine bl_call ?_ (by assumption)))))).mono ?_
    rintro e w1 ⟨rfl, hb1⟩
    go_wp2_with fail
    go_ret
    exact ⟨rfl, by (repeat (first | (with_reducible exact Below.refl _ _) | (with_reducible assumption) | (with_reducible apply bl_alloc) | (with_reducible apply bl_drewN) | (with_reducible apply bl_drew) | (with_reducible refine bl_set ?_ (by first | (simp; done) | (simp; omega)) _) | (with_reducible refine bl_call ?_ (by assumption))))⟩
set_option maxRecDepth 100000 in
theorem usedE_any (u : Bool) (e : Ex) (p : Option Addr) (m c : Nat) (v : Int) (w : World) (C : Hid (u = true → ∀ W, Below w.heap.size w W → Calls Tryz.prog 34 #[.agg #[.int .i64 e.o, .string e.s, .int .i64 e.n, .slice p m c]] W (Gives (.int .i64 v) W))) : Calls Tryz.prog 33 #[.bool u, .func (.func 34) #[] #[], .agg #[.int .i64 e.o, .string e.s, .int .i64 e.n, .slice p m c]] w (Gives (.int .i64 (onE u v)) w) := by
  cases u with
  | false =>
    clear C
    go_enter Tryz.func33, Tryz.ntmps33
    go_wp2_with fail
    go_ret
    exact ⟨rfl, by (repeat (first | (with_reducible exact Below.refl _ _) | (with_reducible assumption) | (with_reducible apply bl_alloc) | (with_reducible apply bl_drewN) | (with_reducible apply bl_drew) | (with_reducible refine bl_set ?_ (by first | (simp; done) | (simp; omega)) _) | (with_reducible refine bl_call ?_ (by assumption))))⟩
  | true =>
    replace C := Lib.hid ((C).out rfl)
    go_enter Tryz.func33, Tryz.ntmps33
    go_wp2_with fail
    refine ((C).out _ (by (repeat (first | (with_reducible exact Below.refl _ _) | (with_reducible assumption) | (with_reducible apply bl_alloc) | (with_reducible apply bl_drewN) | (with_reducible apply bl_drew) | (with_reducible refine bl_set ?_ (by first | (simp; done) | (simp; omega)) _) | (with_reducible refine bl_call ?_ (by assumption)))))).mono ?_
    rintro e w1 ⟨rfl, hb1⟩
    go_wp2_with fail
    go_ret
    exact ⟨rfl, by (repeat (first | (with_reducible exact Below.refl _ _) | (with_reducible assumption) | (with_reducible apply bl_alloc) | (with_reducible apply bl_drewN) | (with_reducible apply bl_drew) | (with_reducible refine bl_set ?_ (by first | (simp; done) | (simp; omega)) _) | (with_reducible refine bl_call ?_ (by assumption))))⟩
set_option maxRecDepth 100000 in
theorem usedA_any (u : Bool) (p : Option Addr) (m c : Nat) (v : Int) (w : World) (C : Hid (u = true → ∀ W, Below w.heap.size w W → Calls Tryz.prog 36 #[.slice p m c] W (Gives (.int .i64 v) W))) : Calls Tryz.prog 35 #[.bool u, .func (.func 36) #[] #[], .slice p m c] w (Gives (.int .i64 (onE u v)) w) := by
  cases u with
  | false =>
    clear C
    go_enter Tryz.func35, Tryz.ntmps35
    go_wp2_with fail
    go_ret
    exact ⟨rfl, by (repeat (first | (with_reducible exact Below.refl _ _) | (with_reducible assumption) | (with_reducible apply bl_alloc) | (with_reducible apply bl_drewN) | (with_reducible apply bl_drew) | (with_reducible refine bl_set ?_ (by first | (simp; done) | (simp; omega)) _) | (with_reducible refine bl_call ?_ (by assumption))))⟩
  | true =>
    replace C := Lib.hid ((C).out rfl)
    go_enter Tryz.func35, Tryz.ntmps35
    go_wp2_with fail
    refine ((C).out _ (by (repeat (first | (with_reducible exact Below.refl _ _) | (with_reducible assumption) | (with_reducible apply bl_alloc) | (with_reducible apply bl_drewN) | (with_reducible apply bl_drew) | (with_reducible refine bl_set ?_ (by first | (simp; done) | (simp; omega)) _) | (with_reducible refine bl_call ?_ (by assumption)))))).mono ?_
    rintro e w1 ⟨rfl, hb1⟩
    go_wp2_with fail
    go_ret
    exact ⟨rfl, by (repeat (first | (with_reducible exact Below.refl _ _) | (with_reducible assumption) | (with_reducible apply bl_alloc) | (with_reducible apply bl_drewN) | (with_reducible apply bl_drew) | (with_reducible refine bl_set ?_ (by first | (simp; done) | (simp; omega)) _) | (with_reducible refine bl_call ?_ (by assumption))))⟩
set_option maxRecDepth 100000 in
theorem usedD_any (u : Bool) (x : St) (P : Pl) (v : Int) (w : World) (C : Hid (u = true → ∀ W, Below w.heap.size w W → Calls Tryz.prog 38 #[.agg #[.int .i64 x.di.op, .int .i64 x.di.a, .int .i64 x.di.b, .int .i64 x.di.n, .slice P.vp P.vm P.vc, .slice P.wp P.wm P.wc]] W (Gives (.int .i64 v) W))) : Calls Tryz.prog 37 #[.bool u, .func (.func 38) #[] #[], .agg #[.int .i64 x.di.op, .int .i64 x.di.a, .int .i64 x.di.b, .int .i64 x.di.n, .slice P.vp P.vm P.vc, .slice P.wp P.wm P.wc]] w (Gives (.int .i64 (onE u v)) w) := by
  cases u with
  | false =>
    clear C
    go_enter Tryz.func37, Tryz.ntmps37
    go_wp2_with fail
    go_ret
    exact ⟨rfl, by (repeat (first | (with_reducible exact Below.refl _ _) | (with_reducible assumption) | (with_reducible apply bl_alloc) | (with_reducible apply bl_drewN) | (with_reducible apply bl_drew) | (with_reducible refine bl_set ?_ (by first | (simp; done) | (simp; omega)) _) | (with_reducible refine bl_call ?_ (by assumption))))⟩
  | true =>
    replace C := Lib.hid ((C).out rfl)
    go_enter Tryz.func37, Tryz.ntmps37
    go_wp2_with fail
    refine ((C).out _ (by (repeat (first | (with_reducible exact Below.refl _ _) | (with_reducible assumption) | (with_reducible apply bl_alloc) | (with_reducible apply bl_drewN) | (with_reducible apply bl_drew) | (with_reducible refine bl_set ?_ (by first | (simp; done) | (simp; omega)) _) | (with_reducible refine bl_call ?_ (by assumption)))))).mono ?_
    rintro e w1 ⟨rfl, hb1⟩
    go_wp2_with fail
    go_ret
    exact ⟨rfl, by (repeat (first | (with_reducible exact Below.refl _ _) | (with_reducible assumption) | (with_reducible apply bl_alloc) | (with_reducible apply bl_drewN) | (with_reducible apply bl_drew) | (with_reducible refine bl_set ?_ (by first | (simp; done) | (simp; omega)) _) | (with_reducible refine bl_call ?_ (by assumption))))⟩
/-- The first number that is not zero. -/
def orL : List Int → Int
  | [] => 0
  | x :: t => orE x (orL t)
theorem orL_app : ∀ a b : List Int, orL (a ++ b) = orE (orL a) (orL b)
  | [], b => orE_yes.symm
  | x :: t, b => by rw [List.cons_append, orL, orL, orL_app t b, orE_assoc]
set_option maxRecDepth 100000 in
theorem or_any (l : List Int) (b n c : Nat) (w : World) (hl : l.length = n) (hn : n ≤ 1000000) (hc : Hid (∀ i, (h : i < l.length) → w.cell? ⟨b, i, none⟩ = some (.int .i64 l[i]))) : Calls Tryz.prog 30 #[.slice (some ⟨b, 0, none⟩) n c] w fun e w' => e = .returned (.int .i64 (orL l)) ∧ w = w' := by
  have HL := Lib.hid hl
  clear hl
  go_enter Tryz.func30, Tryz.ntmps30
  go_wp2_with fail
  go_loop [8] (fun i => ∃ k : Nat, k ≤ n ∧ i = .int .i64 k ∧ Hid (orL (l.take k) = 0)) (fun i => n - (intOf i).toNat)
  case atStart => exact ⟨0, Nat.zero_le _, rfl, Lib.hid rfl⟩
  case round =>
    obtain ⟨k, hk, rfl, HA⟩ := hrel
    rcases Nat.lt_or_ge k n with h | h
    · have hkl : k < l.length := by rw [HL.out]; exact h
      have e1 := hc.out k hkl
      have e0 : w.cell? ⟨b, 0 + k, none⟩ = some (.int .i64 l[k]) := by rw [Nat.zero_add]; exact e1
      have c1 : (0 : Int) ≤ (k : Int) := by omega
      have c2 : (k : Int) < (n : Int) := by omega
      have hgx : l[k]? = some l[k] := List.getElem?_eq_getElem hkl
      obtain ⟨x, hx⟩ : ∃ x, l[k] = x := ⟨_, rfl⟩
      rw [hx] at e1 e0 hgx
      by_cases hz : x = 0
      · have H : Hid (orL (l.take (k + 1)) = 0) := Lib.hid (by rw [Ex.take_one hgx, orL_app, HA.out, orE_yes, hz]; rfl)
        subst hz
        clear hgx hx hkl
        go_wp2_with fail
        go_round
        case rel => exact ⟨k + 1, by omega, by go_num, H⟩
        case measure => simp [intOf]; omega
      · have hz2 : (x != 0) = true := by rw [bne_iff_ne]; exact hz
        have H : Hid (orL l = x) := Lib.hid (by
          have h2 := orL_app (l.take (k + 1)) (l.drop (k + 1))
          rw [List.take_append_drop, Ex.take_one hgx, orL_app, HA.out, orE_yes] at h2
          rw [h2]
          show orE (orE x 0) _ = x
          rw [orE_right, orE_no hz])
        clear hgx hx hkl hz
        go_wp2_with fail
        go_ret
        exact ⟨ret_int H.out.symm, rfl⟩
    · obtain rfl : n = k := by omega
      have H : Hid (orL l = 0) := Lib.hid (by have h1 := HA.out; rwa [List.take_of_length_le (by rw [HL.out]; exact Nat.le_refl _)] at h1)
      go_wp2_with fail
      go_ret
      exact ⟨ret_int H.out.symm, rfl⟩
theorem xcheck_gives {e : Ex} {v : Int} (h : chkE false e = v) (p : Option Addr) (m c : Nat) (w : World) (hi : In w e p m) (hs : Sz e) (hc : Ex.cnt e ≤ 1000000) : Calls Tryz.prog 34 #[.agg #[.int .i64 e.o, .string e.s, .int .i64 e.n, .slice p m c]] w (Gives (.int .i64 v) w) := by rw [← h]; exact Ex.check_any e p m c w hi hs hc
set_option maxRecDepth 100000 in
theorem args_check (l : List Ex) (p : Option Addr) (m c : Nat) (w : World) (h : In w (.mk 0 nE 0 l) p m) (hs : ∀ y ∈ l, Sz y ∧ Ex.cnt y ≤ 1000000) : Calls Tryz.prog 36 #[.slice p m c] w (Gives (.int .i64 (argE l)) w) := by
  have HH := Lib.hid h
  have HS := Lib.hid hs
  obtain ⟨hl, hm⟩ := h.len
  have HL := Lib.hid hl
  clear h hs hl
  by_cases h6 : 6 < m
  · rw [show argE l = 6 by unfold argE; rw [HL.out, if_pos h6]]
    have t1 : decide ((6 : Int) < (m : Int)) = true := decide_eq_true (by omega)
    have t2 : (6 : Int) < (m : Int) := by omega
    go_enter Tryz.func36, Tryz.ntmps36
    go_wp2_with fail
    go_ret
    exact ⟨rfl, by (repeat (first | (with_reducible exact Below.refl _ _) | (with_reducible assumption) | (with_reducible apply bl_alloc) | (with_reducible apply bl_drewN) | (with_reducible apply bl_drew) | (with_reducible refine bl_set ?_ (by first | (simp; done) | (simp; omega)) _) | (with_reducible refine bl_call ?_ (by assumption))))⟩
  rw [show argE l = badA l by unfold argE; rw [HL.out, if_neg h6]]
  have t1 : decide ((6 : Int) < (m : Int)) = false := decide_eq_false (by omega)
  have t2 : (m : Int) ≤ 6 := by omega
  go_enter Tryz.func36, Tryz.ntmps36
  go_wp2_with fail
  go_loopw [11] (fun i wr => ∃ k : Nat, k ≤ m ∧ Hid (badA (l.take k) = 0) ∧ i = .int .i64 (k : Nat) ∧ Hid (Below w.heap.size w wr)) (fun i _ => m - (intOf i).toNat)
  case atStart => exact ⟨0, Nat.zero_le _, Lib.hid rfl, rfl, Lib.hid (by (repeat (first | (with_reducible exact Below.refl _ _) | (with_reducible assumption) | (with_reducible apply bl_alloc) | (with_reducible apply bl_drewN) | (with_reducible apply bl_drew) | (with_reducible refine bl_set ?_ (by first | (simp; done) | (simp; omega)) _) | (with_reducible refine bl_call ?_ (by assumption)))))⟩
  case round =>
    obtain ⟨k, hk, HT0, rfl, HW⟩ := hrel
    have k0 : (0 : Int) ≤ (k : Int) := by omega
    rcases Nat.lt_or_ge k m with h | h
    · have k1 : (k : Int) < (m : Int) := by omega
      obtain ⟨b, o', rfl, -, hG, hcell⟩ := HH.out.kids (by omega)
      have hkl : k < l.length := by rw [HL.out]; omega
      obtain ⟨q, j, c', hc4, hkin⟩ := hcell.out k hkl
      have hmem : l[k] ∈ l := List.getElem_mem hkl
      have hgx : l[k]? = some l[k] := List.getElem?_eq_getElem hkl
      obtain ⟨x, hx⟩ : ∃ x, l[k] = x := ⟨_, rfl⟩
      rw [hx] at hc4 hkin hmem hgx
      obtain ⟨e0, e1, e2, e3⟩ := hc4.on HW.out hG
      have hbr : b < wr.heap.size := Nat.lt_of_lt_of_le hG HW.out.size
      have HKIN := Lib.hid hkin
      obtain ⟨v, hv⟩ : ∃ v, chkE false x = v := ⟨_, rfl⟩
      have HC := Lib.hid (fun W hi => xcheck_gives hv q j c' W hi (HS.out x hmem).1 (HS.out x hmem).2)
      have HTK := Lib.hid (badA_take hgx)
      have HST := Lib.hid (fun (h1 : ¬ chkE false x = 0) => badA_stop hgx HT0.out h1)
      have HV := Lib.hid hv
      clear hcell hc4 hkin hx hmem hgx hkl hv
      go_wp2_with fail
      refine (HC.out _ (HKIN.out.on (by have HBB := HW.out; (repeat (first | (with_reducible exact Below.refl _ _) | (with_reducible assumption) | (with_reducible apply bl_alloc) | (with_reducible apply bl_drewN) | (with_reducible apply bl_drew) | (with_reducible refine bl_set ?_ (by first | (simp; done) | (simp; omega)) _) | (with_reducible refine bl_call ?_ (by assumption))))))).mono ?_
      rintro e w2 ⟨rfl, hb2⟩
      have HW2 : Hid (Below w.heap.size w w2) := Lib.hid (by have HBB := HW.out; (repeat (first | (with_reducible exact Below.refl _ _) | (with_reducible assumption) | (with_reducible apply bl_alloc) | (with_reducible apply bl_drewN) | (with_reducible apply bl_drew) | (with_reducible refine bl_set ?_ (by first | (simp; done) | (simp; omega)) _) | (with_reducible refine bl_call ?_ (by assumption)))))
      clear hb2 HC
      by_cases hz : v = 0
      · have HR : Hid (badA (l.take (k + 1)) = 0) := Lib.hid (by rw [HTK.out, HT0.out, orE_yes, HV.out, hz])
        subst hz
        go_wp2_with fail
        go_roundw
        case rel => exact ⟨k + 1, by omega, HR, by go_num, HW2⟩
        case measure => simp [intOf]; omega
      · have HR : Hid (badA l = v) := Lib.hid (by rw [HST.out (by rw [HV.out]; exact hz), HV.out])
        have z1 : (v != 0) = true := bne_iff_ne.2 hz
        clear hz
        go_wp2_with fail
        go_ret
        exact ⟨by rw [HR.out]; rfl, HW2.out⟩
    · obtain rfl : m = k := by omega
      have HR : Hid (badA l = 0) := Lib.hid (by have h1 := HT0.out; rwa [List.take_of_length_le (by rw [HL.out]; exact Nat.le_refl _)] at h1)
      go_wp2_with fail
      go_ret
      exact ⟨by rw [HR.out]; rfl, HW.out⟩
end Go.Proofs.YtonlmnlpofgccaaGreat.Sm
