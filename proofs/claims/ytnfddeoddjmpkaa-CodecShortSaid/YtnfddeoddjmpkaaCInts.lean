/-
  The contracts of Ints, of the library and of the reference, and of SameInts.
-/
import Derived.Test.YtnfddeoddjmpkaaCRead
import Derived.Test.YtnfddeoddjmpkaaCPut
namespace Go.Proofs.Ytnfddeoddjmpkaa.Co
open Go.RowKit
set_option maxHeartbeats 2000000
theorem iv_snoc {l : List Int} {z : Int} : iv l ++ [.int .i64 z] = iv (l ++ [z]) := by unfold iv; simp
theorem run_app_int {B : Nat} {w : World} {v : Value} {n : Nat} {l : List Int} (hown : w.ownsRow B 3 1 v n (iv l)) (hB : B ≤ w.heap.size) (hn : n < 1000000000000) (z : Int) :
    ∃ v' w', (Builtin.append_ #[23, 23] 23 #[v, .slice (some ⟨w.heap.size, 0, none⟩) 1 1]).run Try.prog (w.alloc (.cells #[.int .i64 z] 3)) = .ok v' w' ∧ w'.ownsRow B 3 1 v' (n + 1) (iv (l ++ [z])) ∧ Below B w w' := by
  obtain ⟨i0, hi0, hz0, hz1, hz2⟩ := parts_of int_info
  have hlt := hown.lt
  obtain ⟨v', w', hrun, h2, h3, -, -⟩ := run_append_own_at (P := Try.prog) (w.alloc (.cells #[.int .i64 z] 3)) B 23 23 3 i0 _ 1 8 Try.underlying23 hi0 hz0 hz1 hz2 rfl (by omega) v n (iv l) (hown.alloc _) ⟨w.heap.size, 0, none⟩ 1 1 [.int .i64 z] rfl one_new
    (by intro u hu; simp at hu; subst hu; rfl) (by unfold maxLen; omega) (by omega) (by simp; omega)
  exact ⟨v', w', hrun, by rw [← iv_snoc]; exact h2, ((Below.refl _ _).alloc hB _).grown h3 (by simp; omega) fun k hk => (hlt k hk).1⟩
/-- What Ints gives back. -/
def ListOut (T : IntsR) (w : World) (e : Ending) (w' : World) : Prop := ∃ v, e = .returned (.tuple #[v, .int .i64 (T.k : Nat), .int .i64 (T.e : Nat)]) ∧ w'.ownsRow w.heap.size 3 1 v T.l.length (iv T.l) ∧ Below w.heap.size w w'
theorem ListOut.bad {T : IntsR} {w w' : World} {e : Ending} {x : Nat} (hT : T = ⟨[], 0, x⟩) (he : e = .returned (.tuple #[.slice none 0 0, .int .i64 0, .int .i64 (x : Nat)])) (hb : Below w.heap.size w w') : ListOut T w e w' := by
  subst hT
  exact ⟨_, he, World.ownsRow_nil _ _ _ _, hb⟩
theorem ListOut.good {T : IntsR} {w w' : World} {e : Ending} {v : Value} {l : List Int} {n k : Nat} (hT : T = ⟨l, k, 0⟩) (he : e = .returned (.tuple #[v, .int .i64 (k : Nat), .int .i64 0])) (ho : w'.ownsRow w.heap.size 3 1 v n (iv l)) (hn : l.length = n) (hb : Below w.heap.size w w') : ListOut T w e w' := by
  subst hT
  subst hn
  exact ⟨_, he, ho, hb⟩
theorem ints_cons {m i p : Nat} {l : List UInt8} {got : List Int} {T : IntsR} (h : i < m) (h2 : decE (m - i) l p got = T) : decE (m - (i + 1) + 1) l p got = T := by
  rw [show m - (i + 1) + 1 = m - i by omega]; exact h2
theorem same_any (p : Option Addr) (n c : Nat) (l : List Int) (q : Option Addr) (m d : Nat) (r : List Int) (w : World) (hl : Ints w p n l) (hr : Ints w q m r) : Calls Try.prog 24 #[.slice p n c, .slice q m d] w (Gives (.bool (decide (l = r))) w) := by
  by_cases hnm : n = m
  · subst hnm
    have h63 : (n : Int) ≤ 9223372036854775807 := by have := hl.2.1; omega
    have HL := Lib.hid hl
    have HR := Lib.hid hr
    have t0 : ((n : Int) != (n : Int)) = false := by simp
    clear hl hr
    go_enter Try.func24, Try.ntmps24
    go_wp2_with fail
    go_loopw [5] (fun i wr => ∃ k : Nat, k ≤ n ∧ i = .int .i64 k ∧ Hid (l.take k = r.take k) ∧ Hid (Below w.heap.size w wr)) (fun i _ => n - (intOf i).toNat)
    case atStart => exact ⟨0, Nat.zero_le _, rfl, Lib.hid rfl, Lib.hid (Below.refl _ _)⟩
    case round =>
      obtain ⟨k, hk, rfl, HE, HB⟩ := hrel
      have c1 : (0 : Int) ≤ (k : Int) := by omega
      rcases Nat.lt_or_ge k n with h | h
      · have c2 : (k : Int) < (n : Int) := by omega
        have hll := HL.out.1
        have hrl := HR.out.1
        obtain ⟨-, -, h0 | ⟨b, o, rfl, hb, hc⟩⟩ := HL.out
        · omega
        obtain ⟨-, -, h0 | ⟨b2, o2, rfl, hb2, hc2⟩⟩ := HR.out
        · omega
        have e1 := (HB.out.cell (p := ⟨b, o + k, none⟩) hb).trans (hc.out k (by omega))
        have e2 := (HB.out.cell (p := ⟨b2, o2 + k, none⟩) hb2).trans (hc2.out k (by omega))
        have t1 := List.take_succ_eq_append_getElem (l := l) (i := k) (by omega)
        have t2 := List.take_succ_eq_append_getElem (l := r) (i := k) (by omega)
        by_cases hx : l[k] = r[k]
        · have HE2 : Hid (l.take (k + 1) = r.take (k + 1)) := Lib.hid (by rw [t1, t2, HE.out, hx])
          rw [hx] at e1
          obtain ⟨z, ez⟩ : ∃ z, r[k] = z := ⟨_, rfl⟩
          rw [ez] at e1 e2
          have t3 : (z != z) = false := by simp
          have HB3 := Lib.hid HB.out
          clear t1 t2 hx ez hc hc2 hll hrl
          go_wp2_with fail
          go_quiet (fail)
          all_goals
            go_wp2_with fail
            go_roundw
            case rel => exact ⟨k + 1, by omega, by go_num, HE2, Lib.hid (by have HBB := HB3.out; (repeat (first | (with_reducible exact Below.refl _ _) | (with_reducible assumption) | (with_reducible apply bl_alloc) | (with_reducible apply bl_drewN) | (with_reducible apply bl_drew) | (with_reducible refine bl_set ?_ (by first | (simp; done) | (simp; omega)) _) | (with_reducible refine bl_call ?_ (by assumption)))))⟩
            case measure => simp [intOf]; omega
        · have HN : Hid (decide (l = r) = false) := Lib.hid (decide_eq_false (fun e => hx (by subst e; rfl)))
          have t3 : (l[k] != r[k]) = true := bne_iff_ne.2 hx
          obtain ⟨y, ey⟩ : ∃ z, l[k] = z := ⟨_, rfl⟩
          obtain ⟨z, ez⟩ : ∃ z, r[k] = z := ⟨_, rfl⟩
          rw [ey] at e1 t3
          rw [ez] at e2 t3
          have HB3 := Lib.hid HB.out
          clear t1 t2 hx ez ey hc hc2 hll hrl
          go_wp2_with fail
          go_quiet (fail)
          all_goals
            go_wp2_with fail
            go_ret
            exact ⟨ret_bool HN.out.symm, by have HBB := HB3.out; (repeat (first | (with_reducible exact Below.refl _ _) | (with_reducible assumption) | (with_reducible apply bl_alloc) | (with_reducible apply bl_drewN) | (with_reducible apply bl_drew) | (with_reducible refine bl_set ?_ (by first | (simp; done) | (simp; omega)) _) | (with_reducible refine bl_call ?_ (by assumption))))⟩
      · obtain rfl : n = k := by omega
        have HN : Hid (decide (l = r) = true) := Lib.hid (decide_eq_true (by
          have e := HE.out
          rw [List.take_of_length_le (by rw [HL.out.1]; exact Nat.le_refl _), List.take_of_length_le (by rw [HR.out.1]; exact Nat.le_refl _)] at e
          exact e))
        go_wp2_with fail
        go_ret
        exact ⟨ret_bool HN.out.symm, HB.out⟩
  · have HN : Hid (decide (l = r) = false) := Lib.hid (decide_eq_false (fun e => hnm (by rw [← hl.1, ← hr.1, e])))
    have t0 : ((n : Int) != (m : Int)) = true := bne_iff_ne.2 (by omega)
    have t1 : (n != m) = true := bne_iff_ne.2 hnm
    clear hl hr hnm
    go_enter Try.func24, Try.ntmps24
    go_wp2_with fail
    go_ret
    exact ⟨ret_bool HN.out.symm, Below.refl _ _⟩
set_option maxRecDepth 100000 in
theorem ints_any (p : Option Addr) (n c : Nat) (l : List UInt8) (most : Int) (w : World) (hb : Byt w p n l) (hc : n ≤ c) (hsm : Hid (n < 1000000)) : Calls Try.prog 22 #[.slice p n c, .int .i64 most] w (ListOut (decI l most) w) := by
  rcases decL_cases l most with hx | hx | hx | ⟨m, k, hx, hm, hk1, hk2, hk3⟩
  · have I : Calls Try.prog 32 #[.slice p n c, .int .i64 most] w (Gives (.tuple #[.int .i64 0, .int .i64 0, .int .i64 6]) w) := (by have := length_any p n c l most w hb; rw [hx] at this; exact this)
    have HR := Lib.hid (decI_bad hx)
    clear hx hb
    go_enter Try.func22, Try.ntmps22
    go_wp2_with fail
    refine I.mono ?_
    rintro e w1 ⟨rfl, hb1⟩
    go_wp2_with fail
    go_ret3
    exact ListOut.bad HR.out rfl (by (repeat (first | (with_reducible exact Below.refl _ _) | (with_reducible assumption) | (with_reducible apply bl_alloc) | (with_reducible apply bl_drewN) | (with_reducible apply bl_drew) | (with_reducible refine bl_set ?_ (by first | (simp; done) | (simp; omega)) _) | (with_reducible refine bl_call ?_ (by assumption)))))
  · have I : Calls Try.prog 32 #[.slice p n c, .int .i64 most] w (Gives (.tuple #[.int .i64 0, .int .i64 0, .int .i64 7]) w) := (by have := length_any p n c l most w hb; rw [hx] at this; exact this)
    have HR := Lib.hid (decI_bad hx)
    clear hx hb
    go_enter Try.func22, Try.ntmps22
    go_wp2_with fail
    refine I.mono ?_
    rintro e w1 ⟨rfl, hb1⟩
    go_wp2_with fail
    go_ret3
    exact ListOut.bad HR.out rfl (by (repeat (first | (with_reducible exact Below.refl _ _) | (with_reducible assumption) | (with_reducible apply bl_alloc) | (with_reducible apply bl_drewN) | (with_reducible apply bl_drew) | (with_reducible refine bl_set ?_ (by first | (simp; done) | (simp; omega)) _) | (with_reducible refine bl_call ?_ (by assumption)))))
  · have I : Calls Try.prog 32 #[.slice p n c, .int .i64 most] w (Gives (.tuple #[.int .i64 0, .int .i64 0, .int .i64 8]) w) := (by have := length_any p n c l most w hb; rw [hx] at this; exact this)
    have HR := Lib.hid (decI_bad hx)
    clear hx hb
    go_enter Try.func22, Try.ntmps22
    go_wp2_with fail
    refine I.mono ?_
    rintro e w1 ⟨rfl, hb1⟩
    go_wp2_with fail
    go_ret3
    exact ListOut.bad HR.out rfl (by (repeat (first | (with_reducible exact Below.refl _ _) | (with_reducible assumption) | (with_reducible apply bl_alloc) | (with_reducible apply bl_drewN) | (with_reducible apply bl_drew) | (with_reducible refine bl_set ?_ (by first | (simp; done) | (simp; omega)) _) | (with_reducible refine bl_call ?_ (by assumption)))))
  · have I : Calls Try.prog 32 #[.slice p n c, .int .i64 most] w (Gives (.tuple #[.int .i64 (m : Nat), .int .i64 (k : Nat), .int .i64 0]) w) := (by have := length_any p n c l most w hb; rw [hx] at this; exact this)
    have hl := hb.1
    obtain ⟨b, o, rfl⟩ : ∃ b o, p = some ⟨b, o, none⟩ := by
      rcases hb.2.2 with h | ⟨b, o, h, -⟩
      · omega
      · exact ⟨b, o, h⟩
    have s2 : (m : Int) ≤ 9223372036854775807 := by omega
    have HT := Lib.hid (decI_good hx)
    have HB := Lib.hid hb
    have hkn : k ≤ n := by omega
    clear hx hb hm hk1 hk2 hk3 hl
    go_enter Try.func22, Try.ntmps22
    go_wp2_with fail
    refine I.mono ?_
    rintro e w1 ⟨rfl, hb1⟩
    have HB1 := Lib.hid hb1
    have HO1 := Lib.hid (World.ownsRow_nil w1 w.heap.size 3 1)
    clear hb1
    go_wp2_with fail
    go_loopw [8, 10, 25] (fun a1 a2 a3 wr => ∃ (i pos gn : Nat) (got : List Int), i ≤ m ∧ a1 = .int .i64 (pos : Nat) ∧ a3 = .int .i64 (i : Nat) ∧ pos ≤ n ∧ gn ≤ pos ∧ Hid (wr.ownsRow w.heap.size 3 1 a2 gn (iv got)) ∧ Hid (decE (m - i) l pos got = decI l most) ∧ Hid (Below w.heap.size w wr)) (fun _ _ a3 _ => m - (intOf a3).toNat)
    case atStart => exact ⟨0, k, 0, [], Nat.zero_le _, rfl, rfl, hkn, Nat.zero_le _, HO1, Lib.hid HT.out.symm, HB1⟩
    case round =>
      obtain ⟨i, pos, gn, got, hi, rfl, rfl, hpos, hgn, HO, HD, HB2⟩ := hrel
      have c1 : (0 : Int) ≤ (i : Int) := by omega
      have c0 : (0 : Int) ≤ (pos : Int) := by omega
      have c3 : (pos : Int) ≤ (n : Int) := by omega
      rcases Nat.lt_or_ge i m with h | h
      · have c2 : (i : Int) < (m : Int) := by omega
        have HD2 := Lib.hid (ints_cons h HD.out)
        have q1 := slice_l b o n c pos hpos wr
        have HCB := Byt.cut (HB.out.on (HB2.out.mono (Nat.le_refl _))) (k := pos) hpos hc
        obtain ⟨A, hA⟩ : ∃ A, cut b o c pos = A := ⟨_, rfl⟩
        obtain ⟨c2', hc2⟩ : ∃ c2, c - pos = c2 := ⟨_, rfl⟩
        obtain ⟨n2, hn2⟩ : ∃ n2, n - pos = n2 := ⟨_, rfl⟩
        rw [hA, hc2, hn2] at q1
        rw [hA, hn2] at HCB
        have hll := HB.out.1
        rcases dec_cases (l.drop pos) with hx | hx | ⟨v, k2, hx⟩
        · have J : Calls Try.prog 18 #[.slice (some A) n2 c2'] wr (Gives (.tuple #[.int .i64 0, .int .i64 0, .int .i64 7]) wr) := int_any (some A) n2 c2' (l.drop pos) (.bad 7) wr HCB (Lib.hid hx)
          have HR : Hid (decI l most = ⟨[], 0, 7⟩) := Lib.hid (by rw [← HD2.out]; exact decE_bad hx)
          clear hx hA hc2 hn2 hll HCB hi hpos hgn
          go_wp2_with fail
          refine J.mono ?_
          rintro e w2 ⟨rfl, hb2⟩
          have HB3 := Lib.hid (HB2.out.trans (hb2.mono HB2.out.size))
          clear hb2
          go_wp2_with fail
          go_ret3
          exact ListOut.bad HR.out rfl HB3.out
        · have J : Calls Try.prog 18 #[.slice (some A) n2 c2'] wr (Gives (.tuple #[.int .i64 0, .int .i64 0, .int .i64 8]) wr) := int_any (some A) n2 c2' (l.drop pos) (.bad 8) wr HCB (Lib.hid hx)
          have HR : Hid (decI l most = ⟨[], 0, 8⟩) := Lib.hid (by rw [← HD2.out]; exact decE_bad hx)
          clear hx hA hc2 hn2 hll HCB hi hpos hgn
          go_wp2_with fail
          refine J.mono ?_
          rintro e w2 ⟨rfl, hb2⟩
          have HB3 := Lib.hid (HB2.out.trans (hb2.mono HB2.out.size))
          clear hb2
          go_wp2_with fail
          go_ret3
          exact ListOut.bad HR.out rfl HB3.out
        · obtain ⟨z, hz⟩ : ∃ z, intZ v = z := ⟨_, rfl⟩
          have J : Calls Try.prog 18 #[.slice (some A) n2 c2'] wr (Gives (.tuple #[.int .i64 z, .int .i64 (k2 : Nat), .int .i64 0]) wr) := by rw [← hz]; exact int_any (some A) n2 c2' (l.drop pos) (.good v k2) wr HCB (Lib.hid hx)
          have HR : Hid (decE (m - (i + 1)) l (pos + k2) (got ++ [z]) = decI l most) := Lib.hid (by rw [← HD2.out, ← hz]; exact (decE_good hx).symm)
          obtain ⟨g1, g2, -, -, -⟩ := dec_good0 hx
          rw [List.length_drop, hll] at g2
          have hp2 : pos + k2 ≤ n := by omega
          have hg2 : gn + 1 ≤ pos + k2 := by omega
          have c4 : (pos : Int) + (k2 : Int) ≤ 9223372036854775807 := by have := HB.out.2.1; omega
          clear hx hz hA hc2 hn2 hll HCB g1 g2
          go_wp2_with fail
          refine J.mono ?_
          rintro e w2 ⟨rfl, hb2⟩
          have HB3 := Lib.hid (HB2.out.trans (hb2.mono HB2.out.size))
          obtain ⟨v', w', hrun, ho, hb⟩ := run_app_int (own_on HO.out hb2) HB3.out.size (by have := hsm.out; omega) z
          have HO2 := Lib.hid ho
          have HB4 := Lib.hid (HB3.out.trans hb)
          clear hb2 ho hb
          go_wp2_with (at_builtin; refine Lib.wpList_append_run _ rfl _ _ _ _ rfl _ _ rfl rfl _ _ hrun ?_)
          go_roundw
          case rel => exact ⟨i + 1, pos + k2, gn + 1, got ++ [z], by omega, by go_num, by go_num, hp2, hg2, HO2, HR, HB4⟩
          case measure => simp [intOf]; omega
      · obtain rfl : m = i := by omega
        have HR : Hid (decI l most = ⟨got, pos, 0⟩) := Lib.hid (by rw [← HD.out, Nat.sub_self]; rfl)
        have HG : Hid (got.length = gn) := Lib.hid (by have := own_len HO.out; rwa [iv_len] at this)
        have HO2 := Lib.hid HO.out
        have HB3 := Lib.hid HB2.out
        clear hi hpos hgn
        go_wp2_with fail
        go_ret3
        exact ListOut.good HR.out rfl HO2.out HG.out HB3.out
set_option maxRecDepth 100000 in
theorem rints_any (p : Option Addr) (n c : Nat) (l : List UInt8) (most : Int) (w : World) (hb : Byt w p n l) (hc : n ≤ c) (hsm : Hid (n < 1000000)) : Calls Try.prog 23 #[.slice p n c, .int .i64 most] w (ListOut (decI l most) w) := by
  rcases decL_cases l most with hx | hx | hx | ⟨m, k, hx, hm, hk1, hk2, hk3⟩
  · have I : Calls Try.prog 33 #[.slice p n c, .int .i64 most] w (Gives (.tuple #[.int .i64 0, .int .i64 0, .int .i64 6]) w) := (by have := many_any p n c l most w hb; rw [hx] at this; exact this)
    have HR := Lib.hid (decI_bad hx)
    clear hx hb
    go_enter Try.func23, Try.ntmps23
    go_wp2_with fail
    refine I.mono ?_
    rintro e w1 ⟨rfl, hb1⟩
    go_wp2_with fail
    go_ret3
    exact ListOut.bad HR.out rfl (by (repeat (first | (with_reducible exact Below.refl _ _) | (with_reducible assumption) | (with_reducible apply bl_alloc) | (with_reducible apply bl_drewN) | (with_reducible apply bl_drew) | (with_reducible refine bl_set ?_ (by first | (simp; done) | (simp; omega)) _) | (with_reducible refine bl_call ?_ (by assumption)))))
  · have I : Calls Try.prog 33 #[.slice p n c, .int .i64 most] w (Gives (.tuple #[.int .i64 0, .int .i64 0, .int .i64 7]) w) := (by have := many_any p n c l most w hb; rw [hx] at this; exact this)
    have HR := Lib.hid (decI_bad hx)
    clear hx hb
    go_enter Try.func23, Try.ntmps23
    go_wp2_with fail
    refine I.mono ?_
    rintro e w1 ⟨rfl, hb1⟩
    go_wp2_with fail
    go_ret3
    exact ListOut.bad HR.out rfl (by (repeat (first | (with_reducible exact Below.refl _ _) | (with_reducible assumption) | (with_reducible apply bl_alloc) | (with_reducible apply bl_drewN) | (with_reducible apply bl_drew) | (with_reducible refine bl_set ?_ (by first | (simp; done) | (simp; omega)) _) | (with_reducible refine bl_call ?_ (by assumption)))))
  · have I : Calls Try.prog 33 #[.slice p n c, .int .i64 most] w (Gives (.tuple #[.int .i64 0, .int .i64 0, .int .i64 8]) w) := (by have := many_any p n c l most w hb; rw [hx] at this; exact this)
    have HR := Lib.hid (decI_bad hx)
    clear hx hb
    go_enter Try.func23, Try.ntmps23
    go_wp2_with fail
    refine I.mono ?_
    rintro e w1 ⟨rfl, hb1⟩
    go_wp2_with fail
    go_ret3
    exact ListOut.bad HR.out rfl (by (repeat (first | (with_reducible exact Below.refl _ _) | (with_reducible assumption) | (with_reducible apply bl_alloc) | (with_reducible apply bl_drewN) | (with_reducible apply bl_drew) | (with_reducible refine bl_set ?_ (by first | (simp; done) | (simp; omega)) _) | (with_reducible refine bl_call ?_ (by assumption)))))
  · have I : Calls Try.prog 33 #[.slice p n c, .int .i64 most] w (Gives (.tuple #[.int .i64 (m : Nat), .int .i64 (k : Nat), .int .i64 0]) w) := (by have := many_any p n c l most w hb; rw [hx] at this; exact this)
    have hl := hb.1
    obtain ⟨b, o, rfl⟩ : ∃ b o, p = some ⟨b, o, none⟩ := by
      rcases hb.2.2 with h | ⟨b, o, h, -⟩
      · omega
      · exact ⟨b, o, h⟩
    have s2 : (m : Int) ≤ 9223372036854775807 := by omega
    have HT := Lib.hid (decI_good hx)
    have HB := Lib.hid hb
    have hkn : k ≤ n := by omega
    clear hx hb hm hk1 hk2 hk3 hl
    go_enter Try.func23, Try.ntmps23
    go_wp2_with fail
    refine I.mono ?_
    rintro e w1 ⟨rfl, hb1⟩
    have HB1 := Lib.hid hb1
    have HO1 := Lib.hid (World.ownsRow_nil w1 w.heap.size 3 1)
    clear hb1
    go_wp2_with fail
    go_loopw [8, 10, 11] (fun a1 a2 a3 wr => ∃ (i pos gn : Nat) (got : List Int), i ≤ m ∧ a1 = .int .i64 (pos : Nat) ∧ a3 = .int .i64 (i : Nat) ∧ pos ≤ n ∧ gn ≤ pos ∧ Hid (wr.ownsRow w.heap.size 3 1 a2 gn (iv got)) ∧ Hid (decE (m - i) l pos got = decI l most) ∧ Hid (Below w.heap.size w wr)) (fun _ _ a3 _ => m - (intOf a3).toNat)
    case atStart => exact ⟨0, k, 0, [], Nat.zero_le _, rfl, rfl, hkn, Nat.zero_le _, HO1, Lib.hid HT.out.symm, HB1⟩
    case round =>
      obtain ⟨i, pos, gn, got, hi, rfl, rfl, hpos, hgn, HO, HD, HB2⟩ := hrel
      have c1 : (0 : Int) ≤ (i : Int) := by omega
      have c0 : (0 : Int) ≤ (pos : Int) := by omega
      have c3 : (pos : Int) ≤ (n : Int) := by omega
      rcases Nat.lt_or_ge i m with h | h
      · have c2 : (i : Int) < (m : Int) := by omega
        have HD2 := Lib.hid (ints_cons h HD.out)
        have q1 := slice_l b o n c pos hpos wr
        have HCB := Byt.cut (HB.out.on (HB2.out.mono (Nat.le_refl _))) (k := pos) hpos hc
        obtain ⟨A, hA⟩ : ∃ A, cut b o c pos = A := ⟨_, rfl⟩
        obtain ⟨c2', hc2⟩ : ∃ c2, c - pos = c2 := ⟨_, rfl⟩
        obtain ⟨n2, hn2⟩ : ∃ n2, n - pos = n2 := ⟨_, rfl⟩
        rw [hA, hc2, hn2] at q1
        rw [hA, hn2] at HCB
        have hll := HB.out.1
        rcases dec_cases (l.drop pos) with hx | hx | ⟨v, k2, hx⟩
        · have J : Calls Try.prog 19 #[.slice (some A) n2 c2'] wr (Gives (.tuple #[.int .i64 0, .int .i64 0, .int .i64 7]) wr) := rint_any (some A) n2 c2' (l.drop pos) (.bad 7) wr HCB (Lib.hid hx)
          have HR : Hid (decI l most = ⟨[], 0, 7⟩) := Lib.hid (by rw [← HD2.out]; exact decE_bad hx)
          clear hx hA hc2 hn2 hll HCB hi hpos hgn
          go_wp2_with fail
          refine J.mono ?_
          rintro e w2 ⟨rfl, hb2⟩
          have HB3 := Lib.hid (HB2.out.trans (hb2.mono HB2.out.size))
          clear hb2
          go_wp2_with fail
          go_ret3
          exact ListOut.bad HR.out rfl HB3.out
        · have J : Calls Try.prog 19 #[.slice (some A) n2 c2'] wr (Gives (.tuple #[.int .i64 0, .int .i64 0, .int .i64 8]) wr) := rint_any (some A) n2 c2' (l.drop pos) (.bad 8) wr HCB (Lib.hid hx)
          have HR : Hid (decI l most = ⟨[], 0, 8⟩) := Lib.hid (by rw [← HD2.out]; exact decE_bad hx)
          clear hx hA hc2 hn2 hll HCB hi hpos hgn
          go_wp2_with fail
          refine J.mono ?_
          rintro e w2 ⟨rfl, hb2⟩
          have HB3 := Lib.hid (HB2.out.trans (hb2.mono HB2.out.size))
          clear hb2
          go_wp2_with fail
          go_ret3
          exact ListOut.bad HR.out rfl HB3.out
        · obtain ⟨z, hz⟩ : ∃ z, intZ v = z := ⟨_, rfl⟩
          have J : Calls Try.prog 19 #[.slice (some A) n2 c2'] wr (Gives (.tuple #[.int .i64 z, .int .i64 (k2 : Nat), .int .i64 0]) wr) := by rw [← hz]; exact rint_any (some A) n2 c2' (l.drop pos) (.good v k2) wr HCB (Lib.hid hx)
          have HR : Hid (decE (m - (i + 1)) l (pos + k2) (got ++ [z]) = decI l most) := Lib.hid (by rw [← HD2.out, ← hz]; exact (decE_good hx).symm)
          obtain ⟨g1, g2, -, -, -⟩ := dec_good0 hx
          rw [List.length_drop, hll] at g2
          have hp2 : pos + k2 ≤ n := by omega
          have hg2 : gn + 1 ≤ pos + k2 := by omega
          have c4 : (pos : Int) + (k2 : Int) ≤ 9223372036854775807 := by have := HB.out.2.1; omega
          clear hx hz hA hc2 hn2 hll HCB g1 g2
          go_wp2_with fail
          refine J.mono ?_
          rintro e w2 ⟨rfl, hb2⟩
          have HB3 := Lib.hid (HB2.out.trans (hb2.mono HB2.out.size))
          obtain ⟨v', w', hrun, ho, hb⟩ := run_app_int (own_on HO.out hb2) HB3.out.size (by have := hsm.out; omega) z
          have HO2 := Lib.hid ho
          have HB4 := Lib.hid (HB3.out.trans hb)
          clear hb2 ho hb
          go_wp2_with (at_builtin; refine Lib.wpList_append_run _ rfl _ _ _ _ rfl _ _ rfl rfl _ _ hrun ?_)
          go_roundw
          case rel => exact ⟨i + 1, pos + k2, gn + 1, got ++ [z], by omega, by go_num, by go_num, hp2, hg2, HO2, HR, HB4⟩
          case measure => simp [intOf]; omega
      · obtain rfl : m = i := by omega
        have HR : Hid (decI l most = ⟨got, pos, 0⟩) := Lib.hid (by rw [← HD.out, Nat.sub_self]; rfl)
        have HG : Hid (got.length = gn) := Lib.hid (by have := own_len HO.out; rwa [iv_len] at this)
        have HO2 := Lib.hid HO.out
        have HB3 := Lib.hid HB2.out
        clear hi hpos hgn
        go_wp2_with fail
        go_ret3
        exact ListOut.good HR.out rfl HO2.out HG.out HB3.out
end Go.Proofs.Ytnfddeoddjmpkaa.Co
