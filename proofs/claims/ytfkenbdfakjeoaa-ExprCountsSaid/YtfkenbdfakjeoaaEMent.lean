/-
  The contracts of the reference's mentioned and Names.
-/
import Derived.Test.YtfkenbdfakjeoaaEIns
namespace Go.Proofs.Ytfkenbdfakjeoaa.Ex
open Go.RowKit
open Go.Proofs.Ytfkenbdfakjeoaa.Na (bs bs_inj chk)
set_option maxHeartbeats 2000000
set_option linter.unusedVariables false
set_option linter.unusedSimpArgs false
theorem tells_len : ∀ l : List Ex, (tells l).length ≤ l.length
  | [] => Nat.le_refl _
  | x :: t => by
    have := tells_len t
    simp only [tells]
    split <;> simp only [List.length_cons] <;> omega
theorem tells_yes {o n : Int} {s : ByteArray} {l : List Ex} (h : named false o = true) : tells (pre (.mk o s n l)) = bs s :: tells (preL l) := by
  rw [pre_one, tells, if_pos (show named false (Ex.mk o s n l).o = true from h)]; rfl
theorem tells_no {o n : Int} {s : ByteArray} {l : List Ex} (h : named false o = false) : tells (pre (.mk o s n l)) = tells (preL l) := by
  rw [pre_one, tells, if_neg (show ¬ named false (Ex.mk o s n l).o = true by show ¬ named false o = true; rw [h]; decide)]
theorem ment_step {A : List Nm} {l : List Ex} {k : Nat} {x : Ex} (hx : l[k]? = some x) : insA A (tells (preL (l.take (k + 1)))) = insA (insA A (tells (preL (l.take k)))) (tells (pre x)) := by rw [preL_take hx, tells_app, insA_app]
theorem ment_len {A : List Nm} {l : List Ex} {k : Nat} {x : Ex} (hx : l[k]? = some x) : (insA A (tells (preL (l.take k)))).length + cnt x ≤ A.length + cntL l := by
  have h1 := insA_len (tells (preL (l.take k))) A
  have h2 := tells_len (preL (l.take k))
  rw [preL_len] at h2
  have h3 := cntL_take hx
  have h4 := cntL_le l (k + 1)
  omega
theorem ins_gives (l : List Nm) (s : ByteArray) (p : Option Addr) (m c : Nat) (w : World) (h : Txs w p m l) (hm : m ≤ 1000) : Calls Try.prog 30 #[.slice p m c, .string s] w (GivesT (ins l (bs s)) w) := insert_any l s p m c w h hm
theorem nd_named {o n : Int} {s : List UInt8} {m : Nat} (h : nd false o s n m = 0) : named false o = true ↔ ¬ s = [] := by
  unfold nd at h
  split at h
  · cases h
  · rename_i hb
    split at h
    · cases h
    · constructor
      · intro hn e
        rw [if_pos hn, e] at h
        revert h
        decide
      · intro hs
        cases hn : named false o with
        | true => rfl
        | false =>
          exfalso
          apply hb
          unfold badF
          rw [hn, decide_eq_false hs]
          simp
theorem says_tells : ∀ {l : List Ex}, (∀ x ∈ l, ndE false x = 0) → says l = tells l
  | [], _ => rfl
  | x :: t, h => by
    have ih := says_tells (l := t) fun y hy => h y (List.mem_cons_of_mem _ hy)
    have hx := nd_named (h x List.mem_cons_self)
    simp only [says, tells]
    by_cases hn : named false x.o = true
    · rw [if_pos hn, if_neg (hx.1 hn), ih]
    · rw [if_neg hn, if_pos (Classical.byContradiction fun g => hn (hx.2 g)), ih]
theorem namesE_yes {e : Ex} (h : chkE false e = 0) : namesE e = insA [] (tells (pre e)) := by
  unfold namesE
  rw [if_pos h, srt_ins, says_tells (chk_ok h).2.2]
set_option maxRecDepth 100000 in
theorem ment_any (e : Ex) : ∀ (L : List Nm) (lp : Option Addr) (lm lc : Nat) (p : Option Addr) (m c : Nat) (w : World), Txs w lp lm L → In w e p m → lm + cnt e ≤ 1000 → Calls Try.prog 42 #[.slice lp lm lc, .agg #[.int .i64 e.o, .string e.s, .int .i64 e.n, .slice p m c]] w (GivesT (insA L (tells (pre e))) w) := by
  induction e using Ex.ind with
  | h o s n l ih =>
    intro L lp lm lc p m c w ht h hc
    rw [cnt_one] at hc
    have HH := Lib.hid h
    have HI := Lib.hid ih
    have HT0 := Lib.hid ht
    obtain ⟨hl, hm⟩ := h.len
    have HL := Lib.hid hl
    have HLm := Lib.hid ht.1
    simp only [Ex.o, Ex.s, Ex.n]
    have hlen := ins_len L (bs s)
    rw [ht.1] at hlen
    by_cases hn : named false o = true
    · rw [tells_yes hn, show insA L (bs s :: tells (preL l)) = insA (ins L (bs s)) (tells (preL l)) from rfl]
      have HC : Hid ((ins L (bs s)).length + cntL l ≤ 1000) := Lib.hid (by omega)
      have HIN := Lib.hid (fun W g => ins_gives L s lp lm lc W g (by omega))
      have hh : (o == 3) = true ∨ ((o == 3) = false ∧ obj o = true) := by
        unfold named at hn
        by_cases e : o = 3
        · exact .inl (beq_iff_eq.2 e)
        · exact .inr ⟨beq_eq_false_iff_ne.2 e, by simpa [e] using hn⟩
      clear ih h hl hc ht hn hlen
      rcases hh with t1 | ⟨t1, t2⟩
      · go_enter Try.func42, Try.ntmps42
        go_wp2_with fail
        refine (HIN.out _ (HT0.out.on (by (repeat (first | (with_reducible exact Below.refl _ _) | (with_reducible assumption) | (with_reducible apply bl_alloc) | (with_reducible apply bl_drewN) | (with_reducible apply bl_drew) | (with_reducible refine bl_set ?_ (by first | (simp; done) | (simp; omega)) _) | (with_reducible refine bl_call ?_ (by assumption))))))).mono ?_
        rintro e w1 ⟨p1, n1, c1, rfl, ht1, hb1⟩
        have HB1 : Hid (box4 w1 w.heap.size o s n p m c) := Lib.hid (box_new.on hb1)
        obtain ⟨x0, x1, x2, x3⟩ := HB1.out
        have HW1 : Hid (Below w.heap.size w w1) := Lib.hid (by (repeat (first | (with_reducible exact Below.refl _ _) | (with_reducible assumption) | (with_reducible apply bl_alloc) | (with_reducible apply bl_drewN) | (with_reducible apply bl_drew) | (with_reducible refine bl_set ?_ (by first | (simp; done) | (simp; omega)) _) | (with_reducible refine bl_call ?_ (by assumption)))))
        clear hb1
        go_wp2_with fail
        go_loopw [0, 5] (fun v i wr => ∃ (k : Nat) (pp : Option Addr) (cc : Nat) (Q : List Nm), k ≤ m ∧ v = .slice pp Q.length cc ∧ i = .int .i64 (k : Nat) ∧ Hid (Q = insA (ins L (bs s)) (tells (preL (l.take k)))) ∧ Hid (Txs wr pp Q.length Q) ∧ Hid (Below w.heap.size w wr) ∧ Hid (box4 wr w.heap.size o s n p m c)) (fun _ i _ => m - (intOf i).toNat)
        case atStart => exact ⟨0, _, _, (ins L (bs s)), Nat.zero_le _, by rw [← (ht1).1], rfl, Lib.hid (by rw [List.take_zero]; rfl), Lib.hid (by rw [(ht1).1]; exact ht1), HW1, HB1⟩
        case round =>
          obtain ⟨k, pp, cc, Q, hk, rfl, rfl, HQ, HT, HW, HB4⟩ := hrel
          obtain ⟨b0, b1, b2, b3⟩ := HB4.out
          have k0 : (0 : Int) ≤ (k : Int) := by omega
          rcases Nat.lt_or_ge k m with h | h
          · have k1 : (k : Int) < (m : Int) := by omega
            obtain ⟨b, o', rfl, -, hG, hcell⟩ := HH.out.kids (by omega)
            have hkl : k < l.length := by rw [HL.out]; omega
            obtain ⟨q, j, c', hc4, hkin⟩ := hcell.out k hkl
            have hmem : l[k] ∈ l := List.getElem_mem hkl
            have hgx : l[k]? = some l[k] := List.getElem?_eq_getElem hkl
            obtain ⟨x, hx⟩ : ∃ x, l[k] = x := ⟨_, rfl⟩
            rw [hx] at hc4 hkin hmem hgx
            obtain ⟨e0, e1, e2, e3⟩ := hc4.on HW.out hG
            have HKIN := Lib.hid hkin
            have HX := Lib.hid hgx
            have HM := Lib.hid hmem
            clear hcell hc4 hkin hx hmem hgx hkl
            have d1 := ment_len (A := (ins L (bs s))) HX.out
            rw [← HQ.out] at d1
            have hcl := HC.out
            have HK := Lib.hid (ment_step (A := (ins L (bs s))) HX.out)
            rw [← HQ.out] at HK
            have HI1 := HI.out x HM.out Q pp Q.length cc q j c' wr HT.out (HKIN.out.on HW.out) (by omega)
            clear d1 hcl
            go_wp2_with fail
            refine HI1.mono ?_
            rintro e w2 ⟨p3, n3, c3, rfl, ht3, hb2⟩
            have HW2 : Hid (Below w.heap.size w w2) := Lib.hid (by have HBB := HW.out; (repeat (first | (with_reducible exact Below.refl _ _) | (with_reducible assumption) | (with_reducible apply bl_alloc) | (with_reducible apply bl_drewN) | (with_reducible apply bl_drew) | (with_reducible refine bl_set ?_ (by first | (simp; done) | (simp; omega)) _) | (with_reducible refine bl_call ?_ (by assumption)))))
            have HB5 := Lib.hid (HB4.out.on hb2)
            have HT3 := Lib.hid ht3
            have hn3 := ht3.1
            subst hn3
            clear hb2 HI1 ht3
            go_wp2_with fail
            go_roundw
            case rel => exact ⟨k + 1, p3, c3, _, by omega, rfl, by go_num, Lib.hid HK.out.symm, HT3, HW2, HB5⟩
            case measure => simp [intOf]; omega
          · obtain rfl : m = k := by omega
            have HTA : Hid (l.take m = l) := Lib.hid (List.take_of_length_le (by rw [HL.out]; exact Nat.le_refl _))
            rw [HTA.out] at HQ
            go_wp2_with fail
            go_ret
            exact ⟨_, _, _, rfl, by rw [← HQ.out]; exact HT.out, HW.out⟩
      · have HO := object_gives t2
        clear t2
        go_enter Try.func42, Try.ntmps42
        go_wp2_with fail
        refine (HO _).mono ?_
        rintro e w0 ⟨rfl, rfl⟩
        go_wp2_with fail
        refine (HIN.out _ (HT0.out.on (by (repeat (first | (with_reducible exact Below.refl _ _) | (with_reducible assumption) | (with_reducible apply bl_alloc) | (with_reducible apply bl_drewN) | (with_reducible apply bl_drew) | (with_reducible refine bl_set ?_ (by first | (simp; done) | (simp; omega)) _) | (with_reducible refine bl_call ?_ (by assumption))))))).mono ?_
        rintro e w1 ⟨p1, n1, c1, rfl, ht1, hb1⟩
        have HB1 : Hid (box4 w1 w.heap.size o s n p m c) := Lib.hid (box_new.on hb1)
        obtain ⟨x0, x1, x2, x3⟩ := HB1.out
        have HW1 : Hid (Below w.heap.size w w1) := Lib.hid (by (repeat (first | (with_reducible exact Below.refl _ _) | (with_reducible assumption) | (with_reducible apply bl_alloc) | (with_reducible apply bl_drewN) | (with_reducible apply bl_drew) | (with_reducible refine bl_set ?_ (by first | (simp; done) | (simp; omega)) _) | (with_reducible refine bl_call ?_ (by assumption)))))
        clear hb1
        go_wp2_with fail
        go_loopw [0, 5] (fun v i wr => ∃ (k : Nat) (pp : Option Addr) (cc : Nat) (Q : List Nm), k ≤ m ∧ v = .slice pp Q.length cc ∧ i = .int .i64 (k : Nat) ∧ Hid (Q = insA (ins L (bs s)) (tells (preL (l.take k)))) ∧ Hid (Txs wr pp Q.length Q) ∧ Hid (Below w.heap.size w wr) ∧ Hid (box4 wr w.heap.size o s n p m c)) (fun _ i _ => m - (intOf i).toNat)
        case atStart => exact ⟨0, _, _, (ins L (bs s)), Nat.zero_le _, by rw [← (ht1).1], rfl, Lib.hid (by rw [List.take_zero]; rfl), Lib.hid (by rw [(ht1).1]; exact ht1), HW1, HB1⟩
        case round =>
          obtain ⟨k, pp, cc, Q, hk, rfl, rfl, HQ, HT, HW, HB4⟩ := hrel
          obtain ⟨b0, b1, b2, b3⟩ := HB4.out
          have k0 : (0 : Int) ≤ (k : Int) := by omega
          rcases Nat.lt_or_ge k m with h | h
          · have k1 : (k : Int) < (m : Int) := by omega
            obtain ⟨b, o', rfl, -, hG, hcell⟩ := HH.out.kids (by omega)
            have hkl : k < l.length := by rw [HL.out]; omega
            obtain ⟨q, j, c', hc4, hkin⟩ := hcell.out k hkl
            have hmem : l[k] ∈ l := List.getElem_mem hkl
            have hgx : l[k]? = some l[k] := List.getElem?_eq_getElem hkl
            obtain ⟨x, hx⟩ : ∃ x, l[k] = x := ⟨_, rfl⟩
            rw [hx] at hc4 hkin hmem hgx
            obtain ⟨e0, e1, e2, e3⟩ := hc4.on HW.out hG
            have HKIN := Lib.hid hkin
            have HX := Lib.hid hgx
            have HM := Lib.hid hmem
            clear hcell hc4 hkin hx hmem hgx hkl
            have d1 := ment_len (A := (ins L (bs s))) HX.out
            rw [← HQ.out] at d1
            have hcl := HC.out
            have HK := Lib.hid (ment_step (A := (ins L (bs s))) HX.out)
            rw [← HQ.out] at HK
            have HI1 := HI.out x HM.out Q pp Q.length cc q j c' wr HT.out (HKIN.out.on HW.out) (by omega)
            clear d1 hcl
            go_wp2_with fail
            refine HI1.mono ?_
            rintro e w2 ⟨p3, n3, c3, rfl, ht3, hb2⟩
            have HW2 : Hid (Below w.heap.size w w2) := Lib.hid (by have HBB := HW.out; (repeat (first | (with_reducible exact Below.refl _ _) | (with_reducible assumption) | (with_reducible apply bl_alloc) | (with_reducible apply bl_drewN) | (with_reducible apply bl_drew) | (with_reducible refine bl_set ?_ (by first | (simp; done) | (simp; omega)) _) | (with_reducible refine bl_call ?_ (by assumption)))))
            have HB5 := Lib.hid (HB4.out.on hb2)
            have HT3 := Lib.hid ht3
            have hn3 := ht3.1
            subst hn3
            clear hb2 HI1 ht3
            go_wp2_with fail
            go_roundw
            case rel => exact ⟨k + 1, p3, c3, _, by omega, rfl, by go_num, Lib.hid HK.out.symm, HT3, HW2, HB5⟩
            case measure => simp [intOf]; omega
          · obtain rfl : m = k := by omega
            have HTA : Hid (l.take m = l) := Lib.hid (List.take_of_length_le (by rw [HL.out]; exact Nat.le_refl _))
            rw [HTA.out] at HQ
            go_wp2_with fail
            go_ret
            exact ⟨_, _, _, rfl, by rw [← HQ.out]; exact HT.out, HW.out⟩
    · have hn : named false o = false := by simpa using hn
      rw [tells_no hn]
      have HC : Hid (L.length + cntL l ≤ 1000) := Lib.hid (by have := HLm.out; omega)
      have hh : (o == 3) = false ∧ obj o = false := by
        unfold named at hn
        by_cases e : o = 3
        · simp [e] at hn
        · exact ⟨beq_eq_false_iff_ne.2 e, by simpa [e] using hn⟩
      obtain ⟨t1, t2⟩ := hh
      have HO := object_gives t2
      clear ih h hl hc ht hn hlen t2
      go_enter Try.func42, Try.ntmps42
      go_wp2_with fail
      refine (HO _).mono ?_
      rintro e w0 ⟨rfl, rfl⟩
      have hsub := HLm.out
      subst hsub
      go_wp2_with fail
      go_loopw [0, 5] (fun v i wr => ∃ (k : Nat) (pp : Option Addr) (cc : Nat) (Q : List Nm), k ≤ m ∧ v = .slice pp Q.length cc ∧ i = .int .i64 (k : Nat) ∧ Hid (Q = insA L (tells (preL (l.take k)))) ∧ Hid (Txs wr pp Q.length Q) ∧ Hid (Below w.heap.size w wr) ∧ Hid (box4 wr w.heap.size o s n p m c)) (fun _ i _ => m - (intOf i).toNat)
      case atStart => exact ⟨0, _, _, L, Nat.zero_le _, by rw [← ((HT0.out.on (show Below w.heap.size w _ by (repeat (first | (with_reducible exact Below.refl _ _) | (with_reducible assumption) | (with_reducible apply bl_alloc) | (with_reducible apply bl_drewN) | (with_reducible apply bl_drew) | (with_reducible refine bl_set ?_ (by first | (simp; done) | (simp; omega)) _) | (with_reducible refine bl_call ?_ (by assumption))))))).1], rfl, Lib.hid (by rw [List.take_zero]; rfl), Lib.hid (by rw [((HT0.out.on (show Below w.heap.size w _ by (repeat (first | (with_reducible exact Below.refl _ _) | (with_reducible assumption) | (with_reducible apply bl_alloc) | (with_reducible apply bl_drewN) | (with_reducible apply bl_drew) | (with_reducible refine bl_set ?_ (by first | (simp; done) | (simp; omega)) _) | (with_reducible refine bl_call ?_ (by assumption))))))).1]; exact (HT0.out.on (show Below w.heap.size w _ by (repeat (first | (with_reducible exact Below.refl _ _) | (with_reducible assumption) | (with_reducible apply bl_alloc) | (with_reducible apply bl_drewN) | (with_reducible apply bl_drew) | (with_reducible refine bl_set ?_ (by first | (simp; done) | (simp; omega)) _) | (with_reducible refine bl_call ?_ (by assumption))))))), (Lib.hid (by (repeat (first | (with_reducible exact Below.refl _ _) | (with_reducible assumption) | (with_reducible apply bl_alloc) | (with_reducible apply bl_drewN) | (with_reducible apply bl_drew) | (with_reducible refine bl_set ?_ (by first | (simp; done) | (simp; omega)) _) | (with_reducible refine bl_call ?_ (by assumption)))))), (Lib.hid box_new)⟩
      case round =>
        obtain ⟨k, pp, cc, Q, hk, rfl, rfl, HQ, HT, HW, HB4⟩ := hrel
        obtain ⟨b0, b1, b2, b3⟩ := HB4.out
        have k0 : (0 : Int) ≤ (k : Int) := by omega
        rcases Nat.lt_or_ge k m with h | h
        · have k1 : (k : Int) < (m : Int) := by omega
          obtain ⟨b, o', rfl, -, hG, hcell⟩ := HH.out.kids (by omega)
          have hkl : k < l.length := by rw [HL.out]; omega
          obtain ⟨q, j, c', hc4, hkin⟩ := hcell.out k hkl
          have hmem : l[k] ∈ l := List.getElem_mem hkl
          have hgx : l[k]? = some l[k] := List.getElem?_eq_getElem hkl
          obtain ⟨x, hx⟩ : ∃ x, l[k] = x := ⟨_, rfl⟩
          rw [hx] at hc4 hkin hmem hgx
          obtain ⟨e0, e1, e2, e3⟩ := hc4.on HW.out hG
          have HKIN := Lib.hid hkin
          have HX := Lib.hid hgx
          have HM := Lib.hid hmem
          clear hcell hc4 hkin hx hmem hgx hkl
          have d1 := ment_len (A := L) HX.out
          rw [← HQ.out] at d1
          have hcl := HC.out
          have HK := Lib.hid (ment_step (A := L) HX.out)
          rw [← HQ.out] at HK
          have HI1 := HI.out x HM.out Q pp Q.length cc q j c' wr HT.out (HKIN.out.on HW.out) (by omega)
          clear d1 hcl
          go_wp2_with fail
          refine HI1.mono ?_
          rintro e w2 ⟨p3, n3, c3, rfl, ht3, hb2⟩
          have HW2 : Hid (Below w.heap.size w w2) := Lib.hid (by have HBB := HW.out; (repeat (first | (with_reducible exact Below.refl _ _) | (with_reducible assumption) | (with_reducible apply bl_alloc) | (with_reducible apply bl_drewN) | (with_reducible apply bl_drew) | (with_reducible refine bl_set ?_ (by first | (simp; done) | (simp; omega)) _) | (with_reducible refine bl_call ?_ (by assumption)))))
          have HB5 := Lib.hid (HB4.out.on hb2)
          have HT3 := Lib.hid ht3
          have hn3 := ht3.1
          subst hn3
          clear hb2 HI1 ht3
          go_wp2_with fail
          go_roundw
          case rel => exact ⟨k + 1, p3, c3, _, by omega, rfl, by go_num, Lib.hid HK.out.symm, HT3, HW2, HB5⟩
          case measure => simp [intOf]; omega
        · obtain rfl : m = k := by omega
          have HTA : Hid (l.take m = l) := Lib.hid (List.take_of_length_le (by rw [HL.out]; exact Nat.le_refl _))
          rw [HTA.out] at HQ
          go_wp2_with fail
          go_ret
          exact ⟨_, _, _, rfl, by rw [← HQ.out]; exact HT.out, HW.out⟩
set_option maxRecDepth 100000 in
theorem rnames_any (e : Ex) (p : Option Addr) (m c : Nat) (w : World) (h : In w e p m) (hs : Sz e) (hc : cnt e ≤ 1000000) : Calls Try.prog 25 #[.agg #[.int .i64 e.o, .string e.s, .int .i64 e.n, .slice p m c]] w (GivesT (namesE e) w) := by
  have HR := Lib.hid (fun W hi => rcheck_any e p m c W hi hs hc)
  have HH := Lib.hid h
  obtain ⟨v, hv⟩ : ∃ v, chkE false e = v := ⟨_, rfl⟩
  rw [hv] at HR
  by_cases h0 : v = 0
  · subst h0
    obtain ⟨h60, -, -⟩ := chk_ok hv
    have HM := Lib.hid (fun W (hi : In W e p m) => ment_any e [] none 0 0 p m c W Txs.nil hi (by omega))
    rw [← namesE_yes hv] at HM
    obtain ⟨L, hL⟩ : ∃ L, namesE e = L := ⟨_, rfl⟩
    rw [hL] at HM ⊢
    obtain ⟨o, s, nn, kl⟩ := e
    simp only [Ex.o, Ex.s, Ex.n] at HR HM ⊢
    clear h hs hc hv h60 hL
    go_enter Try.func25, Try.ntmps25
    go_wp2_with fail
    refine (HR.out _ (HH.out.on (by (repeat (first | (with_reducible exact Below.refl _ _) | (with_reducible assumption) | (with_reducible apply bl_alloc) | (with_reducible apply bl_drewN) | (with_reducible apply bl_drew) | (with_reducible refine bl_set ?_ (by first | (simp; done) | (simp; omega)) _) | (with_reducible refine bl_call ?_ (by assumption))))))).mono ?_
    rintro e w1 ⟨rfl, hb1⟩
    obtain ⟨x0, x1, x2, x3⟩ : box4 w1 w.heap.size o s nn p m c := box_new.on hb1
    have HW1 : Hid (Below w.heap.size w w1) := Lib.hid (by (repeat (first | (with_reducible exact Below.refl _ _) | (with_reducible assumption) | (with_reducible apply bl_alloc) | (with_reducible apply bl_drewN) | (with_reducible apply bl_drew) | (with_reducible refine bl_set ?_ (by first | (simp; done) | (simp; omega)) _) | (with_reducible refine bl_call ?_ (by assumption)))))
    clear hb1
    go_wp2_with fail
    refine (HM.out _ (HH.out.on HW1.out)).mono ?_
    rintro e w2 ⟨p3, n3, c3, rfl, ht3, hb2⟩
    go_wp2_with fail
    go_ret
    exact ⟨_, _, _, rfl, ht3, by have HBB := HW1.out; (repeat (first | (with_reducible exact Below.refl _ _) | (with_reducible assumption) | (with_reducible apply bl_alloc) | (with_reducible apply bl_drewN) | (with_reducible apply bl_drew) | (with_reducible refine bl_set ?_ (by first | (simp; done) | (simp; omega)) _) | (with_reducible refine bl_call ?_ (by assumption))))⟩
  · have hE : namesE e = [] := by unfold namesE; rw [hv, if_neg h0]
    rw [hE]
    have t0 : (v == 0) = false := beq_eq_false_iff_ne.2 h0
    obtain ⟨o, s, nn, kl⟩ := e
    simp only [Ex.o, Ex.s, Ex.n] at HR ⊢
    clear h hs hc hv hE
    go_enter Try.func25, Try.ntmps25
    go_wp2_with fail
    refine (HR.out _ (HH.out.on (by (repeat (first | (with_reducible exact Below.refl _ _) | (with_reducible assumption) | (with_reducible apply bl_alloc) | (with_reducible apply bl_drewN) | (with_reducible apply bl_drew) | (with_reducible refine bl_set ?_ (by first | (simp; done) | (simp; omega)) _) | (with_reducible refine bl_call ?_ (by assumption))))))).mono ?_
    rintro e w1 ⟨rfl, hb1⟩
    go_wp2_with fail
    go_ret
    exact ⟨_, _, _, rfl, Txs.nil, by (repeat (first | (with_reducible exact Below.refl _ _) | (with_reducible assumption) | (with_reducible apply bl_alloc) | (with_reducible apply bl_drewN) | (with_reducible apply bl_drew) | (with_reducible refine bl_set ?_ (by first | (simp; done) | (simp; omega)) _) | (with_reducible refine bl_call ?_ (by assumption))))⟩
end Go.Proofs.Ytfkenbdfakjeoaa.Ex
