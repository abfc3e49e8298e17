/-
  The contract of the law's own question whether no node with a name has parts.
-/
import Derived.Test.YtfkenbdfakjeoaaETimes
namespace Go.Proofs.Ytfkenbdfakjeoaa.Ex
open Go.RowKit
open Go.Proofs.Ytfkenbdfakjeoaa.Na (bs bs_inj chk)
set_option maxHeartbeats 1000000
set_option linter.unusedVariables false
theorem bar_no {nm s : ByteArray} {o n : Int} {l : List Ex} (h : hit nm o s = true) (g : 0 < l.length) : bar nm (.mk o s n l) = false := by rw [bar, h, decide_eq_true g]; rfl
theorem bar_on {nm s : ByteArray} {o n : Int} {l : List Ex} (h : hit nm o s = false) : bar nm (.mk o s n l) = barL nm l := by rw [bar, h]; simp
theorem bar_nil {nm s : ByteArray} {o n : Int} {l : List Ex} (h : ¬ 0 < l.length) : bar nm (.mk o s n l) = barL nm l := by rw [bar, decide_eq_false h]; simp
theorem bar_stop {nm : ByteArray} {l : List Ex} {k : Nat} {x : Ex} (hx : l[k]? = some x) (h : bar nm x = false) : barL nm l = false := by
  cases g : barL nm l with
  | false => rfl
  | true => have := barL_mem.1 g x (List.mem_of_getElem? hx); rw [this] at h; cases h
set_option maxRecDepth 100000 in
theorem bare_any (nm : ByteArray) (e : Ex) : ∀ (p : Option Addr) (m c : Nat) (w : World), In w e p m → cnt e ≤ 1000000 → Calls Try.prog 29 #[.agg #[.int .i64 e.o, .string e.s, .int .i64 e.n, .slice p m c], .string nm] w (Gives (.bool (bar nm e)) w) := by
  induction e using Ex.ind with
  | h o s n l ih =>
    intro p m c w h hc
    rw [cnt_one] at hc
    have HH := Lib.hid h
    have HI := Lib.hid ih
    obtain ⟨hl, hm⟩ := h.len
    have HL := Lib.hid hl
    have HC := Lib.hid hc
    simp only [Ex.o, Ex.s, Ex.n]
    clear ih h hl hc
    rcases hit_cases nm o s with ⟨h1, h2, h3⟩ | ⟨h1, h2, h3⟩ | ⟨h1, h3⟩
    · have t1 : (o == 3) = true := beq_iff_eq.2 h1
      have t2 := eq_yes h2
      by_cases h0 : 0 < m
      · rw [bar_no h3 (by rw [HL.out]; exact h0)]
        have t3 : (0 : Int) < (m : Int) := by omega
        clear h1 h2 h3
        go_enter Try.func29, Try.ntmps29
        go_wp2_with fail
        go_ret
        exact ⟨rfl, by (repeat (first | (with_reducible exact Below.refl _ _) | (with_reducible assumption) | (with_reducible apply bl_alloc) | (with_reducible apply bl_drewN) | (with_reducible apply bl_drew) | (with_reducible refine bl_set ?_ (by first | (simp; done) | (simp; omega)) _) | (with_reducible refine bl_call ?_ (by assumption))))⟩
      · rw [bar_nil (by rw [HL.out]; exact h0)]
        obtain rfl : m = 0 := by omega
        obtain rfl : l = [] := List.length_eq_zero_iff.1 HL.out
        clear h1 h2 h3 h0 hm HI HL HC
        go_enter Try.func29, Try.ntmps29
        go_wp2_with fail
        go_loopw [5] (fun i wr => i = .int .i64 0 ∧ Hid (Below w.heap.size w wr) ∧ Hid (box4 wr w.heap.size o s n p 0 c)) (fun i _ => 0)
        case atStart => exact ⟨rfl, Lib.hid (by (repeat (first | (with_reducible exact Below.refl _ _) | (with_reducible assumption) | (with_reducible apply bl_alloc) | (with_reducible apply bl_drewN) | (with_reducible apply bl_drew) | (with_reducible refine bl_set ?_ (by first | (simp; done) | (simp; omega)) _) | (with_reducible refine bl_call ?_ (by assumption))))), Lib.hid box_new⟩
        case round =>
          obtain ⟨rfl, HW, HB4⟩ := hrel
          obtain ⟨b0, b1, b2, b3⟩ := HB4.out
          go_wp2_with fail
          go_ret
          exact ⟨rfl, HW.out⟩
    · have t1 : (o == 3) = true := beq_iff_eq.2 h1
      have t2 := eq_no h2
      rw [bar_on h3]
      clear h1 h2 h3
      go_enter Try.func29, Try.ntmps29
      go_wp2_with fail
      go_loopw [5] (fun i wr => ∃ k : Nat, k ≤ m ∧ Hid (barL nm (l.take k) = true) ∧ i = .int .i64 (k : Nat) ∧ Hid (Below w.heap.size w wr) ∧ Hid (box4 wr w.heap.size o s n p m c)) (fun i _ => m - (intOf i).toNat)
      case atStart => exact ⟨0, Nat.zero_le _, Lib.hid (by rw [List.take_zero, barL]), rfl, Lib.hid (by (repeat (first | (with_reducible exact Below.refl _ _) | (with_reducible assumption) | (with_reducible apply bl_alloc) | (with_reducible apply bl_drewN) | (with_reducible apply bl_drew) | (with_reducible refine bl_set ?_ (by first | (simp; done) | (simp; omega)) _) | (with_reducible refine bl_call ?_ (by assumption))))), Lib.hid box_new⟩
      case round =>
        obtain ⟨k, hk, HT0, rfl, HW, HB4⟩ := hrel
        obtain ⟨b0, b1, b2, b3⟩ := HB4.out
        have k0 : (0 : Int) ≤ (k : Int) := by omega
        rcases Nat.lt_or_ge k m with h | h
        · have k1 : (k : Int) < (m : Int) := by omega
          obtain ⟨b, o', rfl, -, hG, hcell⟩ := HH.out.kids (by omega)
          have hkl : k < l.length := by rw [HL.out]; omega
          obtain ⟨q, j, c', hc4, hkin⟩ := hcell.out k hkl
          have hmem : l[k] ∈ l := List.getElem_mem hkl
          have hgx : l[k]? = some l[k] := List.getElem?_eq_getElem hkl
          obtain ⟨x, hx⟩ : ∃ x, l[k] = x := ⟨_, rfl⟩
          rw [hx] at hc4 hkin hmem hgx
          obtain ⟨e0, e1, e2, e3⟩ := hc4.on HW.out hG
          have HKIN := Lib.hid hkin
          have HX := Lib.hid hgx
          have HM := Lib.hid hmem
          clear hcell hc4 hkin hx hmem hgx hkl
          have HK := Lib.hid (barL_take (nm := nm) HX.out)
          have HS := Lib.hid (bar_stop (nm := nm) HX.out)
          have HI1 := HI.out x HM.out q j c' wr (HKIN.out.on HW.out) (cnt_cap k HX.out HC.out).2
          obtain ⟨E, hE⟩ : ∃ E, bar nm x = E := ⟨_, rfl⟩
          rw [hE] at HK HI1 HS
          clear hE
          go_wp2_with fail
          refine HI1.mono ?_
          rintro e w2 ⟨rfl, hb2⟩
          have HW2 : Hid (Below w.heap.size w w2) := Lib.hid (by have HBB := HW.out; (repeat (first | (with_reducible exact Below.refl _ _) | (with_reducible assumption) | (with_reducible apply bl_alloc) | (with_reducible apply bl_drewN) | (with_reducible apply bl_drew) | (with_reducible refine bl_set ?_ (by first | (simp; done) | (simp; omega)) _) | (with_reducible refine bl_call ?_ (by assumption)))))
          have HB5 := Lib.hid (HB4.out.on hb2)
          clear hb2 HI1
          cases E with
          | true =>
            go_wp2_with fail
            go_roundw
            case rel => exact ⟨k + 1, by omega, Lib.hid (by rw [HK.out, HT0.out]; rfl), by go_num, HW2, HB5⟩
            case measure => simp [intOf]; omega
          | false =>
            have HR := Lib.hid (HS.out rfl)
            go_wp2_with fail
            go_ret
            exact ⟨by rw [HR.out]; rfl, HW2.out⟩
        · obtain rfl : m = k := by omega
          have HT : Hid (l.take m = l) := Lib.hid (List.take_of_length_le (by rw [HL.out]; exact Nat.le_refl _))
          rw [HT.out] at HT0
          go_wp2_with fail
          go_ret
          exact ⟨by rw [HT0.out]; rfl, HW.out⟩
    · have t1 : (o == 3) = false := beq_eq_false_iff_ne.2 h1
      rw [bar_on h3]
      clear h1 h3
      go_enter Try.func29, Try.ntmps29
      go_wp2_with fail
      go_loopw [5] (fun i wr => ∃ k : Nat, k ≤ m ∧ Hid (barL nm (l.take k) = true) ∧ i = .int .i64 (k : Nat) ∧ Hid (Below w.heap.size w wr) ∧ Hid (box4 wr w.heap.size o s n p m c)) (fun i _ => m - (intOf i).toNat)
      case atStart => exact ⟨0, Nat.zero_le _, Lib.hid (by rw [List.take_zero, barL]), rfl, Lib.hid (by (repeat (first | (with_reducible exact Below.refl _ _) | (with_reducible assumption) | (with_reducible apply bl_alloc) | (with_reducible apply bl_drewN) | (with_reducible apply bl_drew) | (with_reducible refine bl_set ?_ (by first | (simp; done) | (simp; omega)) _) | (with_reducible refine bl_call ?_ (by assumption))))), Lib.hid box_new⟩
      case round =>
        obtain ⟨k, hk, HT0, rfl, HW, HB4⟩ := hrel
        obtain ⟨b0, b1, b2, b3⟩ := HB4.out
        have k0 : (0 : Int) ≤ (k : Int) := by omega
        rcases Nat.lt_or_ge k m with h | h
        · have k1 : (k : Int) < (m : Int) := by omega
          obtain ⟨b, o', rfl, -, hG, hcell⟩ := HH.out.kids (by omega)
          have hkl : k < l.length := by rw [HL.out]; omega
          obtain ⟨q, j, c', hc4, hkin⟩ := hcell.out k hkl
          have hmem : l[k] ∈ l := List.getElem_mem hkl
          have hgx : l[k]? = some l[k] := List.getElem?_eq_getElem hkl
          obtain ⟨x, hx⟩ : ∃ x, l[k] = x := ⟨_, rfl⟩
          rw [hx] at hc4 hkin hmem hgx
          obtain ⟨e0, e1, e2, e3⟩ := hc4.on HW.out hG
          have HKIN := Lib.hid hkin
          have HX := Lib.hid hgx
          have HM := Lib.hid hmem
          clear hcell hc4 hkin hx hmem hgx hkl
          have HK := Lib.hid (barL_take (nm := nm) HX.out)
          have HS := Lib.hid (bar_stop (nm := nm) HX.out)
          have HI1 := HI.out x HM.out q j c' wr (HKIN.out.on HW.out) (cnt_cap k HX.out HC.out).2
          obtain ⟨E, hE⟩ : ∃ E, bar nm x = E := ⟨_, rfl⟩
          rw [hE] at HK HI1 HS
          clear hE
          go_wp2_with fail
          refine HI1.mono ?_
          rintro e w2 ⟨rfl, hb2⟩
          have HW2 : Hid (Below w.heap.size w w2) := Lib.hid (by have HBB := HW.out; (repeat (first | (with_reducible exact Below.refl _ _) | (with_reducible assumption) | (with_reducible apply bl_alloc) | (with_reducible apply bl_drewN) | (with_reducible apply bl_drew) | (with_reducible refine bl_set ?_ (by first | (simp; done) | (simp; omega)) _) | (with_reducible refine bl_call ?_ (by assumption)))))
          have HB5 := Lib.hid (HB4.out.on hb2)
          clear hb2 HI1
          cases E with
          | true =>
            go_wp2_with fail
            go_roundw
            case rel => exact ⟨k + 1, by omega, Lib.hid (by rw [HK.out, HT0.out]; rfl), by go_num, HW2, HB5⟩
            case measure => simp [intOf]; omega
          | false =>
            have HR := Lib.hid (HS.out rfl)
            go_wp2_with fail
            go_ret
            exact ⟨by rw [HR.out]; rfl, HW2.out⟩
        · obtain rfl : m = k := by omega
          have HT : Hid (l.take m = l) := Lib.hid (List.take_of_length_le (by rw [HL.out]; exact Nat.le_refl _))
          rw [HT.out] at HT0
          go_wp2_with fail
          go_ret
          exact ⟨by rw [HT0.out]; rfl, HW.out⟩
end Go.Proofs.Ytfkenbdfakjeoaa.Ex
