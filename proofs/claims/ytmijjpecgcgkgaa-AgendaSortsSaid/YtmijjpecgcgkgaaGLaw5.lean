/-
  The statement AgendaSorts, walked.
-/
import Derived.Test.YtmijjpecgcgkgaaGAwake2
import Derived.Test.YtmijjpecgcgkgaaGSame2
import Derived.Test.YtmijjpecgcgkgaaGNextF
namespace Go.Proofs.Ytmijjpecgcgkgaa.Ag
open Go.RowKit
set_option maxHeartbeats 8000000
theorem sorts_long (p : Option Addr) (n c : Nat) (w : World) (h : 60 < n) : Calls Try.prog 7 #[.slice p n c] w (Gives (.bool true) w) := by
  have h1 : (60 : Int) < (n : Int) := by omega
  clear h
  go_enter Try.func7, Try.ntmps7
  go_wp2_with fail
  refine (awake_any _).mono ?_
  rintro e w1 ⟨rfl, hb1⟩
  go_wp2_with fail
  go_ret
  exact ⟨rfl, by (repeat (first | (with_reducible exact Below.refl _ _) | (with_reducible assumption) | (with_reducible apply bl_alloc) | (with_reducible apply bl_drewN) | (with_reducible apply bl_drew) | (with_reducible refine bl_set ?_ (by first | (simp; done) | (simp; omega)) _) | (with_reducible refine bl_call ?_ (by assumption))))⟩
def SortRel (w : World) (N : Nat) (E : Nat → Ev) (j : Nat) (p : Option Addr) (c : Nat) (F : Nat → Ev) (wr : World) : Prop :=
  WL p j c ∧ Evs wr p j F ∧ Good F j ∧ (∀ q, q < j → ∃ r, r < N ∧ Eqv (F q) (E r)) ∧ Below w.heap.size w wr
def last (wr : World) (R : Nat) (y : Ev) : Prop := nine wr R y ∧ ∀ o, wr.frozen? ⟨R, o, none⟩ = false
theorem last.on {w w2 : World} {R : Nat} {y : Ev} (hb : Below w.heap.size w w2) (h : last w R y) : last w2 R y := ⟨nine.on hb h.1, fun o => (hb.frozen (p := ⟨R, o, none⟩) h.1.2.2.2.2.2.2.2.2.2).trans (h.2 o)⟩
theorem last.set9 {w : World} {R : Nat} {y x : Ev} (h : last w R y) : last (((((((((w.setCell ⟨R, 0, none⟩ (.int .i64 x.t)).setCell ⟨R, 1, none⟩ (.int .i64 x.p)).setCell ⟨R, 2, none⟩ (.int .i64 x.f)).setCell ⟨R, 3, none⟩ (.int .i64 x.s)).setCell ⟨R, 4, none⟩ (.int .i64 x.st)).setCell ⟨R, 5, none⟩ (.int .i64 x.k)).setCell ⟨R, 6, none⟩ (.int .i64 x.a)).setCell ⟨R, 7, none⟩ (.int .i64 x.b)).setCell ⟨R, 8, none⟩ (.slice x.ap x.al x.ac)) R x := by
  obtain ⟨⟨h0, h1, h2, h3, h4, h5, h6, h7, h8, h9⟩, hf⟩ := h
  refine ⟨⟨?_, ?_, ?_, ?_, ?_, ?_, ?_, ?_, ?_, ?_⟩, fun o => ?_⟩
  · go_simp
  · go_simp
  · go_simp
  · go_simp
  · go_simp
  · go_simp
  · go_simp
  · go_simp
  · go_simp
  · simp [World.setCell]; exact h9
  · go_simp
def anyS (E : Nat → Ev) (y : Ev) : Nat → Bool
  | 0 => false
  | k + 1 => anyS E y k || sameB (E k) y
theorem anyS_true {E : Nat → Ev} {y : Ev} {n r : Nat} (hr : r < n) (h : sameB (E r) y = true) : anyS E y n = true := by
  induction n with
  | zero => omega
  | succ m ih =>
    show (anyS E y m || sameB (E m) y) = true
    by_cases e : r = m
    · subst e; rw [h, Bool.or_true]
    · rw [ih (by omega), Bool.true_or]
theorem good_tail {F : Nat → Ev} {m : Nat} (h : Good F m) : Good (fun i => F (1 + i)) (m - 1) :=
  ⟨by have := h.1; omega, fun i hi => h.2.1 (1 + i) (by omega), fun i hi => by have := h.2.2 (1 + i) (by omega); rwa [show 1 + i + 1 = 1 + (i + 1) by omega] at this⟩
theorem good_nil {F : Nat → Ev} : Good F 0 := ⟨by omega, fun i hi => absurd hi (Nat.not_lt_zero _), fun i hi => absurd hi (Nat.not_lt_zero _)⟩
theorem ins_mem {E F : Nat → Ev} {N k j a : Nat} (hk : k < N) (ha : a ≤ j) (h : ∀ q, q < j → ∃ r, r < N ∧ Eqv (F q) (E r)) : ∀ q, q < j + 1 → ∃ r, r < N ∧ Eqv (insE F a (E k) q) (E r) :=
  insE_all (P := fun y => ∃ r, r < N ∧ Eqv y (E r)) ha h ⟨k, hk, Eqv.refl _⟩
theorem put_grow {F : Nat → Ev} {j : Nat} {x : Ev} (h : putE F j x = 0) (hG : Good F j) : Good (insE F (cnt F x j) x) (j + 1) := by
  rcases putE_cases F j x with ⟨h1, h2⟩ | ⟨h1, h2, h3⟩ | ⟨h1, h2, h3⟩ | ⟨h1, h2, h3, h4, h5⟩
  · exact absurd (h2 ▸ h) h1
  · exact absurd (h3 ▸ h) h2
  · rcases h3 with ⟨-, h3⟩ | ⟨-, -, h3⟩ <;> (rw [h3] at h; cases h)
  · exact ins_good hG h2 h3 h4
theorem sorts_short (p : Option Addr) (N c : Nat) (E : Nat → Ev) (w : World) (h : (N : Int) ≤ 60) (hE : Evs w p N E) : Calls Try.prog 7 #[.slice p N c] w (Gives (.bool true) w) := by
  go_enter Try.func7, Try.ntmps7
  go_wp2_with fail
  go_loopw [3, 4, 5] (fun a u i wr => ∃ (k j : Nat) (q : Option Addr) (d : Nat) (F : Nat → Ev), k ≤ N ∧ j ≤ k ∧ i = .int .i64 k ∧ u = .int .i64 j ∧ a = .slice q j d ∧ SortRel w N E j q d F wr) (fun _ _ i _ => N - (intOf i).toNat)
  case atStart => exact ⟨0, 0, none, 0, fun _ => zeroEv, Nat.zero_le _, Nat.le_refl _, rfl, rfl, rfl, ⟨Nat.le_refl _, .inl rfl⟩, Evs.nil, good_nil, fun q hq => absurd hq (Nat.not_lt_zero _), Below.refl _ _⟩
  case round =>
    obtain ⟨k, j, q, d, F, hk, hjk, rfl, rfl, rfl, hW, hF, hG, hM, hb0⟩ := hrel
    have c0 : (0 : Int) ≤ (k : Int) := by omega
    have wk : IntKind.i64.wrap ((k : Int) + 1) = ((k + 1 : Nat) : Int) := by rw [IntKind.wrap_i64]; omega
    have wj : IntKind.i64.wrap ((j : Int) + 1) = ((j + 1 : Nat) : Int) := by rw [IntKind.wrap_i64]; omega
    have HG := Lib.hid hG
    have HM := Lib.hid hM
    have HW := Lib.hid hW
    clear hG hM hW
    rcases Nat.lt_or_ge k N with hlt | hge
    · have c2 : (k : Int) < (N : Int) := by omega
      obtain ⟨hl, h0 | ⟨b, o, rfl, hb, hc⟩⟩ := hE.on hb0
      · omega
      have CE := (hc.out k hlt).1
      have RE := (hc.out k hlt).2
      have hP := put_any q j d F (E k) wr hF HW.out RE
      unfold putN at hP
      by_cases hz : putE F j (E k) = 0
      · rw [hz, if_pos rfl] at hP
        have hG2 := put_grow hz HG.out
        have hM2 := ins_mem (E := E) (F := F) hlt (cnt_le (E := F) (x := E k) (n := j)) HM.out
        generalize insE F (cnt F (E k) j) (E k) = G at hP hG2 hM2
        have HP := Lib.hid hP
        have HG2 := Lib.hid hG2
        have HM2 := Lib.hid hM2
        clear hP hz hG2 hM2
        obtain ⟨e0, e1, e2, e3, e4, e5, e6, e7, e8⟩ := CE
        go_wp2_with fail
        refine HP.out.mono ?_
        rintro e w1 ⟨p1, c1, F1, rfl, hW1, hF1, hq1, hb1⟩
        have HR : Hid (SortRel w N E (j + 1) p1 c1 F1 w1) := Lib.hid ⟨hW1, hF1, HG2.out.congr hq1, fun q hq => by
          obtain ⟨r, hr, he⟩ := HM2.out q hq
          exact ⟨r, hr, (hq1 q hq).trans he⟩, bl_call hb0 hb1⟩
        clear e0 e1 e2 e3 e4 e5 e6 e7 e8 hW1 hF1 hq1
        go_wp2_with fail
        go_roundw
        case rel => exact ⟨k + 1, j + 1, p1, c1, F1, by omega, by omega, rfl, rfl, rfl, HR.out⟩
        case measure => simp [intOf]; omega
      · rw [if_neg hz] at hP
        generalize putE F j (E k) = z at hP hz
        have hz2 : (z == 0) = false := by rw [beq_eq_false_iff_ne]; exact hz
        have HP := Lib.hid hP
        clear hP hz
        obtain ⟨e0, e1, e2, e3, e4, e5, e6, e7, e8⟩ := CE
        go_wp2_with fail
        refine HP.out.mono ?_
        rintro e w1 ⟨p1, c1, F1, rfl, -, -, -, hb1⟩
        have HR : Hid (SortRel w N E j q d F w1) := Lib.hid ⟨HW.out, hF.on hb1, HG.out, HM.out, bl_call hb0 hb1⟩
        clear e0 e1 e2 e3 e4 e5 e6 e7 e8
        go_wp2_with fail
        go_roundw
        case rel => exact ⟨k + 1, j, q, d, F, by omega, by omega, rfl, rfl, rfl, HR.out⟩
        case measure => simp [intOf]; omega
    · obtain rfl : N = k := by omega
      have c2 : (N : Int) ≤ (N : Int) := by omega
      have jN : (j : Int) ≤ 60 := by omega
      have L0 : last (wr.alloc (.cells #[.int .i64 0, .int .i64 0, .int .i64 0, .int .i64 0, .int .i64 0, .int .i64 0, .int .i64 0, .int .i64 0, .slice none 0 0] 25)) wr.heap.size zeroEv := zero_new
      have HR0 : Hid (SortRel w N E j q d F (wr.alloc (.cells #[.int .i64 0, .int .i64 0, .int .i64 0, .int .i64 0, .int .i64 0, .int .i64 0, .int .i64 0, .int .i64 0, .slice none 0 0] 25))) := Lib.hid ⟨HW.out, hF.alloc, HG.out, HM.out, bl_alloc hb0⟩
      have hRw := hb0.size
      go_wp2_with fail
      generalize wr.heap.size = R at L0 hRw ⊢
      go_loopw [3, 9] (fun a i wr2 => ∃ (t m : Nat) (q : Option Addr) (d : Nat) (F : Nat → Ev) (y : Ev), t + m = j ∧ i = .int .i64 t ∧ a = .slice q m d ∧ SortRel w N E m q d F wr2 ∧ last wr2 R y ∧ (0 < t → 0 < m → Lt y (F 0))) (fun _ i _ => j - (intOf i).toNat)
      case atStart => exact ⟨0, j, q, d, F, zeroEv, by omega, rfl, rfl, HR0.out, L0, fun h => absurd h (Nat.lt_irrefl _)⟩
      case round =>
        obtain ⟨t, m, q2, d2, F2, y, htm, rfl, rfl, HR, HL, hlt⟩ := hrel
        have HLT := Lib.hid hlt
        have t0 : (0 : Int) ≤ (t : Int) := by omega
        have wt : IntKind.i64.wrap ((t : Int) + 1) = ((t + 1 : Nat) : Int) := by rw [IntKind.wrap_i64]; omega
        clear hlt
        obtain ⟨hW2, hF2, hG2, hM2, hb2⟩ := HR
        have HG2 := Lib.hid hG2
        have HM2 := Lib.hid hM2
        clear hG2 hM2
        rcases Nat.lt_or_ge t j with htj | htj
        · have t2 : (t : Int) < (j : Int) := by omega
          have hm : m ≠ 0 := by omega
          go_wp2_with fail
          refine (nextF_good q2 m d2 F2 _ hF2 hW2 hm HG2.out).mono ?_
          rintro e w1 ⟨y1, q3, d3, F3, rfl, hy1, ho1, hW3, hF3, hq3, hb3, hfr⟩
          have HY := Lib.hid hy1
          have HQ := Lib.hid hq3
          have HFR := Lib.hid hfr
          have HW3 := Lib.hid hW3
          have X1 : nine (w1.alloc (.cells #[.int .i64 y1.t, .int .i64 y1.p, .int .i64 y1.f, .int .i64 y1.s, .int .i64 y1.st, .int .i64 y1.k, .int .i64 y1.a, .int .i64 y1.b, .slice y1.ap y1.al y1.ac] 25)) w1.heap.size y1 := nine.new
          have L1 := (last.on hb3 HL).on ((Below.refl _ _).alloc (Nat.le_refl _) (.cells #[.int .i64 y1.t, .int .i64 y1.p, .int .i64 y1.f, .int .i64 y1.s, .int .i64 y1.st, .int .i64 y1.k, .int .i64 y1.a, .int .i64 y1.b, .slice y1.ap y1.al y1.ac] 25))
          have F1 := hF3.alloc (o := .cells #[.int .i64 y1.t, .int .i64 y1.p, .int .i64 y1.f, .int .i64 y1.s, .int .i64 y1.st, .int .i64 y1.k, .int .i64 y1.a, .int .i64 y1.b, .slice y1.ap y1.al y1.ac] 25)
          have O1 : ok (w1.alloc (.cells #[.int .i64 y1.t, .int .i64 y1.p, .int .i64 y1.f, .int .i64 y1.s, .int .i64 y1.st, .int .i64 y1.k, .int .i64 y1.a, .int .i64 y1.b, .slice y1.ap y1.al y1.ac] 25)) y1 := Row.alloc ho1
          have B1 : Below w.heap.size w (w1.alloc (.cells #[.int .i64 y1.t, .int .i64 y1.p, .int .i64 y1.f, .int .i64 y1.s, .int .i64 y1.st, .int .i64 y1.k, .int .i64 y1.a, .int .i64 y1.b, .slice y1.ap y1.al y1.ac] 25)) := by (repeat (first | (with_reducible exact Below.refl _ _) | (with_reducible assumption) | (with_reducible apply bl_alloc) | (with_reducible apply bl_drewN) | (with_reducible apply bl_drew) | (with_reducible refine bl_set ?_ (by first | (simp; done) | (simp; omega)) _) | (with_reducible refine bl_call ?_ (by assumption))))
          have hRl : R < wr.heap.size := HL.1.2.2.2.2.2.2.2.2.2
          obtain ⟨r0, hr0, he0⟩ := HM2.out 0 (by omega)
          have HA : Hid (anyS E y1 N = true) := Lib.hid (anyS_true hr0 (sameB_iff.2 (he0.symm.trans hy1.symm)))
          have HLY : Hid (0 < m - 1 → Lt y1 (F3 0)) := Lib.hid fun h1 => (hy1.lt (hq3 0 h1)).2 (HG2.out.2.2 0 (by omega))
          have HR2 : Hid (Good F3 (m - 1) ∧ ∀ q, q < m - 1 → ∃ r, r < N ∧ Eqv (F3 q) (E r)) := Lib.hid ⟨(good_tail HG2.out).congr hq3, fun q hq => by
            obtain ⟨r, hr, he⟩ := HM2.out (1 + q) (by omega)
            exact ⟨r, hr, (hq3 q hq).trans he⟩⟩
          have hms : t + 1 + (m - 1) = j := by omega
          have HLl : Hid (0 < t → Lt y y1) := Lib.hid fun h1 => by
            have h2 := HLT.out h1 (by omega)
            exact ((Eqv.refl y).lt hy1).2 h2
          clear hy1 hq3 hfr hW3 ho1 hF3 hr0 he0 htm
          rcases Nat.eq_zero_or_pos t with ht | ht
          · have HT := Lib.hid ht
            have hd : decide (0 < t) = false := by simp; omega
            clear ht
            go_upto_region 19 with fail
            generalize w1.alloc (.cells #[.int .i64 y1.t, .int .i64 y1.p, .int .i64 y1.f, .int .i64 y1.s, .int .i64 y1.st, .int .i64 y1.k, .int .i64 y1.a, .int .i64 y1.b, .slice y1.ap y1.al y1.ac] 25) = W3 at X1 L1 F1 O1 B1 ⊢
            clear HLl
            go_wp2_with fail
            go_loopw [13, 14] (fun b k wr3 => ∃ (k2 : Nat) (th : Bool), k2 ≤ N ∧ k = .int .i64 k2 ∧ b = .bool th ∧ Hid (th = anyS E y1 k2) ∧ Below W3.heap.size W3 wr3) (fun _ k _ => N - (intOf k).toNat)
            case atStart => exact ⟨0, false, Nat.zero_le _, rfl, rfl, Lib.hid rfl, Below.refl _ _⟩
            case round =>
              obtain ⟨k2, th, hk2, rfl, rfl, HTH, hb5⟩ := hrel
              have k0 : (0 : Int) ≤ (k2 : Int) := by omega
              have wk2 : IntKind.i64.wrap ((k2 : Int) + 1) = ((k2 + 1 : Nat) : Int) := by rw [IntKind.wrap_i64]; omega
              rcases Nat.lt_or_ge k2 N with hkN | hkN
              · have k1 : (k2 : Int) < (N : Int) := by omega
                cases th
                · have BB := bl_call B1 hb5
                  obtain ⟨hl, h0 | ⟨b, o, rfl, hb, hc⟩⟩ := hE.on BB
                  · omega
                  have CE := (hc.out k2 hkN).1
                  have RE : Row wr.drew (E k2).ap (E k2).al (E k2).V := (hc.out k2 hkN).2
                  have XR := nine.on hb5 X1
                  have OR : Row wr.drew y1.ap y1.al y1.V := Row.drew (Row.on hb5 O1)
                  obtain ⟨e0, e1, e2, e3, e4, e5, e6, e7, e8⟩ := CE
                  obtain ⟨x0, x1, x2, x3, x4, x5, x6, x7, x8, x9⟩ := XR
                  go_wp2_with fail
                  refine region_still_tail 7 (by kernel_rfl) (by kernel_rfl) ?_
                  simp only [List.take_succ_cons, List.take_zero, List.drop_succ_cons, List.drop_zero]
                  iterate 7 still_step
                  refine wpStill_nil ?_
                  go_wp2_with fail
                  refine (rsame_any (E k2) y1 wr.drew RE OR).mono ?_
                  rintro e w6 ⟨rfl, hb6⟩
                  have HT2 : Hid (sameB (E k2) y1 = anyS E y1 (k2 + 1)) := Lib.hid (by show _ = (anyS E y1 k2 || sameB (E k2) y1); rw [← HTH.out, Bool.false_or])
                  clear e0 e1 e2 e3 e4 e5 e6 e7 e8 x0 x1 x2 x3 x4 x5 x6 x7 x8 x9
                  go_wp2_with fail
                  go_roundw
                  case rel => exact ⟨k2 + 1, _, by omega, rfl, rfl, HT2, by (repeat (first | (with_reducible exact Below.refl _ _) | (with_reducible assumption) | (with_reducible apply bl_alloc) | (with_reducible apply bl_drewN) | (with_reducible apply bl_drew) | (with_reducible refine bl_set ?_ (by first | (simp; done) | (simp; omega)) _) | (with_reducible refine bl_call ?_ (by assumption))))⟩
                  case measure => simp [intOf]; omega
                · have HT2 : Hid (true = anyS E y1 (k2 + 1)) := Lib.hid (by show _ = (anyS E y1 k2 || sameB (E k2) y1); rw [← HTH.out, Bool.true_or])
                  go_wp2_with fail
                  go_quiet (fail)
                  go_wp2_with fail
                  go_roundw
                  case rel => exact ⟨k2 + 1, true, by omega, rfl, rfl, HT2, by (repeat (first | (with_reducible exact Below.refl _ _) | (with_reducible assumption) | (with_reducible apply bl_alloc) | (with_reducible apply bl_drewN) | (with_reducible apply bl_drew) | (with_reducible refine bl_set ?_ (by first | (simp; done) | (simp; omega)) _) | (with_reducible refine bl_call ?_ (by assumption))))⟩
                  case measure => simp [intOf]; omega
              · obtain rfl : N = k2 := by omega
                obtain rfl : th = true := by rw [HTH.out, HA.out]
                have k1 : (N : Int) ≤ (N : Int) := by omega
                have XR := nine.on hb5 X1
                have LR := last.on hb5 L1
                have FR := Evs.on hb5 F1
                have BB := bl_call B1 hb5
                have LS := Lib.hid (last.set9 (x := y1) LR)
                have HFS := Lib.hid (Evs.set (u := .slice y1.ap y1.al y1.ac) (j := 8) (Evs.set (u := .int .i64 y1.b) (j := 7) (Evs.set (u := .int .i64 y1.a) (j := 6) (Evs.set (u := .int .i64 y1.k) (j := 5) (Evs.set (u := .int .i64 y1.st) (j := 4) (Evs.set (u := .int .i64 y1.s) (j := 3) (Evs.set (u := .int .i64 y1.f) (j := 2) (Evs.set (u := .int .i64 y1.p) (j := 1) (Evs.set (u := .int .i64 y1.t) (j := 0) FR HFR.out hRl) HFR.out hRl) HFR.out hRl) HFR.out hRl) HFR.out hRl) HFR.out hRl) HFR.out hRl) HFR.out hRl) HFR.out hRl)
                obtain ⟨LN, lf⟩ := LR
                obtain ⟨a0, a1, a2, a3, a4, a5, a6, a7, a8, a9⟩ := LN
                obtain ⟨x0, x1, x2, x3, x4, x5, x6, x7, x8, x9⟩ := XR
                go_wp2_with fail
                go_roundw
                case rel => exact ⟨t + 1, m - 1, q3, d3, F3, y1, hms, rfl, rfl, ⟨HW3.out, HFS.out, HR2.out.1, HR2.out.2, by (repeat (first | (with_reducible exact Below.refl _ _) | (with_reducible assumption) | (with_reducible apply bl_alloc) | (with_reducible apply bl_drewN) | (with_reducible apply bl_drew) | (with_reducible refine bl_set ?_ (by first | (simp; done) | (simp; omega)) _) | (with_reducible refine bl_call ?_ (by assumption))))⟩, LS.out, fun _ h1 => HLY.out h1⟩
                case measure => simp [intOf]; omega
          · have hd : decide (0 < t) = true := by simp; omega
            have hll := ltB_iff.2 (HLl.out ht)
            have HLT2 := Lib.hid hll
            clear hll
            obtain ⟨LN, lf⟩ := L1
            have LN2 := LN
            have X2 := X1
            obtain ⟨a0, a1, a2, a3, a4, a5, a6, a7, a8, a9⟩ := LN2
            obtain ⟨b0, b1, b2, b3, b4, b5, b6, b7, b8, b9⟩ := X2
            go_wp2_with fail
            refine (less_any y y1 _).mono ?_
            rintro e W3 ⟨rfl, hb4⟩
            rw [HLT2.out]
            have X1 := nine.on hb4 X1
            have L1 := last.on hb4 ⟨LN, lf⟩
            have F1 := Evs.on hb4 F1
            have O1 : ok W3 y1 := Row.on hb4 O1
            have B1 := bl_call B1 hb4
            clear a0 a1 a2 a3 a4 a5 a6 a7 a8 a9 b0 b1 b2 b3 b4 b5 b6 b7 b8 b9 LN lf hb4
            go_upto_region 19 with fail
            clear HLl
            go_wp2_with fail
            go_loopw [13, 14] (fun b k wr3 => ∃ (k2 : Nat) (th : Bool), k2 ≤ N ∧ k = .int .i64 k2 ∧ b = .bool th ∧ Hid (th = anyS E y1 k2) ∧ Below W3.heap.size W3 wr3) (fun _ k _ => N - (intOf k).toNat)
            case atStart => exact ⟨0, false, Nat.zero_le _, rfl, rfl, Lib.hid rfl, Below.refl _ _⟩
            case round =>
              obtain ⟨k2, th, hk2, rfl, rfl, HTH, hb5⟩ := hrel
              have k0 : (0 : Int) ≤ (k2 : Int) := by omega
              have wk2 : IntKind.i64.wrap ((k2 : Int) + 1) = ((k2 + 1 : Nat) : Int) := by rw [IntKind.wrap_i64]; omega
              rcases Nat.lt_or_ge k2 N with hkN | hkN
              · have k1 : (k2 : Int) < (N : Int) := by omega
                cases th
                · have BB := bl_call B1 hb5
                  obtain ⟨hl, h0 | ⟨b, o, rfl, hb, hc⟩⟩ := hE.on BB
                  · omega
                  have CE := (hc.out k2 hkN).1
                  have RE : Row wr.drew (E k2).ap (E k2).al (E k2).V := (hc.out k2 hkN).2
                  have XR := nine.on hb5 X1
                  have OR : Row wr.drew y1.ap y1.al y1.V := Row.drew (Row.on hb5 O1)
                  obtain ⟨e0, e1, e2, e3, e4, e5, e6, e7, e8⟩ := CE
                  obtain ⟨x0, x1, x2, x3, x4, x5, x6, x7, x8, x9⟩ := XR
                  go_wp2_with fail
                  refine region_still_tail 7 (by kernel_rfl) (by kernel_rfl) ?_
                  simp only [List.take_succ_cons, List.take_zero, List.drop_succ_cons, List.drop_zero]
                  iterate 7 still_step
                  refine wpStill_nil ?_
                  go_wp2_with fail
                  refine (rsame_any (E k2) y1 wr.drew RE OR).mono ?_
                  rintro e w6 ⟨rfl, hb6⟩
                  have HT2 : Hid (sameB (E k2) y1 = anyS E y1 (k2 + 1)) := Lib.hid (by show _ = (anyS E y1 k2 || sameB (E k2) y1); rw [← HTH.out, Bool.false_or])
                  clear e0 e1 e2 e3 e4 e5 e6 e7 e8 x0 x1 x2 x3 x4 x5 x6 x7 x8 x9
                  go_wp2_with fail
                  go_roundw
                  case rel => exact ⟨k2 + 1, _, by omega, rfl, rfl, HT2, by (repeat (first | (with_reducible exact Below.refl _ _) | (with_reducible assumption) | (with_reducible apply bl_alloc) | (with_reducible apply bl_drewN) | (with_reducible apply bl_drew) | (with_reducible refine bl_set ?_ (by first | (simp; done) | (simp; omega)) _) | (with_reducible refine bl_call ?_ (by assumption))))⟩
                  case measure => simp [intOf]; omega
                · have HT2 : Hid (true = anyS E y1 (k2 + 1)) := Lib.hid (by show _ = (anyS E y1 k2 || sameB (E k2) y1); rw [← HTH.out, Bool.true_or])
                  go_wp2_with fail
                  go_quiet (fail)
                  go_wp2_with fail
                  go_roundw
                  case rel => exact ⟨k2 + 1, true, by omega, rfl, rfl, HT2, by (repeat (first | (with_reducible exact Below.refl _ _) | (with_reducible assumption) | (with_reducible apply bl_alloc) | (with_reducible apply bl_drewN) | (with_reducible apply bl_drew) | (with_reducible refine bl_set ?_ (by first | (simp; done) | (simp; omega)) _) | (with_reducible refine bl_call ?_ (by assumption))))⟩
                  case measure => simp [intOf]; omega
              · obtain rfl : N = k2 := by omega
                obtain rfl : th = true := by rw [HTH.out, HA.out]
                have k1 : (N : Int) ≤ (N : Int) := by omega
                have XR := nine.on hb5 X1
                have LR := last.on hb5 L1
                have FR := Evs.on hb5 F1
                have BB := bl_call B1 hb5
                have LS := Lib.hid (last.set9 (x := y1) LR)
                have HFS := Lib.hid (Evs.set (u := .slice y1.ap y1.al y1.ac) (j := 8) (Evs.set (u := .int .i64 y1.b) (j := 7) (Evs.set (u := .int .i64 y1.a) (j := 6) (Evs.set (u := .int .i64 y1.k) (j := 5) (Evs.set (u := .int .i64 y1.st) (j := 4) (Evs.set (u := .int .i64 y1.s) (j := 3) (Evs.set (u := .int .i64 y1.f) (j := 2) (Evs.set (u := .int .i64 y1.p) (j := 1) (Evs.set (u := .int .i64 y1.t) (j := 0) FR HFR.out hRl) HFR.out hRl) HFR.out hRl) HFR.out hRl) HFR.out hRl) HFR.out hRl) HFR.out hRl) HFR.out hRl) HFR.out hRl)
                obtain ⟨LN, lf⟩ := LR
                obtain ⟨a0, a1, a2, a3, a4, a5, a6, a7, a8, a9⟩ := LN
                obtain ⟨x0, x1, x2, x3, x4, x5, x6, x7, x8, x9⟩ := XR
                go_wp2_with fail
                go_roundw
                case rel => exact ⟨t + 1, m - 1, q3, d3, F3, y1, hms, rfl, rfl, ⟨HW3.out, HFS.out, HR2.out.1, HR2.out.2, by (repeat (first | (with_reducible exact Below.refl _ _) | (with_reducible assumption) | (with_reducible apply bl_alloc) | (with_reducible apply bl_drewN) | (with_reducible apply bl_drew) | (with_reducible refine bl_set ?_ (by first | (simp; done) | (simp; omega)) _) | (with_reducible refine bl_call ?_ (by assumption))))⟩, LS.out, fun _ h1 => HLY.out h1⟩
                case measure => simp [intOf]; omega
        · obtain rfl : m = 0 := by omega
          have t2 : (j : Int) ≤ (t : Int) := by omega
          go_wp2_with fail
          refine (awake_any _).mono ?_
          rintro e w1 ⟨rfl, hb1⟩
          go_wp2_with fail
          go_ret
          exact ⟨rfl, by (repeat (first | (with_reducible exact Below.refl _ _) | (with_reducible assumption) | (with_reducible apply bl_alloc) | (with_reducible apply bl_drewN) | (with_reducible apply bl_drew) | (with_reducible refine bl_set ?_ (by first | (simp; done) | (simp; omega)) _) | (with_reducible refine bl_call ?_ (by assumption))))⟩
theorem agendaSorts_walk (p : Option Addr) (n c : Nat) (E : Nat → Ev) (w : World) (_hW : WL p n c) (hE : Evs w p n E) : Calls Try.prog 7 #[.slice p n c] w (Gives (.bool true) w) := by
  by_cases h : 60 < n
  · exact sorts_long p n c w h
  · exact sorts_short p n c E w (by omega) hE
end Go.Proofs.Ytmijjpecgcgkgaa.Ag
