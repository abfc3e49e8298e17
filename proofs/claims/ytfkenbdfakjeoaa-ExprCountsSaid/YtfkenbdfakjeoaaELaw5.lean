/-
  The law of Replace, walked.
-/
import Derived.Test.YtfkenbdfakjeoaaELaw3
namespace Go.Proofs.Ytfkenbdfakjeoaa.Ex
open Go.RowKit
open Go.Proofs.Ytfkenbdfakjeoaa.Na (bs bs_inj chk)
set_option maxHeartbeats 4000000
set_option linter.unusedVariables false
set_option linter.unusedSimpArgs false
theorem nd_name {x : Ex} (h : ndE false x = 0) (ho : x.o = 3) : x.n = 0 ∧ x.l = [] := by
  unfold ndE nd at h
  have hb : ¬ badF false x.o (bs x.s) x.n x.l.length = true := by
    intro g
    rw [if_pos g] at h
    cases h
  rw [ho] at hb
  have e1 : numbered false 3 = false := by decide
  have e2 : ari 3 = 0 := by decide
  unfold badF at hb
  rw [e1, e2] at hb
  simp only [Bool.not_eq_true, Bool.or_eq_false_iff, Bool.not_false, Bool.true_and, Bool.not_eq_false', decide_eq_true_eq] at hb
  exact ⟨hb.1.2, List.length_eq_zero_iff.1 (by omega)⟩
theorem rep_ok {nm : ByteArray} {e : Ex} (h : chkE false e = 0) : rep nm (.mk 3 nm 0 []) e = e := by
  refine rep_self nm e fun x hx hh => ?_
  unfold hit at hh
  rw [Bool.and_eq_true, decide_eq_true_eq] at hh
  exact nd_name ((chk_ok h).2.2 x hx) hh.1
theorem leaf_kin {G : Nat → Prop} {w w2 : World} {o n : Int} {s : ByteArray} {p : Option Addr} {m : Nat} (h : In w (.mk o s n []) p m) : Kin G w2 (.mk o s n []) p m := by
  obtain ⟨h1, h2, -⟩ := kin_iff.1 h
  have : m = 0 := h1.symm
  exact kin_iff.2 ⟨h1, h2, .inl this⟩
theorem times_at {nm : ByteArray} {e : Ex} {k : Nat} (h : tim nm e = k) (hc : cnt e ≤ 1000000) {p : Option Addr} {m c : Nat} {w : World} (hi : In w e p m) : Calls Try.prog 28 #[.agg #[.int .i64 e.o, .string e.s, .int .i64 e.n, .slice p m c], .string nm] w (Gives (.int .i64 (k : Nat)) w) := by rw [← h]; exact times_any nm e p m c w hi hc
theorem rreplF_at {nm : ByteArray} {y e z : Ex} (hz : rep nm y e = z) (hce : cnt e ≤ 1000000) {n0 : Nat} {p : Option Addr} {m c : Nat} {p2 : Option Addr} {m2 c2 : Nat} {w : World} (hx : Kin (Lo n0) w e p m) (hy : Kin (Lo n0) w y p2 m2) (hn : n0 ≤ w.heap.size) : Calls Try.prog 26 #[.agg #[.int .i64 e.o, .string e.s, .int .i64 e.n, .slice p m c], .string nm, .agg #[.int .i64 y.o, .string y.s, .int .i64 y.n, .slice p2 m2 c2]] w (GivesF n0 z w) := by
  rw [← hz]; exact rrep_any nm y p2 m2 c2 e n0 p m c w hx hy hn hce
theorem low_far {U : World} {x : Ex} {p : Option Addr} {m : Nat} (h : In U x p m) : Hid (∀ W, Below U.heap.size U W → Kin (Lo U.heap.size) W x p m) := Lib.hid fun W hb => Kin.below hb h
theorem keep16b {w' : World} {g1 g2 g3 g4 : Nat} {o1 o2 o3 o4 n1 n2 n3 n4 : Int} {s1 s2 s3 s4 : ByteArray} {p1 p2 p3 p4 : Option Addr} {m1 c1 m2 c2 m3 c3 m4 c4 : Nat} (h1 : box4 w' g1 o1 s1 n1 p1 m1 c1) (h2 : box4 w' g2 o2 s2 n2 p2 m2 c2) (h3 : box4 w' g3 o3 s3 n3 p3 m3 c3) (h4 : box4 w' g4 o4 s4 n4 p4 m4 c4) :
    (w'.cell? ⟨g1, 0, none⟩ = some (.int .i64 o1) ∧ w'.cell? ⟨g1, 1, none⟩ = some (.string s1) ∧ w'.cell? ⟨g1, 2, none⟩ = some (.int .i64 n1) ∧ w'.cell? ⟨g1, 3, none⟩ = some (.slice p1 m1 c1)) ∧ (w'.cell? ⟨g2, 0, none⟩ = some (.int .i64 o2) ∧ w'.cell? ⟨g2, 1, none⟩ = some (.string s2) ∧ w'.cell? ⟨g2, 2, none⟩ = some (.int .i64 n2) ∧ w'.cell? ⟨g2, 3, none⟩ = some (.slice p2 m2 c2)) ∧ (w'.cell? ⟨g3, 0, none⟩ = some (.int .i64 o3) ∧ w'.cell? ⟨g3, 1, none⟩ = some (.string s3) ∧ w'.cell? ⟨g3, 2, none⟩ = some (.int .i64 n3) ∧ w'.cell? ⟨g3, 3, none⟩ = some (.slice p3 m3 c3)) ∧ (w'.cell? ⟨g4, 0, none⟩ = some (.int .i64 o4) ∧ w'.cell? ⟨g4, 1, none⟩ = some (.string s4) ∧ w'.cell? ⟨g4, 2, none⟩ = some (.int .i64 n4) ∧ w'.cell? ⟨g4, 3, none⟩ = some (.slice p4 m4 c4)) := ⟨h1, h2, h3, h4⟩
theorem Zb.opened {W : World} {B : Nat} (h : Zb W B) : box4 W B 0 mE 0 none 0 0 ∧ frz4 W B := h.open
theorem drew_size (W : World) : W.drew.heap.size = W.heap.size := rfl
theorem cnt_wd (s : ByteArray) : cnt (wdE s) ≤ 1000000 := by
  unfold wdE
  rw [cnt_one, cntL]
  omega
set_option maxRecDepth 100000 in
theorem exprReplaces_walk (HA : ∀ w, Calls Try.prog 11 #[] w (Gives (.bool true) w)) (x : Ex) (p : Option Addr) (m c : Nat) (nm : ByteArray) (y : Ex) (p2 : Option Addr) (m2 c2 : Nat) (w : World) (hx : In w x p m) (hsx : Sz x) (hnm : nm.size ≤ 140737488355328) (hy : In w y p2 m2) (hsy : Sz y) : Calls Try.prog 7 #[.agg #[.int .i64 x.o, .string x.s, .int .i64 x.n, .slice p m c], .string nm, .agg #[.int .i64 y.o, .string y.s, .int .i64 y.n, .slice p2 m2 c2]] w (Gives (.bool true) w) := by
  obtain ⟨V1, V2⟩ := two_vars (c := c) (c2 := c2) hx hy
  have F1 := V1.far
  have F2 := V2.far
  have L1 := low_far V1.2
  have HB : Hid (Below w.heap.size w ((w.alloc (.cells #[.int .i64 x.o, .string x.s, .int .i64 x.n, .slice p m c] 25)).alloc (.cells #[.int .i64 y.o, .string y.s, .int .i64 y.n, .slice p2 m2 c2] 25))) := Lib.hid (by (repeat (first | (with_reducible exact Below.refl _ _) | (with_reducible assumption) | (with_reducible apply bl_alloc) | (with_reducible apply bl_drewN) | (with_reducible apply bl_drew) | (with_reducible refine bl_set ?_ (by first | (simp; done) | (simp; omega)) _) | (with_reducible refine bl_call ?_ (by assumption)))))
  clear V1 V2 hx hy hnm hsy
  have HF1 := fun W hi => few_gives (e := x) rfl p m c W hi
  have HF2 := fun W hi => few_gives (e := y) rfl p2 m2 c2 W hi
  cases f1 : fewE x with
  | false =>
    simp only [f1] at HF1
    clear f1 hsx
    go_enter Try.func7, Try.ntmps7
    go_wp2_with fail
    refine (HF1 _ (F1.out _ (Below.refl _ _)).2).mono ?_
    rintro e w1 ⟨rfl, hb1⟩
    go_wp2_with fail
    refine (HA _).mono ?_
    rintro e w9 ⟨rfl, hb9⟩
    go_wp2_with fail
    go_ret
    exact ⟨rfl, by have HBB := HB.out; (repeat (first | (with_reducible exact Below.refl _ _) | (with_reducible assumption) | (with_reducible apply bl_alloc) | (with_reducible apply bl_drewN) | (with_reducible apply bl_drew) | (with_reducible refine bl_set ?_ (by first | (simp; done) | (simp; omega)) _) | (with_reducible refine bl_call ?_ (by assumption))))⟩
  | true =>
    simp only [f1] at HF1
    cases f2 : fewE y with
    | false =>
      simp only [f2] at HF2
      clear f1 f2 hsx
      go_enter Try.func7, Try.ntmps7
      go_wp2_with fail
      refine (HF1 _ (F1.out _ (Below.refl _ _)).2).mono ?_
      rintro e w1 ⟨rfl, hb1⟩
      obtain ⟨x0, x1, x2, x3⟩ := (F1.out w1 (by (repeat (first | (with_reducible exact Below.refl _ _) | (with_reducible assumption) | (with_reducible apply bl_alloc) | (with_reducible apply bl_drewN) | (with_reducible apply bl_drew) | (with_reducible refine bl_set ?_ (by first | (simp; done) | (simp; omega)) _) | (with_reducible refine bl_call ?_ (by assumption)))))).1
      obtain ⟨y0, y1, y2, y3⟩ := (F2.out w1 (by (repeat (first | (with_reducible exact Below.refl _ _) | (with_reducible assumption) | (with_reducible apply bl_alloc) | (with_reducible apply bl_drewN) | (with_reducible apply bl_drew) | (with_reducible refine bl_set ?_ (by first | (simp; done) | (simp; omega)) _) | (with_reducible refine bl_call ?_ (by assumption)))))).1
      go_wp2_with fail
      refine (HF2 _ (F2.out _ hb1).2).mono ?_
      rintro e w2 ⟨rfl, hb2⟩
      go_wp2_with fail
      refine (HA _).mono ?_
      rintro e w9 ⟨rfl, hb9⟩
      go_wp2_with fail
      go_ret
      exact ⟨rfl, by have HBB := HB.out; (repeat (first | (with_reducible exact Below.refl _ _) | (with_reducible assumption) | (with_reducible apply bl_alloc) | (with_reducible apply bl_drewN) | (with_reducible apply bl_drew) | (with_reducible refine bl_set ?_ (by first | (simp; done) | (simp; omega)) _) | (with_reducible refine bl_call ?_ (by assumption))))⟩
    | true =>
      simp only [f2] at HF2
      have cx := (few_cap f1).1
      have cy := (few_cap f2).1
      have HCX : Hid (cnt x ≤ 1000000) := Lib.hid (by omega)
      have HCY : Hid (cnt y ≤ 1000000) := Lib.hid (by omega)
      have HSX := Lib.hid hsx
      obtain ⟨own, hown⟩ : ∃ z, rep ⟨#[]⟩ (wdE ⟨#[]⟩) x = z := ⟨_, rfl⟩
      obtain ⟨z, hz⟩ : ∃ z, rep nm y x = z := ⟨_, rfl⟩
      have HOWN := Lib.hid hown
      have HZ := Lib.hid hz
      have HTIM : Hid (tim ⟨#[]⟩ x = 0 → same x own = true) := Lib.hid fun h => same_of (by rw [← hown]; exact (rep_none _ _ _ h).symm)
      clear f1 f2 hsx cx cy hown hz
      obtain ⟨v1, h1⟩ : ∃ v, chkE false x = v := ⟨_, rfl⟩
      have H1 := Lib.hid h1
      have H2 : Hid (v1 = 0 → rep nm (wdE nm) x = x) := Lib.hid fun h0 => rep_ok (h1.trans h0)
      obtain ⟨kt, hkt⟩ : ∃ k, tim ⟨#[]⟩ x = k := ⟨_, rfl⟩
      have HKT := Lib.hid hkt
      rw [hkt] at HTIM
      obtain ⟨E2, hE2⟩ : ∃ b, same x own = b := ⟨_, rfl⟩
      have HE2 := Lib.hid hE2
      rw [hE2] at HTIM
      clear h1 hkt hE2
      go_enter Try.func7, Try.ntmps7
      go_wp2_with fail
      refine (HF1 _ (F1.out _ (Below.refl _ _)).2).mono ?_
      rintro e w1 ⟨rfl, hb1⟩
      obtain ⟨x0, x1, x2, x3⟩ := (F1.out w1 (by (repeat (first | (with_reducible exact Below.refl _ _) | (with_reducible assumption) | (with_reducible apply bl_alloc) | (with_reducible apply bl_drewN) | (with_reducible apply bl_drew) | (with_reducible refine bl_set ?_ (by first | (simp; done) | (simp; omega)) _) | (with_reducible refine bl_call ?_ (by assumption)))))).1
      obtain ⟨y0, y1, y2, y3⟩ := (F2.out w1 (by (repeat (first | (with_reducible exact Below.refl _ _) | (with_reducible assumption) | (with_reducible apply bl_alloc) | (with_reducible apply bl_drewN) | (with_reducible apply bl_drew) | (with_reducible refine bl_set ?_ (by first | (simp; done) | (simp; omega)) _) | (with_reducible refine bl_call ?_ (by assumption)))))).1
      go_wp2_with fail
      refine (HF2 _ (F2.out _ hb1).2).mono ?_
      rintro e w2 ⟨rfl, hb2⟩
      clear x0 x1 x2 x3 y0 y1 y2 y3
      have hb3 : Below (((w.alloc (.cells #[.int .i64 x.o, .string x.s, .int .i64 x.n, .slice p m c] 25)).alloc (.cells #[.int .i64 y.o, .string y.s, .int .i64 y.n, .slice p2 m2 c2] 25))).heap.size ((w.alloc (.cells #[.int .i64 x.o, .string x.s, .int .i64 x.n, .slice p m c] 25)).alloc (.cells #[.int .i64 y.o, .string y.s, .int .i64 y.n, .slice p2 m2 c2] 25)) w2 := by (repeat (first | (with_reducible exact Below.refl _ _) | (with_reducible assumption) | (with_reducible apply bl_alloc) | (with_reducible apply bl_drewN) | (with_reducible apply bl_drew) | (with_reducible refine bl_set ?_ (by first | (simp; done) | (simp; omega)) _) | (with_reducible refine bl_call ?_ (by assumption))))
      replace HB : Hid (Below w.heap.size w w2) := Lib.hid (by have HBB := HB.out; (repeat (first | (with_reducible exact Below.refl _ _) | (with_reducible assumption) | (with_reducible apply bl_alloc) | (with_reducible apply bl_drewN) | (with_reducible apply bl_drew) | (with_reducible refine bl_set ?_ (by first | (simp; done) | (simp; omega)) _) | (with_reducible refine bl_call ?_ (by assumption)))))
      replace F1 := (F1.out _ hb3).far
      replace F2 := (F2.out _ hb3).far
      replace L1 := low_far (F1.out _ (Below.refl _ _)).2
      clear hb1 hb2 hb3 HF1 HF2
      obtain ⟨x0, x1, x2, x3⟩ := (F1.out w2 (by (repeat (first | (with_reducible exact Below.refl _ _) | (with_reducible assumption) | (with_reducible apply bl_alloc) | (with_reducible apply bl_drewN) | (with_reducible apply bl_drew) | (with_reducible refine bl_set ?_ (by first | (simp; done) | (simp; omega)) _) | (with_reducible refine bl_call ?_ (by assumption)))))).1
      obtain ⟨y0, y1, y2, y3⟩ := (F2.out w2 (by (repeat (first | (with_reducible exact Below.refl _ _) | (with_reducible assumption) | (with_reducible apply bl_alloc) | (with_reducible apply bl_drewN) | (with_reducible apply bl_drew) | (with_reducible refine bl_set ?_ (by first | (simp; done) | (simp; omega)) _) | (with_reducible refine bl_call ?_ (by assumption)))))).1
      go_upto_region 3 with (fail)
      go_cut [7] (fun v wx => ∃ B q j d, v = .pointer (some ⟨B, 0, none⟩) ∧ Var wx B own q j d ∧ Below w2.heap.size w2 wx)
      case first =>
        go_region_held3 (fun (w' : World) => w'.cell? ⟨w.heap.size, 0, none⟩ = some (.int .i64 x.o) ∧ w'.cell? ⟨w.heap.size, 1, none⟩ = some (.string x.s) ∧ w'.cell? ⟨w.heap.size, 2, none⟩ = some (.int .i64 x.n) ∧ w'.cell? ⟨w.heap.size, 3, none⟩ = some (.slice p m c)) (first | (refine box4.seen (F1.out _ ?_).1; (repeat (first | (with_reducible exact Below.refl _ _) | (with_reducible assumption) | (with_reducible apply bl_alloc) | (with_reducible apply bl_drewN) | (with_reducible apply bl_drew) | (with_reducible refine bl_set ?_ (by first | (simp; done) | (simp; omega)) _) | (with_reducible refine bl_call ?_ (by assumption)))); done) | (go_keep; done)) (first
          | (go_at_call 26; refine (rreplF_at HOWN.out HCX.out (L1.out _ (by (repeat (first | (with_reducible exact Below.refl _ _) | (with_reducible assumption) | (with_reducible apply bl_alloc) | (with_reducible apply bl_drewN) | (with_reducible apply bl_drew) | (with_reducible refine bl_set ?_ (by first | (simp; done) | (simp; omega)) _) | (with_reducible refine bl_call ?_ (by assumption)))))) (leaf_kin hi10) ?_).mono ?_; (focus (first | (exact s10) | (refine Nat.le_trans s10 ?_; simp; done))); rintro e w11 ⟨p11, m11, c11, rfl, hk11, hb11⟩; have s11 := (show Below w2.heap.size w2 w11 by (repeat (first | (with_reducible exact Below.refl _ _) | (with_reducible assumption) | (with_reducible apply bl_alloc) | (with_reducible apply bl_drewN) | (with_reducible apply bl_drew) | (with_reducible refine bl_set ?_ (by first | (simp; done) | (simp; omega)) _) | (with_reducible refine bl_call ?_ (by assumption))))).size; (first | (have Z := (Z.out w11 (by (repeat (first | (with_reducible exact Below.refl _ _) | (with_reducible assumption) | (with_reducible apply bl_alloc) | (with_reducible apply bl_drewN) | (with_reducible apply bl_drew) | (with_reducible refine bl_set ?_ (by first | (simp; done) | (simp; omega)) _) | (with_reducible refine bl_call ?_ (by assumption)))))).far) | (have Z := (Zb.on hb11 Zb.new).far) | skip); (try (obtain ⟨⟨z0, z1, z2, z3⟩, zf⟩ := (Z.out w11 (Below.refl _ _)).opened; have zf0 := zf 0; have zf1 := zf 1; have zf2 := zf 2; have zf3 := zf 3)))
          | (go_at_call 24; refine (word_at ⟨#[]⟩ _).mono ?_; rintro e w10 ⟨p10, m10, c10, rfl, hi10, hb10⟩; have t10 := hb10.size; (try simp only [drew_size, World.size_alloc] at t10); have s10 := (show Below w2.heap.size w2 w10 by (repeat (first | (with_reducible exact Below.refl _ _) | (with_reducible assumption) | (with_reducible apply bl_alloc) | (with_reducible apply bl_drewN) | (with_reducible apply bl_drew) | (with_reducible refine bl_set ?_ (by first | (simp; done) | (simp; omega)) _) | (with_reducible refine bl_call ?_ (by assumption))))).size; (first | (have Z := (Z.out w10 (by (repeat (first | (with_reducible exact Below.refl _ _) | (with_reducible assumption) | (with_reducible apply bl_alloc) | (with_reducible apply bl_drewN) | (with_reducible apply bl_drew) | (with_reducible refine bl_set ?_ (by first | (simp; done) | (simp; omega)) _) | (with_reducible refine bl_call ?_ (by assumption)))))).far) | (have Z := (Zb.on hb10 Zb.new).far) | skip)))
        all_goals
          go_wp2_with fail
          go_meet
          first
            | with_reducible exact ⟨_, _, _, _, rfl, var_new hk11.all, by (repeat (first | (with_reducible exact Below.refl _ _) | (with_reducible assumption) | (with_reducible apply bl_alloc) | (with_reducible apply bl_drewN) | (with_reducible apply bl_drew) | (with_reducible refine bl_set ?_ (by first | (simp; done) | (simp; omega)) _) | (with_reducible refine bl_call ?_ (by assumption))))⟩
            | with_reducible refine ⟨_, _, _, _, rfl, Zb.var (Z.out w11 (Below.refl _ _)) (hk11.mono ?_), by (repeat (first | (with_reducible exact Below.refl _ _) | (with_reducible assumption) | (with_reducible apply bl_alloc) | (with_reducible apply bl_drewN) | (with_reducible apply bl_drew) | (with_reducible refine bl_set ?_ (by first | (simp; done) | (simp; omega)) _) | (with_reducible refine bl_call ?_ (by assumption))))⟩
          all_goals
            intro b hb _ e
            subst e
            rcases hb with hb | hb <;> (try simp only [drew_size, World.size_alloc] at hb) <;> omega
      case rest =>
        obtain ⟨g3, p3, m3, c3, rfl, V3, hb3⟩ := hcut
        replace F1 := (F1.out _ hb3).far
        replace F2 := (F2.out _ hb3).far
        have F3 := V3.far
        replace HB : Hid (Below w.heap.size w wc) := Lib.hid (by have HBB := HB.out; (repeat (first | (with_reducible exact Below.refl _ _) | (with_reducible assumption) | (with_reducible apply bl_alloc) | (with_reducible apply bl_drewN) | (with_reducible apply bl_drew) | (with_reducible refine bl_set ?_ (by first | (simp; done) | (simp; omega)) _) | (with_reducible refine bl_call ?_ (by assumption)))))
        clear x0 x1 x2 x3 y0 y1 y2 y3
        clear V3 hb3 L1 HOWN
        obtain ⟨x0, x1, x2, x3⟩ := (F1.out wc (by (repeat (first | (with_reducible exact Below.refl _ _) | (with_reducible assumption) | (with_reducible apply bl_alloc) | (with_reducible apply bl_drewN) | (with_reducible apply bl_drew) | (with_reducible refine bl_set ?_ (by first | (simp; done) | (simp; omega)) _) | (with_reducible refine bl_call ?_ (by assumption)))))).1
        obtain ⟨y0, y1, y2, y3⟩ := (F2.out wc (by (repeat (first | (with_reducible exact Below.refl _ _) | (with_reducible assumption) | (with_reducible apply bl_alloc) | (with_reducible apply bl_drewN) | (with_reducible apply bl_drew) | (with_reducible refine bl_set ?_ (by first | (simp; done) | (simp; omega)) _) | (with_reducible refine bl_call ?_ (by assumption)))))).1
        go_wp2_with fail
        refine (repl_at HZ.out HCY.out HCX.out (F1.out _ (Below.refl _ _)).2 (F2.out _ (Below.refl _ _)).2).mono ?_
        rintro e w4 ⟨p4, m4, c4, rfl, hi4, hb4⟩
        have F4 := (var_new (c := c4) hi4).far
        have hq : Below wc.heap.size wc (w4.alloc (.cells #[.int .i64 z.o, .string z.s, .int .i64 z.n, .slice p4 m4 c4] 25)) := by (repeat (first | (with_reducible exact Below.refl _ _) | (with_reducible assumption) | (with_reducible apply bl_alloc) | (with_reducible apply bl_drewN) | (with_reducible apply bl_drew) | (with_reducible refine bl_set ?_ (by first | (simp; done) | (simp; omega)) _) | (with_reducible refine bl_call ?_ (by assumption))))
        replace F1 := (F1.out _ hq).far
        replace F2 := (F2.out _ hq).far
        replace F3 := (F3.out _ hq).far
        replace HB : Hid (Below w.heap.size w (w4.alloc (.cells #[.int .i64 z.o, .string z.s, .int .i64 z.n, .slice p4 m4 c4] 25))) := Lib.hid (by have HBB := HB.out; (repeat (first | (with_reducible exact Below.refl _ _) | (with_reducible assumption) | (with_reducible apply bl_alloc) | (with_reducible apply bl_drewN) | (with_reducible apply bl_drew) | (with_reducible refine bl_set ?_ (by first | (simp; done) | (simp; omega)) _) | (with_reducible refine bl_call ?_ (by assumption)))))
        clear x0 x1 x2 x3 y0 y1 y2 y3
        clear hq hb4 hi4
        obtain ⟨x0, x1, x2, x3⟩ := (F1.out (w4.alloc (.cells #[.int .i64 z.o, .string z.s, .int .i64 z.n, .slice p4 m4 c4] 25)) (by (repeat (first | (with_reducible exact Below.refl _ _) | (with_reducible assumption) | (with_reducible apply bl_alloc) | (with_reducible apply bl_drewN) | (with_reducible apply bl_drew) | (with_reducible refine bl_set ?_ (by first | (simp; done) | (simp; omega)) _) | (with_reducible refine bl_call ?_ (by assumption)))))).1
        obtain ⟨y0, y1, y2, y3⟩ := (F2.out (w4.alloc (.cells #[.int .i64 z.o, .string z.s, .int .i64 z.n, .slice p4 m4 c4] 25)) (by (repeat (first | (with_reducible exact Below.refl _ _) | (with_reducible assumption) | (with_reducible apply bl_alloc) | (with_reducible apply bl_drewN) | (with_reducible apply bl_drew) | (with_reducible refine bl_set ?_ (by first | (simp; done) | (simp; omega)) _) | (with_reducible refine bl_call ?_ (by assumption)))))).1
        obtain ⟨z0, z1, z2, z3⟩ := (F4.out _ (Below.refl _ _)).1
        obtain ⟨o0, o1, o2, o3⟩ := (F3.out _ (Below.refl _ _)).1
        go_upto_region 5 with (fail)
        generalize (w4.alloc (.cells #[.int .i64 z.o, .string z.s, .int .i64 z.n, .slice p4 m4 c4] 25)) = Q at *
        generalize w4.heap.size = g4 at *
        go_cut [42] (fun v wx => v = .bool false ∧ Below Q.heap.size Q wx)
        case first =>
          cases E2 with
          | false =>
            have q0 : ((kt : Int) == 0) = false := beq_eq_false_iff_ne.2 fun h => by
              have := HTIM.out (by omega)
              cases this
            clear HTIM H1 H2
            go_region_held3 (fun (w' : World) => (w'.cell? ⟨w.heap.size, 0, none⟩ = some (.int .i64 x.o) ∧ w'.cell? ⟨w.heap.size, 1, none⟩ = some (.string x.s) ∧ w'.cell? ⟨w.heap.size, 2, none⟩ = some (.int .i64 x.n) ∧ w'.cell? ⟨w.heap.size, 3, none⟩ = some (.slice p m c)) ∧ (w'.cell? ⟨(w.heap.size + 1), 0, none⟩ = some (.int .i64 y.o) ∧ w'.cell? ⟨(w.heap.size + 1), 1, none⟩ = some (.string y.s) ∧ w'.cell? ⟨(w.heap.size + 1), 2, none⟩ = some (.int .i64 y.n) ∧ w'.cell? ⟨(w.heap.size + 1), 3, none⟩ = some (.slice p2 m2 c2)) ∧ (w'.cell? ⟨g3, 0, none⟩ = some (.int .i64 own.o) ∧ w'.cell? ⟨g3, 1, none⟩ = some (.string own.s) ∧ w'.cell? ⟨g3, 2, none⟩ = some (.int .i64 own.n) ∧ w'.cell? ⟨g3, 3, none⟩ = some (.slice p3 m3 c3)) ∧ (w'.cell? ⟨g4, 0, none⟩ = some (.int .i64 z.o) ∧ w'.cell? ⟨g4, 1, none⟩ = some (.string z.s) ∧ w'.cell? ⟨g4, 2, none⟩ = some (.int .i64 z.n) ∧ w'.cell? ⟨g4, 3, none⟩ = some (.slice p4 m4 c4))) (first | (refine keep16b (F1.out _ ?_).1 (F2.out _ ?_).1 (F3.out _ ?_).1 (F4.out _ ?_).1 <;> ((repeat (first | (with_reducible exact Below.refl _ _) | (with_reducible assumption) | (with_reducible apply bl_alloc) | (with_reducible apply bl_drewN) | (with_reducible apply bl_drew) | (with_reducible refine bl_set ?_ (by first | (simp; done) | (simp; omega)) _) | (with_reducible refine bl_call ?_ (by assumption)))); done)) | (go_keep; done)) (first
              | (go_at_call 26; refine (rrepl_at HZ.out HCX.out (F1.out _ (by (repeat (first | (with_reducible exact Below.refl _ _) | (with_reducible assumption) | (with_reducible apply bl_alloc) | (with_reducible apply bl_drewN) | (with_reducible apply bl_drew) | (with_reducible refine bl_set ?_ (by first | (simp; done) | (simp; omega)) _) | (with_reducible refine bl_call ?_ (by assumption)))))).2 (F2.out _ (by (repeat (first | (with_reducible exact Below.refl _ _) | (with_reducible assumption) | (with_reducible apply bl_alloc) | (with_reducible apply bl_drewN) | (with_reducible apply bl_drew) | (with_reducible refine bl_set ?_ (by first | (simp; done) | (simp; omega)) _) | (with_reducible refine bl_call ?_ (by assumption)))))).2).mono ?_; rintro e r1 ⟨p5, m5, c5, rfl, hi5, hr1⟩)
              | (go_at_call 20; refine (same_at (same_self z) (F4.out _ (by (repeat (first | (with_reducible exact Below.refl _ _) | (with_reducible assumption) | (with_reducible apply bl_alloc) | (with_reducible apply bl_drewN) | (with_reducible apply bl_drew) | (with_reducible refine bl_set ?_ (by first | (simp; done) | (simp; omega)) _) | (with_reducible refine bl_call ?_ (by assumption)))))).2 (hi5.on (by (repeat (first | (with_reducible exact Below.refl _ _) | (with_reducible assumption) | (with_reducible apply bl_alloc) | (with_reducible apply bl_drewN) | (with_reducible apply bl_drew) | (with_reducible refine bl_set ?_ (by first | (simp; done) | (simp; omega)) _) | (with_reducible refine bl_call ?_ (by assumption))))))).mono ?_; rintro e r2 ⟨rfl, hr2⟩)
              | (go_at_call 21; refine (rsame_at HE2.out (F1.out _ (by (repeat (first | (with_reducible exact Below.refl _ _) | (with_reducible assumption) | (with_reducible apply bl_alloc) | (with_reducible apply bl_drewN) | (with_reducible apply bl_drew) | (with_reducible refine bl_set ?_ (by first | (simp; done) | (simp; omega)) _) | (with_reducible refine bl_call ?_ (by assumption)))))).2 (F3.out _ (by (repeat (first | (with_reducible exact Below.refl _ _) | (with_reducible assumption) | (with_reducible apply bl_alloc) | (with_reducible apply bl_drewN) | (with_reducible apply bl_drew) | (with_reducible refine bl_set ?_ (by first | (simp; done) | (simp; omega)) _) | (with_reducible refine bl_call ?_ (by assumption)))))).2).mono ?_; rintro e r3 ⟨rfl, hr3⟩)
              | (go_at_call 28; refine (times_at HKT.out HCX.out (F1.out _ (by (repeat (first | (with_reducible exact Below.refl _ _) | (with_reducible assumption) | (with_reducible apply bl_alloc) | (with_reducible apply bl_drewN) | (with_reducible apply bl_drew) | (with_reducible refine bl_set ?_ (by first | (simp; done) | (simp; omega)) _) | (with_reducible refine bl_call ?_ (by assumption)))))).2).mono ?_; rintro e r4 ⟨rfl, hr4⟩))
            all_goals
              go_wp2_with fail
              go_meet
              exact ⟨rfl, by (repeat (first | (with_reducible exact Below.refl _ _) | (with_reducible assumption) | (with_reducible apply bl_alloc) | (with_reducible apply bl_drewN) | (with_reducible apply bl_drew) | (with_reducible refine bl_set ?_ (by first | (simp; done) | (simp; omega)) _) | (with_reducible refine bl_call ?_ (by assumption))))⟩
          | true =>
            clear HTIM H1 H2
            refine wp_region_held_drew (S := (fun (w' : World) => (w'.cell? ⟨w.heap.size, 0, none⟩ = some (.int .i64 x.o) ∧ w'.cell? ⟨w.heap.size, 1, none⟩ = some (.string x.s) ∧ w'.cell? ⟨w.heap.size, 2, none⟩ = some (.int .i64 x.n) ∧ w'.cell? ⟨w.heap.size, 3, none⟩ = some (.slice p m c)) ∧ (w'.cell? ⟨(w.heap.size + 1), 0, none⟩ = some (.int .i64 y.o) ∧ w'.cell? ⟨(w.heap.size + 1), 1, none⟩ = some (.string y.s) ∧ w'.cell? ⟨(w.heap.size + 1), 2, none⟩ = some (.int .i64 y.n) ∧ w'.cell? ⟨(w.heap.size + 1), 3, none⟩ = some (.slice p2 m2 c2)) ∧ (w'.cell? ⟨g3, 0, none⟩ = some (.int .i64 own.o) ∧ w'.cell? ⟨g3, 1, none⟩ = some (.string own.s) ∧ w'.cell? ⟨g3, 2, none⟩ = some (.int .i64 own.n) ∧ w'.cell? ⟨g3, 3, none⟩ = some (.slice p3 m3 c3)) ∧ (w'.cell? ⟨g4, 0, none⟩ = some (.int .i64 z.o) ∧ w'.cell? ⟨g4, 1, none⟩ = some (.string z.s) ∧ w'.cell? ⟨g4, 2, none⟩ = some (.int .i64 z.n) ∧ w'.cell? ⟨g4, 3, none⟩ = some (.slice p4 m4 c4)))) (by kernel_rfl) (show ((fun (w' : World) => (w'.cell? ⟨w.heap.size, 0, none⟩ = some (.int .i64 x.o) ∧ w'.cell? ⟨w.heap.size, 1, none⟩ = some (.string x.s) ∧ w'.cell? ⟨w.heap.size, 2, none⟩ = some (.int .i64 x.n) ∧ w'.cell? ⟨w.heap.size, 3, none⟩ = some (.slice p m c)) ∧ (w'.cell? ⟨(w.heap.size + 1), 0, none⟩ = some (.int .i64 y.o) ∧ w'.cell? ⟨(w.heap.size + 1), 1, none⟩ = some (.string y.s) ∧ w'.cell? ⟨(w.heap.size + 1), 2, none⟩ = some (.int .i64 y.n) ∧ w'.cell? ⟨(w.heap.size + 1), 3, none⟩ = some (.slice p2 m2 c2)) ∧ (w'.cell? ⟨g3, 0, none⟩ = some (.int .i64 own.o) ∧ w'.cell? ⟨g3, 1, none⟩ = some (.string own.s) ∧ w'.cell? ⟨g3, 2, none⟩ = some (.int .i64 own.n) ∧ w'.cell? ⟨g3, 3, none⟩ = some (.slice p3 m3 c3)) ∧ (w'.cell? ⟨g4, 0, none⟩ = some (.int .i64 z.o) ∧ w'.cell? ⟨g4, 1, none⟩ = some (.string z.s) ∧ w'.cell? ⟨g4, 2, none⟩ = some (.int .i64 z.n) ∧ w'.cell? ⟨g4, 3, none⟩ = some (.slice p4 m4 c4)))) _ from (keep16b (F1.out _ (by (repeat (first | (with_reducible exact Below.refl _ _) | (with_reducible assumption) | (with_reducible apply bl_alloc) | (with_reducible apply bl_drewN) | (with_reducible apply bl_drew) | (with_reducible refine bl_set ?_ (by first | (simp; done) | (simp; omega)) _) | (with_reducible refine bl_call ?_ (by assumption)))))).1 (F2.out _ (by (repeat (first | (with_reducible exact Below.refl _ _) | (with_reducible assumption) | (with_reducible apply bl_alloc) | (with_reducible apply bl_drewN) | (with_reducible apply bl_drew) | (with_reducible refine bl_set ?_ (by first | (simp; done) | (simp; omega)) _) | (with_reducible refine bl_call ?_ (by assumption)))))).1 (F3.out _ (by (repeat (first | (with_reducible exact Below.refl _ _) | (with_reducible assumption) | (with_reducible apply bl_alloc) | (with_reducible apply bl_drewN) | (with_reducible apply bl_drew) | (with_reducible refine bl_set ?_ (by first | (simp; done) | (simp; omega)) _) | (with_reducible refine bl_call ?_ (by assumption)))))).1 (F4.out _ (by (repeat (first | (with_reducible exact Below.refl _ _) | (with_reducible assumption) | (with_reducible apply bl_alloc) | (with_reducible apply bl_drewN) | (with_reducible apply bl_drew) | (with_reducible refine bl_set ?_ (by first | (simp; done) | (simp; omega)) _) | (with_reducible refine bl_call ?_ (by assumption)))))).1)) (fun hHeld => ?_)
            refine wpAnyH_take (i := 0) (oi := { dst := some 25, op := Op.load 25 (Operand.tmp 8), type := 25, pos := "law.go:120", after := #[], guard := none }) (v := ?_) rfl (by kernel_rfl) (by kernel_rfl) (by kernel_rfl) (fun _ _ _ h => h) (Or.inl ⟨by rfl, ?_⟩) (by assumption) ?_
            rotate_left 1
            · intro w' hS'
              try dsimp only at hS'
              first | (go_simp; done) | (go_simp; with_reducible rfl)
            try simp only [Act.put, List.setIfInBounds_toArray, List.set_cons_zero, List.set_cons_succ]
            refine wpAnyH_take (i := 1) (oi := { dst := some 26, op := Op.load 25 (Operand.tmp 3), type := 25, pos := "law.go:120", after := #[], guard := none }) (v := ?_) rfl (by kernel_rfl) (by kernel_rfl) (by kernel_rfl) (fun _ _ _ h => h) (Or.inl ⟨by rfl, ?_⟩) (by assumption) ?_
            rotate_left 1
            · intro w' hS'
              try dsimp only at hS'
              first | (go_simp; done) | (go_simp; with_reducible rfl)
            try simp only [Act.put, List.setIfInBounds_toArray, List.set_cons_zero, List.set_cons_succ]
            refine wpAnyH_take (i := 2) (oi := { dst := some 27, op := Op.move (Operand.tmp 1), type := 9, pos := "law.go:120", after := #[], guard := none }) (v := ?_) rfl (by kernel_rfl) (by kernel_rfl) (by kernel_rfl) (fun _ _ _ h => h) (Or.inl ⟨by rfl, ?_⟩) (by assumption) ?_
            rotate_left 1
            · intro w' hS'
              try dsimp only at hS'
              first | (go_simp; done) | (go_simp; with_reducible rfl)
            try simp only [Act.put, List.setIfInBounds_toArray, List.set_cons_zero, List.set_cons_succ]
            refine wpAnyH_take (i := 3) (oi := { dst := some 28, op := Op.load 25 (Operand.tmp 5), type := 25, pos := "law.go:120", after := #[], guard := none }) (v := ?_) rfl (by kernel_rfl) (by kernel_rfl) (by kernel_rfl) (fun _ _ _ h => h) (Or.inl ⟨by rfl, ?_⟩) (by assumption) ?_
            rotate_left 1
            · intro w' hS'
              try dsimp only at hS'
              first | (go_simp; done) | (go_simp; with_reducible rfl)
            try simp only [Act.put, List.setIfInBounds_toArray, List.set_cons_zero, List.set_cons_succ]
            refine wpAnyH_ready (rs := [4]) (by kernel_rfl) (by simp) ?_
            refine AllReadyH.cons (o := { dst := some 29, op := Op.call { callee := Callee.value (Operand.func 26), args := #[Operand.tmp 26, Operand.tmp 27, Operand.tmp 28], argTypes := #[25, 9, 25] }, type := 25, pos := "law.go:120", after := #[{ on := 1, ground := Ground.data }, { on := 2, ground := Ground.data }, { on := 3, ground := Ground.data }], guard := none }) rfl (fun K hK => ?_) ?_
            rotate_left 1
            · exact AllReadyH.nil
            go_simp
            refine (rrepl_at HZ.out HCX.out (F1.out _ (by (repeat (first | (with_reducible exact Below.refl _ _) | (with_reducible assumption) | (with_reducible apply bl_alloc) | (with_reducible apply bl_drewN) | (with_reducible apply bl_drew) | (with_reducible refine bl_set ?_ (by first | (simp; done) | (simp; omega)) _) | (with_reducible refine bl_call ?_ (by assumption)))))).2 (F2.out _ (by (repeat (first | (with_reducible exact Below.refl _ _) | (with_reducible assumption) | (with_reducible apply bl_alloc) | (with_reducible apply bl_drewN) | (with_reducible apply bl_drew) | (with_reducible refine bl_set ?_ (by first | (simp; done) | (simp; omega)) _) | (with_reducible refine bl_call ?_ (by assumption)))))).2).mono ?_
            rintro e r1 ⟨p5, m5, c5, rfl, hi5, hr1⟩
            clear hHeld
            refine hK.out _ _ (show ((fun (w' : World) => (w'.cell? ⟨w.heap.size, 0, none⟩ = some (.int .i64 x.o) ∧ w'.cell? ⟨w.heap.size, 1, none⟩ = some (.string x.s) ∧ w'.cell? ⟨w.heap.size, 2, none⟩ = some (.int .i64 x.n) ∧ w'.cell? ⟨w.heap.size, 3, none⟩ = some (.slice p m c)) ∧ (w'.cell? ⟨(w.heap.size + 1), 0, none⟩ = some (.int .i64 y.o) ∧ w'.cell? ⟨(w.heap.size + 1), 1, none⟩ = some (.string y.s) ∧ w'.cell? ⟨(w.heap.size + 1), 2, none⟩ = some (.int .i64 y.n) ∧ w'.cell? ⟨(w.heap.size + 1), 3, none⟩ = some (.slice p2 m2 c2)) ∧ (w'.cell? ⟨g3, 0, none⟩ = some (.int .i64 own.o) ∧ w'.cell? ⟨g3, 1, none⟩ = some (.string own.s) ∧ w'.cell? ⟨g3, 2, none⟩ = some (.int .i64 own.n) ∧ w'.cell? ⟨g3, 3, none⟩ = some (.slice p3 m3 c3)) ∧ (w'.cell? ⟨g4, 0, none⟩ = some (.int .i64 z.o) ∧ w'.cell? ⟨g4, 1, none⟩ = some (.string z.s) ∧ w'.cell? ⟨g4, 2, none⟩ = some (.int .i64 z.n) ∧ w'.cell? ⟨g4, 3, none⟩ = some (.slice p4 m4 c4)))) _ from (keep16b (F1.out _ (by (repeat (first | (with_reducible exact Below.refl _ _) | (with_reducible assumption) | (with_reducible apply bl_alloc) | (with_reducible apply bl_drewN) | (with_reducible apply bl_drew) | (with_reducible refine bl_set ?_ (by first | (simp; done) | (simp; omega)) _) | (with_reducible refine bl_call ?_ (by assumption)))))).1 (F2.out _ (by (repeat (first | (with_reducible exact Below.refl _ _) | (with_reducible assumption) | (with_reducible apply bl_alloc) | (with_reducible apply bl_drewN) | (with_reducible apply bl_drew) | (with_reducible refine bl_set ?_ (by first | (simp; done) | (simp; omega)) _) | (with_reducible refine bl_call ?_ (by assumption)))))).1 (F3.out _ (by (repeat (first | (with_reducible exact Below.refl _ _) | (with_reducible assumption) | (with_reducible apply bl_alloc) | (with_reducible apply bl_drewN) | (with_reducible apply bl_drew) | (with_reducible refine bl_set ?_ (by first | (simp; done) | (simp; omega)) _) | (with_reducible refine bl_call ?_ (by assumption)))))).1 (F4.out _ (by (repeat (first | (with_reducible exact Below.refl _ _) | (with_reducible assumption) | (with_reducible apply bl_alloc) | (with_reducible apply bl_drewN) | (with_reducible apply bl_drew) | (with_reducible refine bl_set ?_ (by first | (simp; done) | (simp; omega)) _) | (with_reducible refine bl_call ?_ (by assumption)))))).1)) (fun hHeld => ?_)
            clear hK K
            (try simp only [Act.put, List.setIfInBounds_toArray, List.set_cons_zero, List.set_cons_succ])
            refine wpAnyH_ready (rs := [5]) (by kernel_rfl) (by simp) ?_
            refine AllReadyH.cons (o := { dst := some 30, op := Op.call { callee := Callee.value (Operand.func 20), args := #[Operand.tmp 25, Operand.tmp 29], argTypes := #[25, 25] }, type := 4, pos := "law.go:120", after := #[{ on := 0, ground := Ground.data }, { on := 4, ground := Ground.data }, { on := 4, ground := Ground.chain }], guard := none }) rfl (fun K hK => ?_) ?_
            rotate_left 1
            · exact AllReadyH.nil
            go_simp
            refine (same_at (same_self z) (F4.out _ (by (repeat (first | (with_reducible exact Below.refl _ _) | (with_reducible assumption) | (with_reducible apply bl_alloc) | (with_reducible apply bl_drewN) | (with_reducible apply bl_drew) | (with_reducible refine bl_set ?_ (by first | (simp; done) | (simp; omega)) _) | (with_reducible refine bl_call ?_ (by assumption)))))).2 (hi5.on (by (repeat (first | (with_reducible exact Below.refl _ _) | (with_reducible assumption) | (with_reducible apply bl_alloc) | (with_reducible apply bl_drewN) | (with_reducible apply bl_drew) | (with_reducible refine bl_set ?_ (by first | (simp; done) | (simp; omega)) _) | (with_reducible refine bl_call ?_ (by assumption))))))).mono ?_
            rintro e r2 ⟨rfl, hr2⟩
            clear hHeld
            refine hK.out _ _ (show ((fun (w' : World) => (w'.cell? ⟨w.heap.size, 0, none⟩ = some (.int .i64 x.o) ∧ w'.cell? ⟨w.heap.size, 1, none⟩ = some (.string x.s) ∧ w'.cell? ⟨w.heap.size, 2, none⟩ = some (.int .i64 x.n) ∧ w'.cell? ⟨w.heap.size, 3, none⟩ = some (.slice p m c)) ∧ (w'.cell? ⟨(w.heap.size + 1), 0, none⟩ = some (.int .i64 y.o) ∧ w'.cell? ⟨(w.heap.size + 1), 1, none⟩ = some (.string y.s) ∧ w'.cell? ⟨(w.heap.size + 1), 2, none⟩ = some (.int .i64 y.n) ∧ w'.cell? ⟨(w.heap.size + 1), 3, none⟩ = some (.slice p2 m2 c2)) ∧ (w'.cell? ⟨g3, 0, none⟩ = some (.int .i64 own.o) ∧ w'.cell? ⟨g3, 1, none⟩ = some (.string own.s) ∧ w'.cell? ⟨g3, 2, none⟩ = some (.int .i64 own.n) ∧ w'.cell? ⟨g3, 3, none⟩ = some (.slice p3 m3 c3)) ∧ (w'.cell? ⟨g4, 0, none⟩ = some (.int .i64 z.o) ∧ w'.cell? ⟨g4, 1, none⟩ = some (.string z.s) ∧ w'.cell? ⟨g4, 2, none⟩ = some (.int .i64 z.n) ∧ w'.cell? ⟨g4, 3, none⟩ = some (.slice p4 m4 c4)))) _ from (keep16b (F1.out _ (by (repeat (first | (with_reducible exact Below.refl _ _) | (with_reducible assumption) | (with_reducible apply bl_alloc) | (with_reducible apply bl_drewN) | (with_reducible apply bl_drew) | (with_reducible refine bl_set ?_ (by first | (simp; done) | (simp; omega)) _) | (with_reducible refine bl_call ?_ (by assumption)))))).1 (F2.out _ (by (repeat (first | (with_reducible exact Below.refl _ _) | (with_reducible assumption) | (with_reducible apply bl_alloc) | (with_reducible apply bl_drewN) | (with_reducible apply bl_drew) | (with_reducible refine bl_set ?_ (by first | (simp; done) | (simp; omega)) _) | (with_reducible refine bl_call ?_ (by assumption)))))).1 (F3.out _ (by (repeat (first | (with_reducible exact Below.refl _ _) | (with_reducible assumption) | (with_reducible apply bl_alloc) | (with_reducible apply bl_drewN) | (with_reducible apply bl_drew) | (with_reducible refine bl_set ?_ (by first | (simp; done) | (simp; omega)) _) | (with_reducible refine bl_call ?_ (by assumption)))))).1 (F4.out _ (by (repeat (first | (with_reducible exact Below.refl _ _) | (with_reducible assumption) | (with_reducible apply bl_alloc) | (with_reducible apply bl_drewN) | (with_reducible apply bl_drew) | (with_reducible refine bl_set ?_ (by first | (simp; done) | (simp; omega)) _) | (with_reducible refine bl_call ?_ (by assumption)))))).1)) (fun hHeld => ?_)
            clear hK K
            (try simp only [Act.put, List.setIfInBounds_toArray, List.set_cons_zero, List.set_cons_succ])
            refine wpAnyH_take (i := 6) (oi := { dst := some 31, op := Op.unOp UnOp.not 4 (Operand.tmp 30), type := 4, pos := "law.go:120", after := #[{ on := 5, ground := Ground.data }], guard := none }) (v := ?_) rfl (by kernel_rfl) (by kernel_rfl) (by kernel_rfl) (fun _ _ _ h => h) (Or.inl ⟨by rfl, ?_⟩) (by assumption) ?_
            rotate_left 1
            · intro w' hS'
              try dsimp only at hS'
              first | (go_simp; done) | (go_simp; with_reducible rfl)
            try simp only [Act.put, List.setIfInBounds_toArray, List.set_cons_zero, List.set_cons_succ]
            refine wpAnyH_take (i := 7) (oi := { dst := some 32, op := Op.move (Operand.tmp 31), type := 4, pos := "law.go:120", after := #[{ on := 6, ground := Ground.data }, { on := 5, ground := Ground.chain }], guard := none }) (v := ?_) rfl (by kernel_rfl) (by kernel_rfl) (by kernel_rfl) (fun _ _ _ h => h) (Or.inl ⟨by rfl, ?_⟩) (by assumption) ?_
            rotate_left 1
            · intro w' hS'
              try dsimp only at hS'
              first | (go_simp; done) | (go_simp; with_reducible rfl)
            try simp only [Act.put, List.setIfInBounds_toArray, List.set_cons_zero, List.set_cons_succ]
            refine wpAnyH_take (i := 8) (oi := { dst := some 33, op := Op.load 25 (Operand.tmp 3), type := 25, pos := "law.go:120", after := #[{ on := 7, ground := Ground.guard }], guard := some (7, false) }) (v := ?_) rfl (by kernel_rfl) (by kernel_rfl) (by kernel_rfl) (fun _ _ _ h => h) (Or.inl ⟨by rfl, ?_⟩) (by assumption) ?_
            rotate_left 1
            · intro w' hS'
              try dsimp only at hS'
              first | (go_simp; done) | (go_simp; with_reducible rfl)
            try simp only [Act.put, List.setIfInBounds_toArray, List.set_cons_zero, List.set_cons_succ]
            refine wpAnyH_take (i := 9) (oi := { dst := some 34, op := Op.load 25 (Operand.tmp 7), type := 25, pos := "law.go:120", after := #[{ on := 7, ground := Ground.guard }], guard := some (7, false) }) (v := ?_) rfl (by kernel_rfl) (by kernel_rfl) (by kernel_rfl) (fun _ _ _ h => h) (Or.inl ⟨by rfl, ?_⟩) (by assumption) ?_
            rotate_left 1
            · intro w' hS'
              try dsimp only at hS'
              first | (go_simp; done) | (go_simp; with_reducible rfl)
            try simp only [Act.put, List.setIfInBounds_toArray, List.set_cons_zero, List.set_cons_succ]
            refine wpAnyH_ready (rs := [10]) (by kernel_rfl) (by simp) ?_
            refine AllReadyH.cons (o := { dst := some 35, op := Op.call { callee := Callee.value (Operand.func 21), args := #[Operand.tmp 33, Operand.tmp 34], argTypes := #[25, 25] }, type := 4, pos := "law.go:120", after := #[{ on := 8, ground := Ground.data }, { on := 9, ground := Ground.data }, { on := 7, ground := Ground.chain }, { on := 7, ground := Ground.guard }], guard := some (7, false) }) rfl (fun K hK => ?_) ?_
            rotate_left 1
            · exact AllReadyH.nil
            go_simp
            refine (rsame_at HE2.out (F1.out _ (by (repeat (first | (with_reducible exact Below.refl _ _) | (with_reducible assumption) | (with_reducible apply bl_alloc) | (with_reducible apply bl_drewN) | (with_reducible apply bl_drew) | (with_reducible refine bl_set ?_ (by first | (simp; done) | (simp; omega)) _) | (with_reducible refine bl_call ?_ (by assumption)))))).2 (F3.out _ (by (repeat (first | (with_reducible exact Below.refl _ _) | (with_reducible assumption) | (with_reducible apply bl_alloc) | (with_reducible apply bl_drewN) | (with_reducible apply bl_drew) | (with_reducible refine bl_set ?_ (by first | (simp; done) | (simp; omega)) _) | (with_reducible refine bl_call ?_ (by assumption)))))).2).mono ?_
            rintro e r3 ⟨rfl, hr3⟩
            clear hHeld
            refine hK.out _ _ (show ((fun (w' : World) => (w'.cell? ⟨w.heap.size, 0, none⟩ = some (.int .i64 x.o) ∧ w'.cell? ⟨w.heap.size, 1, none⟩ = some (.string x.s) ∧ w'.cell? ⟨w.heap.size, 2, none⟩ = some (.int .i64 x.n) ∧ w'.cell? ⟨w.heap.size, 3, none⟩ = some (.slice p m c)) ∧ (w'.cell? ⟨(w.heap.size + 1), 0, none⟩ = some (.int .i64 y.o) ∧ w'.cell? ⟨(w.heap.size + 1), 1, none⟩ = some (.string y.s) ∧ w'.cell? ⟨(w.heap.size + 1), 2, none⟩ = some (.int .i64 y.n) ∧ w'.cell? ⟨(w.heap.size + 1), 3, none⟩ = some (.slice p2 m2 c2)) ∧ (w'.cell? ⟨g3, 0, none⟩ = some (.int .i64 own.o) ∧ w'.cell? ⟨g3, 1, none⟩ = some (.string own.s) ∧ w'.cell? ⟨g3, 2, none⟩ = some (.int .i64 own.n) ∧ w'.cell? ⟨g3, 3, none⟩ = some (.slice p3 m3 c3)) ∧ (w'.cell? ⟨g4, 0, none⟩ = some (.int .i64 z.o) ∧ w'.cell? ⟨g4, 1, none⟩ = some (.string z.s) ∧ w'.cell? ⟨g4, 2, none⟩ = some (.int .i64 z.n) ∧ w'.cell? ⟨g4, 3, none⟩ = some (.slice p4 m4 c4)))) _ from (keep16b (F1.out _ (by (repeat (first | (with_reducible exact Below.refl _ _) | (with_reducible assumption) | (with_reducible apply bl_alloc) | (with_reducible apply bl_drewN) | (with_reducible apply bl_drew) | (with_reducible refine bl_set ?_ (by first | (simp; done) | (simp; omega)) _) | (with_reducible refine bl_call ?_ (by assumption)))))).1 (F2.out _ (by (repeat (first | (with_reducible exact Below.refl _ _) | (with_reducible assumption) | (with_reducible apply bl_alloc) | (with_reducible apply bl_drewN) | (with_reducible apply bl_drew) | (with_reducible refine bl_set ?_ (by first | (simp; done) | (simp; omega)) _) | (with_reducible refine bl_call ?_ (by assumption)))))).1 (F3.out _ (by (repeat (first | (with_reducible exact Below.refl _ _) | (with_reducible assumption) | (with_reducible apply bl_alloc) | (with_reducible apply bl_drewN) | (with_reducible apply bl_drew) | (with_reducible refine bl_set ?_ (by first | (simp; done) | (simp; omega)) _) | (with_reducible refine bl_call ?_ (by assumption)))))).1 (F4.out _ (by (repeat (first | (with_reducible exact Below.refl _ _) | (with_reducible assumption) | (with_reducible apply bl_alloc) | (with_reducible apply bl_drewN) | (with_reducible apply bl_drew) | (with_reducible refine bl_set ?_ (by first | (simp; done) | (simp; omega)) _) | (with_reducible refine bl_call ?_ (by assumption)))))).1)) (fun hHeld => ?_)
            clear hK K
            (try simp only [Act.put, List.setIfInBounds_toArray, List.set_cons_zero, List.set_cons_succ])
            refine wpAnyH_take (i := 11) (oi := { dst := some 36, op := Op.unOp UnOp.not 4 (Operand.tmp 35), type := 4, pos := "law.go:120", after := #[{ on := 10, ground := Ground.data }, { on := 7, ground := Ground.guard }], guard := some (7, false) }) (v := ?_) rfl (by kernel_rfl) (by kernel_rfl) (by kernel_rfl) (fun _ _ _ h => h) (Or.inl ⟨by rfl, ?_⟩) (by assumption) ?_
            rotate_left 1
            · intro w' hS'
              try dsimp only at hS'
              first | (go_simp; done) | (go_simp; with_reducible rfl)
            try simp only [Act.put, List.setIfInBounds_toArray, List.set_cons_zero, List.set_cons_succ]
            refine wpAnyH_take (i := 12) (oi := { dst := some 37, op := Op.move (Operand.tmp 36), type := 4, pos := "law.go:120", after := #[{ on := 11, ground := Ground.data }, { on := 10, ground := Ground.chain }, { on := 7, ground := Ground.guard }], guard := some (7, false) }) (v := ?_) rfl (by kernel_rfl) (by kernel_rfl) (by kernel_rfl) (fun _ _ _ h => h) (Or.inl ⟨by rfl, ?_⟩) (by assumption) ?_
            rotate_left 1
            · intro w' hS'
              try dsimp only at hS'
              first | (go_simp; done) | (go_simp; with_reducible rfl)
            try simp only [Act.put, List.setIfInBounds_toArray, List.set_cons_zero, List.set_cons_succ]
            refine wpAnyH_take (i := 13) (oi := { dst := some 38, op := Op.load 25 (Operand.tmp 3), type := 25, pos := "law.go:120", after := #[{ on := 12, ground := Ground.guard }], guard := some (12, true) }) (v := undef) rfl (by kernel_rfl) (by kernel_rfl) (by kernel_rfl) (fun _ _ _ h => h) (Or.inr ⟨by kernel_rfl, rfl⟩) (by assumption) ?_
            try simp only [Act.put, List.setIfInBounds_toArray, List.set_cons_zero, List.set_cons_succ]
            refine wpAnyH_take (i := 14) (oi := { dst := some 39, op := Op.call { callee := Callee.value (Operand.func 28), args := #[Operand.tmp 38, Operand.const (Value.string { data := #[] })], argTypes := #[25, 9] }, type := 3, pos := "law.go:120", after := #[{ on := 13, ground := Ground.data }, { on := 12, ground := Ground.chain }, { on := 12, ground := Ground.guard }], guard := some (12, true) }) (v := undef) rfl (by kernel_rfl) (by kernel_rfl) (by kernel_rfl) (fun _ _ _ h => h) (Or.inr ⟨by kernel_rfl, rfl⟩) (by assumption) ?_
            try simp only [Act.put, List.setIfInBounds_toArray, List.set_cons_zero, List.set_cons_succ]
            refine wpAnyH_take (i := 15) (oi := { dst := some 40, op := Op.binOp BinOp.eql 3 (Operand.tmp 39) (Operand.const (Value.int IntKind.i64 0)) 3, type := 4, pos := "law.go:120", after := #[{ on := 14, ground := Ground.data }, { on := 12, ground := Ground.guard }], guard := some (12, true) }) (v := undef) rfl (by kernel_rfl) (by kernel_rfl) (by kernel_rfl) (fun _ _ _ h => h) (Or.inr ⟨by kernel_rfl, rfl⟩) (by assumption) ?_
            try simp only [Act.put, List.setIfInBounds_toArray, List.set_cons_zero, List.set_cons_succ]
            refine wpAnyH_take (i := 16) (oi := { dst := some 41, op := Op.pick (Operand.tmp 37) (Operand.tmp 40) (Operand.const (Value.bool false)), type := 4, pos := "law.go:120", after := #[{ on := 12, ground := Ground.data }, { on := 15, ground := Ground.data }, { on := 7, ground := Ground.guard }], guard := some (7, false) }) (v := ?_) rfl (by kernel_rfl) (by kernel_rfl) (by kernel_rfl) (fun _ _ _ h => h) (Or.inl ⟨by rfl, ?_⟩) (by assumption) ?_
            rotate_left 1
            · intro w' hS'
              try dsimp only at hS'
              first | (go_simp; done) | (go_simp; with_reducible rfl)
            try simp only [Act.put, List.setIfInBounds_toArray, List.set_cons_zero, List.set_cons_succ]
            refine wpAnyH_take (i := 17) (oi := { dst := some 42, op := Op.pick (Operand.tmp 32) (Operand.const (Value.bool true)) (Operand.tmp 41), type := 4, pos := "law.go:120", after := #[{ on := 7, ground := Ground.data }, { on := 16, ground := Ground.data }], guard := none }) (v := ?_) rfl (by kernel_rfl) (by kernel_rfl) (by kernel_rfl) (fun _ _ _ h => h) (Or.inl ⟨by rfl, ?_⟩) (by assumption) ?_
            rotate_left 1
            · intro w' hS'
              try dsimp only at hS'
              first | (go_simp; done) | (go_simp; with_reducible rfl)
            try simp only [Act.put, List.setIfInBounds_toArray, List.set_cons_zero, List.set_cons_succ]
            refine wpAnyH_done (by kernel_rfl) ?_ _
            clear hHeld
            go_wp2_with fail
            go_meet
            exact ⟨rfl, by (repeat (first | (with_reducible exact Below.refl _ _) | (with_reducible assumption) | (with_reducible apply bl_alloc) | (with_reducible apply bl_drewN) | (with_reducible apply bl_drew) | (with_reducible refine bl_set ?_ (by first | (simp; done) | (simp; omega)) _) | (with_reducible refine bl_call ?_ (by assumption))))⟩
        case rest =>
          obtain ⟨rfl, hb5⟩ := hcut
          replace F1 := (F1.out _ hb5).far
          replace HB : Hid (Below w.heap.size w wc) := Lib.hid (by have HBB := HB.out; (repeat (first | (with_reducible exact Below.refl _ _) | (with_reducible assumption) | (with_reducible apply bl_alloc) | (with_reducible apply bl_drewN) | (with_reducible apply bl_drew) | (with_reducible refine bl_set ?_ (by first | (simp; done) | (simp; omega)) _) | (with_reducible refine bl_call ?_ (by assumption)))))
          clear x0 x1 x2 x3 y0 y1 y2 y3
          clear z0 z1 z2 z3 o0 o1 o2 o3 hb5 F2 F3 F4 HZ HTIM HKT HE2
          obtain ⟨x0, x1, x2, x3⟩ := (F1.out _ (Below.refl _ _)).1
          go_upto_region 7 with (fail)
          by_cases h0 : v1 = 0
          · subst h0
            replace H2 := Lib.hid (H2.out rfl)
            go_region_held3 (fun (w' : World) => w'.cell? ⟨w.heap.size, 0, none⟩ = some (.int .i64 x.o) ∧ w'.cell? ⟨w.heap.size, 1, none⟩ = some (.string x.s) ∧ w'.cell? ⟨w.heap.size, 2, none⟩ = some (.int .i64 x.n) ∧ w'.cell? ⟨w.heap.size, 3, none⟩ = some (.slice p m c)) (first | (refine box4.seen (F1.out _ ?_).1; (repeat (first | (with_reducible exact Below.refl _ _) | (with_reducible assumption) | (with_reducible apply bl_alloc) | (with_reducible apply bl_drewN) | (with_reducible apply bl_drew) | (with_reducible refine bl_set ?_ (by first | (simp; done) | (simp; omega)) _) | (with_reducible refine bl_call ?_ (by assumption)))); done) | (go_keep; done)) (first
              | (go_at_call 12; refine (check_at H1.out HSX.out HCX.out (F1.out _ (by (repeat (first | (with_reducible exact Below.refl _ _) | (with_reducible assumption) | (with_reducible apply bl_alloc) | (with_reducible apply bl_drewN) | (with_reducible apply bl_drew) | (with_reducible refine bl_set ?_ (by first | (simp; done) | (simp; omega)) _) | (with_reducible refine bl_call ?_ (by assumption)))))).2).mono ?_; rintro e r1 ⟨rfl, hr1⟩)
              | (go_at_call 24; refine (word_at nm _).mono ?_; rintro e r2 ⟨p6, m6, c6, rfl, hi6, hr2⟩)
              | (go_at_call 27; refine (repl_at H2.out (cnt_wd nm) HCX.out (F1.out _ (by (repeat (first | (with_reducible exact Below.refl _ _) | (with_reducible assumption) | (with_reducible apply bl_alloc) | (with_reducible apply bl_drewN) | (with_reducible apply bl_drew) | (with_reducible refine bl_set ?_ (by first | (simp; done) | (simp; omega)) _) | (with_reducible refine bl_call ?_ (by assumption)))))).2 (hi6.on (by (repeat (first | (with_reducible exact Below.refl _ _) | (with_reducible assumption) | (with_reducible apply bl_alloc) | (with_reducible apply bl_drewN) | (with_reducible apply bl_drew) | (with_reducible refine bl_set ?_ (by first | (simp; done) | (simp; omega)) _) | (with_reducible refine bl_call ?_ (by assumption))))))).mono ?_; rintro e r3 ⟨p7, m7, c7, rfl, hi7, hr3⟩)
              | (go_at_call 20; refine (same_at (same_self x) (hi7.on (by (repeat (first | (with_reducible exact Below.refl _ _) | (with_reducible assumption) | (with_reducible apply bl_alloc) | (with_reducible apply bl_drewN) | (with_reducible apply bl_drew) | (with_reducible refine bl_set ?_ (by first | (simp; done) | (simp; omega)) _) | (with_reducible refine bl_call ?_ (by assumption)))))) (F1.out _ (by (repeat (first | (with_reducible exact Below.refl _ _) | (with_reducible assumption) | (with_reducible apply bl_alloc) | (with_reducible apply bl_drewN) | (with_reducible apply bl_drew) | (with_reducible refine bl_set ?_ (by first | (simp; done) | (simp; omega)) _) | (with_reducible refine bl_call ?_ (by assumption)))))).2).mono ?_; rintro e r4 ⟨rfl, hr4⟩)
              | (go_at_call 11; refine (HA _).mono ?_; rintro e r5 ⟨rfl, hr5⟩))
            all_goals
              go_wp2_with fail
              go_ret
              exact ⟨rfl, by have HBB := HB.out; (repeat (first | (with_reducible exact Below.refl _ _) | (with_reducible assumption) | (with_reducible apply bl_alloc) | (with_reducible apply bl_drewN) | (with_reducible apply bl_drew) | (with_reducible refine bl_set ?_ (by first | (simp; done) | (simp; omega)) _) | (with_reducible refine bl_call ?_ (by assumption))))⟩
          · have q0 : (v1 == 0) = false := beq_eq_false_iff_ne.2 h0
            have q1 : (v1 != 0) = true := bne_iff_ne.2 h0
            clear h0 H2
            refine wp_region_held_drew (S := (fun (w' : World) => w'.cell? ⟨w.heap.size, 0, none⟩ = some (.int .i64 x.o) ∧ w'.cell? ⟨w.heap.size, 1, none⟩ = some (.string x.s) ∧ w'.cell? ⟨w.heap.size, 2, none⟩ = some (.int .i64 x.n) ∧ w'.cell? ⟨w.heap.size, 3, none⟩ = some (.slice p m c))) (by kernel_rfl) (show ((fun (w' : World) => w'.cell? ⟨w.heap.size, 0, none⟩ = some (.int .i64 x.o) ∧ w'.cell? ⟨w.heap.size, 1, none⟩ = some (.string x.s) ∧ w'.cell? ⟨w.heap.size, 2, none⟩ = some (.int .i64 x.n) ∧ w'.cell? ⟨w.heap.size, 3, none⟩ = some (.slice p m c))) _ from (box4.seen (F1.out _ (by (repeat (first | (with_reducible exact Below.refl _ _) | (with_reducible assumption) | (with_reducible apply bl_alloc) | (with_reducible apply bl_drewN) | (with_reducible apply bl_drew) | (with_reducible refine bl_set ?_ (by first | (simp; done) | (simp; omega)) _) | (with_reducible refine bl_call ?_ (by assumption)))))).1)) (fun hHeld => ?_)
            refine wpAnyH_take (i := 0) (oi := { dst := some 43, op := Op.load 25 (Operand.tmp 3), type := 25, pos := "law.go:123", after := #[], guard := none }) (v := ?_) rfl (by kernel_rfl) (by kernel_rfl) (by kernel_rfl) (fun _ _ _ h => h) (Or.inl ⟨by rfl, ?_⟩) (by assumption) ?_
            rotate_left 1
            · intro w' hS'
              try dsimp only at hS'
              first | (go_simp; done) | (go_simp; with_reducible rfl)
            try simp only [Act.put, List.setIfInBounds_toArray, List.set_cons_zero, List.set_cons_succ]
            refine wpAnyH_ready (rs := [1]) (by kernel_rfl) (by simp) ?_
            refine AllReadyH.cons (o := { dst := some 44, op := Op.call { callee := Callee.value (Operand.func 12), args := #[Operand.tmp 43], argTypes := #[25] }, type := 28, pos := "law.go:123", after := #[{ on := 0, ground := Ground.data }], guard := none }) rfl (fun K hK => ?_) ?_
            rotate_left 1
            · exact AllReadyH.nil
            go_simp
            refine (check_at H1.out HSX.out HCX.out (F1.out _ (by (repeat (first | (with_reducible exact Below.refl _ _) | (with_reducible assumption) | (with_reducible apply bl_alloc) | (with_reducible apply bl_drewN) | (with_reducible apply bl_drew) | (with_reducible refine bl_set ?_ (by first | (simp; done) | (simp; omega)) _) | (with_reducible refine bl_call ?_ (by assumption)))))).2).mono ?_
            rintro e r1 ⟨rfl, hr1⟩
            clear hHeld
            refine hK.out _ _ (show ((fun (w' : World) => w'.cell? ⟨w.heap.size, 0, none⟩ = some (.int .i64 x.o) ∧ w'.cell? ⟨w.heap.size, 1, none⟩ = some (.string x.s) ∧ w'.cell? ⟨w.heap.size, 2, none⟩ = some (.int .i64 x.n) ∧ w'.cell? ⟨w.heap.size, 3, none⟩ = some (.slice p m c))) _ from (box4.seen (F1.out _ (by (repeat (first | (with_reducible exact Below.refl _ _) | (with_reducible assumption) | (with_reducible apply bl_alloc) | (with_reducible apply bl_drewN) | (with_reducible apply bl_drew) | (with_reducible refine bl_set ?_ (by first | (simp; done) | (simp; omega)) _) | (with_reducible refine bl_call ?_ (by assumption)))))).1)) (fun hHeld => ?_)
            clear hK K
            (try simp only [Act.put, List.setIfInBounds_toArray, List.set_cons_zero, List.set_cons_succ])
            refine wpAnyH_take (i := 2) (oi := { dst := some 45, op := Op.binOp BinOp.neq 28 (Operand.tmp 44) (Operand.const (Value.int IntKind.i64 0)) 28, type := 4, pos := "law.go:123", after := #[{ on := 1, ground := Ground.data }], guard := none }) (v := ?_) rfl (by kernel_rfl) (by kernel_rfl) (by kernel_rfl) (fun _ _ _ h => h) (Or.inl ⟨by rfl, ?_⟩) (by assumption) ?_
            rotate_left 1
            · intro w' hS'
              try dsimp only at hS'
              first | (go_simp; done) | (go_simp; with_reducible rfl)
            try simp only [Act.put, List.setIfInBounds_toArray, List.set_cons_zero, List.set_cons_succ]
            refine wpAnyH_take (i := 3) (oi := { dst := some 46, op := Op.move (Operand.tmp 45), type := 4, pos := "law.go:123", after := #[{ on := 2, ground := Ground.data }, { on := 1, ground := Ground.chain }], guard := none }) (v := ?_) rfl (by kernel_rfl) (by kernel_rfl) (by kernel_rfl) (fun _ _ _ h => h) (Or.inl ⟨by rfl, ?_⟩) (by assumption) ?_
            rotate_left 1
            · intro w' hS'
              try dsimp only at hS'
              first | (go_simp; done) | (go_simp; with_reducible rfl)
            try simp only [Act.put, List.setIfInBounds_toArray, List.set_cons_zero, List.set_cons_succ]
            refine wpAnyH_take (i := 4) (oi := { dst := some 47, op := Op.load 25 (Operand.tmp 3), type := 25, pos := "law.go:123", after := #[{ on := 3, ground := Ground.guard }], guard := some (3, false) }) (v := undef) rfl (by kernel_rfl) (by kernel_rfl) (by kernel_rfl) (fun _ _ _ h => h) (Or.inr ⟨by kernel_rfl, rfl⟩) (by assumption) ?_
            try simp only [Act.put, List.setIfInBounds_toArray, List.set_cons_zero, List.set_cons_succ]
            refine wpAnyH_take (i := 5) (oi := { dst := some 48, op := Op.move (Operand.tmp 1), type := 9, pos := "law.go:123", after := #[{ on := 3, ground := Ground.guard }], guard := some (3, false) }) (v := undef) rfl (by kernel_rfl) (by kernel_rfl) (by kernel_rfl) (fun _ _ _ h => h) (Or.inr ⟨by kernel_rfl, rfl⟩) (by assumption) ?_
            try simp only [Act.put, List.setIfInBounds_toArray, List.set_cons_zero, List.set_cons_succ]
            refine wpAnyH_take (i := 6) (oi := { dst := some 49, op := Op.move (Operand.tmp 1), type := 9, pos := "law.go:123", after := #[{ on := 3, ground := Ground.guard }], guard := some (3, false) }) (v := undef) rfl (by kernel_rfl) (by kernel_rfl) (by kernel_rfl) (fun _ _ _ h => h) (Or.inr ⟨by kernel_rfl, rfl⟩) (by assumption) ?_
            try simp only [Act.put, List.setIfInBounds_toArray, List.set_cons_zero, List.set_cons_succ]
            refine wpAnyH_take (i := 7) (oi := { dst := some 50, op := Op.call { callee := Callee.value (Operand.func 24), args := #[Operand.tmp 49], argTypes := #[9] }, type := 25, pos := "law.go:123", after := #[{ on := 6, ground := Ground.data }, { on := 3, ground := Ground.chain }, { on := 3, ground := Ground.guard }], guard := some (3, false) }) (v := undef) rfl (by kernel_rfl) (by kernel_rfl) (by kernel_rfl) (fun _ _ _ h => h) (Or.inr ⟨by kernel_rfl, rfl⟩) (by assumption) ?_
            try simp only [Act.put, List.setIfInBounds_toArray, List.set_cons_zero, List.set_cons_succ]
            refine wpAnyH_take (i := 8) (oi := { dst := some 51, op := Op.call { callee := Callee.value (Operand.func 27), args := #[Operand.tmp 47, Operand.tmp 48, Operand.tmp 50], argTypes := #[25, 9, 25] }, type := 25, pos := "law.go:123", after := #[{ on := 4, ground := Ground.data }, { on := 5, ground := Ground.data }, { on := 7, ground := Ground.data }, { on := 7, ground := Ground.chain }, { on := 3, ground := Ground.guard }], guard := some (3, false) }) (v := undef) rfl (by kernel_rfl) (by kernel_rfl) (by kernel_rfl) (fun _ _ _ h => h) (Or.inr ⟨by kernel_rfl, rfl⟩) (by assumption) ?_
            try simp only [Act.put, List.setIfInBounds_toArray, List.set_cons_zero, List.set_cons_succ]
            refine wpAnyH_take (i := 9) (oi := { dst := some 52, op := Op.load 25 (Operand.tmp 3), type := 25, pos := "law.go:123", after := #[{ on := 3, ground := Ground.guard }], guard := some (3, false) }) (v := undef) rfl (by kernel_rfl) (by kernel_rfl) (by kernel_rfl) (fun _ _ _ h => h) (Or.inr ⟨by kernel_rfl, rfl⟩) (by assumption) ?_
            try simp only [Act.put, List.setIfInBounds_toArray, List.set_cons_zero, List.set_cons_succ]
            refine wpAnyH_take (i := 10) (oi := { dst := some 53, op := Op.call { callee := Callee.value (Operand.func 20), args := #[Operand.tmp 51, Operand.tmp 52], argTypes := #[25, 25] }, type := 4, pos := "law.go:123", after := #[{ on := 8, ground := Ground.data }, { on := 9, ground := Ground.data }, { on := 8, ground := Ground.chain }, { on := 3, ground := Ground.guard }], guard := some (3, false) }) (v := undef) rfl (by kernel_rfl) (by kernel_rfl) (by kernel_rfl) (fun _ _ _ h => h) (Or.inr ⟨by kernel_rfl, rfl⟩) (by assumption) ?_
            try simp only [Act.put, List.setIfInBounds_toArray, List.set_cons_zero, List.set_cons_succ]
            refine wpAnyH_take (i := 11) (oi := { dst := some 54, op := Op.pick (Operand.tmp 46) (Operand.const (Value.bool true)) (Operand.tmp 53), type := 4, pos := "law.go:123", after := #[{ on := 3, ground := Ground.data }, { on := 10, ground := Ground.data }], guard := none }) (v := ?_) rfl (by kernel_rfl) (by kernel_rfl) (by kernel_rfl) (fun _ _ _ h => h) (Or.inl ⟨by rfl, ?_⟩) (by assumption) ?_
            rotate_left 1
            · intro w' hS'
              try dsimp only at hS'
              first | (go_simp; done) | (go_simp; with_reducible rfl)
            try simp only [Act.put, List.setIfInBounds_toArray, List.set_cons_zero, List.set_cons_succ]
            refine wpAnyH_take (i := 12) (oi := { dst := some 55, op := Op.move (Operand.tmp 54), type := 4, pos := "law.go:123", after := #[{ on := 11, ground := Ground.data }, { on := 10, ground := Ground.chain }], guard := none }) (v := ?_) rfl (by kernel_rfl) (by kernel_rfl) (by kernel_rfl) (fun _ _ _ h => h) (Or.inl ⟨by rfl, ?_⟩) (by assumption) ?_
            rotate_left 1
            · intro w' hS'
              try dsimp only at hS'
              first | (go_simp; done) | (go_simp; with_reducible rfl)
            try simp only [Act.put, List.setIfInBounds_toArray, List.set_cons_zero, List.set_cons_succ]
            refine wpAnyH_ready (rs := [13]) (by kernel_rfl) (by simp) ?_
            refine AllReadyH.cons (o := { dst := some 56, op := Op.call { callee := Callee.value (Operand.func 11), args := #[], argTypes := #[] }, type := 4, pos := "law.go:123", after := #[{ on := 12, ground := Ground.chain }, { on := 12, ground := Ground.guard }], guard := some (12, true) }) rfl (fun K hK => ?_) ?_
            rotate_left 1
            · exact AllReadyH.nil
            go_simp
            refine (HA _).mono ?_
            rintro e r2 ⟨rfl, hr2⟩
            clear hHeld
            refine hK.out _ _ (show ((fun (w' : World) => w'.cell? ⟨w.heap.size, 0, none⟩ = some (.int .i64 x.o) ∧ w'.cell? ⟨w.heap.size, 1, none⟩ = some (.string x.s) ∧ w'.cell? ⟨w.heap.size, 2, none⟩ = some (.int .i64 x.n) ∧ w'.cell? ⟨w.heap.size, 3, none⟩ = some (.slice p m c))) _ from (box4.seen (F1.out _ (by (repeat (first | (with_reducible exact Below.refl _ _) | (with_reducible assumption) | (with_reducible apply bl_alloc) | (with_reducible apply bl_drewN) | (with_reducible apply bl_drew) | (with_reducible refine bl_set ?_ (by first | (simp; done) | (simp; omega)) _) | (with_reducible refine bl_call ?_ (by assumption)))))).1)) (fun hHeld => ?_)
            clear hK K
            (try simp only [Act.put, List.setIfInBounds_toArray, List.set_cons_zero, List.set_cons_succ])
            refine wpAnyH_take (i := 14) (oi := { dst := some 57, op := Op.pick (Operand.tmp 55) (Operand.tmp 56) (Operand.const (Value.bool false)), type := 4, pos := "law.go:123", after := #[{ on := 12, ground := Ground.data }, { on := 13, ground := Ground.data }], guard := none }) (v := ?_) rfl (by kernel_rfl) (by kernel_rfl) (by kernel_rfl) (fun _ _ _ h => h) (Or.inl ⟨by rfl, ?_⟩) (by assumption) ?_
            rotate_left 1
            · intro w' hS'
              try dsimp only at hS'
              first | (go_simp; done) | (go_simp; with_reducible rfl)
            try simp only [Act.put, List.setIfInBounds_toArray, List.set_cons_zero, List.set_cons_succ]
            refine wpAnyH_take (i := 15) (oi := { dst := some 6, op := Op.assign (Operand.tmp 57), type := 4, pos := "law.go:123", after := #[{ on := 14, ground := Ground.data }, { on := 13, ground := Ground.chain }, { on := 0, ground := Ground.phase }, { on := 1, ground := Ground.phase }, { on := 2, ground := Ground.phase }, { on := 3, ground := Ground.phase }, { on := 4, ground := Ground.phase }, { on := 5, ground := Ground.phase }, { on := 6, ground := Ground.phase }, { on := 7, ground := Ground.phase }, { on := 8, ground := Ground.phase }, { on := 9, ground := Ground.phase }, { on := 10, ground := Ground.phase }, { on := 11, ground := Ground.phase }, { on := 12, ground := Ground.phase }, { on := 13, ground := Ground.phase }, { on := 14, ground := Ground.phase }], guard := none }) (v := ?_) rfl (by kernel_rfl) (by kernel_rfl) (by kernel_rfl) (fun _ _ _ h => h) (Or.inl ⟨by rfl, ?_⟩) (by assumption) ?_
            rotate_left 1
            · intro w' hS'
              try dsimp only at hS'
              first | (go_simp; done) | (go_simp; with_reducible rfl)
            try simp only [Act.put, List.setIfInBounds_toArray, List.set_cons_zero, List.set_cons_succ]
            refine wpAnyH_done (by kernel_rfl) ?_ _
            clear hHeld
            go_wp2_with fail
            go_ret
            exact ⟨rfl, by have HBB := HB.out; (repeat (first | (with_reducible exact Below.refl _ _) | (with_reducible assumption) | (with_reducible apply bl_alloc) | (with_reducible apply bl_drewN) | (with_reducible apply bl_drew) | (with_reducible refine bl_set ?_ (by first | (simp; done) | (simp; omega)) _) | (with_reducible refine bl_call ?_ (by assumption))))⟩
end Go.Proofs.Ytfkenbdfakjeoaa.Ex
