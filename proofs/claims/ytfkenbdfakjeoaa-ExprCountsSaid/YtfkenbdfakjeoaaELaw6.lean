/-
  The law of what Replace counts, walked.
-/
import Derived.Test.YtfkenbdfakjeoaaELaw4
import Derived.Test.YtfkenbdfakjeoaaELaw5
import Derived.Test.YtfkenbdfakjeoaaEBare
namespace Go.Proofs.Ytfkenbdfakjeoaa.Ex
open Go.RowKit
open Go.Proofs.Ytfkenbdfakjeoaa.Na (bs bs_inj chk)
set_option maxHeartbeats 4000000
set_option linter.unusedVariables false
set_option linter.unusedSimpArgs false
theorem names_rep {nm : ByteArray} {x y : Ex} (h1 : chkE false (rep nm y x) = 0) (h2 : chkE false x = 0) (h3 : 0 < tim nm x → chkE false y = 0) {s : Nm} (hm : s ∈ namesE (rep nm y x)) : s ∈ namesE x ∨ s ∈ namesE y := by
  obtain ⟨u, hu, rfl, hn⟩ := mem_says.1 ((names_mem h1).1 hm)
  rcases rep_pre nm y x u hu with ⟨h4, h5⟩ | ⟨v, hv, -, e⟩
  · exact .inr ((names_mem (h3 h5)).2 (mem_says.2 ⟨u, h4, rfl, hn⟩))
  · exact .inl ((names_mem h2).2 (mem_says.2 ⟨v, hv, by rw [e], hn⟩))
theorem sz_rep {nm : ByteArray} {x y : Ex} (hx : Sz x) (hy : Sz y) : Sz (rep nm y x) := by
  intro u hu
  rcases rep_pre nm y x u hu with ⟨h, -⟩ | ⟨v, hv, -, e⟩
  · exact hy u h
  · rw [e]; exact hx v hv
theorem times_i {nm : ByteArray} {e : Ex} {k : Int} (h : ((tim nm e : Nat) : Int) = k) (hc : cnt e ≤ 1000000) {p : Option Addr} {m c : Nat} {w : World} (hi : In w e p m) : Calls Try.prog 28 #[.agg #[.int .i64 e.o, .string e.s, .int .i64 e.n, .slice p m c], .string nm] w (Gives (.int .i64 k) w) := by rw [← h]; exact times_any nm e p m c w hi hc
theorem bare_at {nm : ByteArray} {e : Ex} {b : Bool} (h : bar nm e = b) (hc : cnt e ≤ 1000000) {p : Option Addr} {m c : Nat} {w : World} (hi : In w e p m) : Calls Try.prog 29 #[.agg #[.int .i64 e.o, .string e.s, .int .i64 e.n, .slice p m c], .string nm] w (Gives (.bool b) w) := by rw [← h]; exact bare_any nm e p m c w hi hc
theorem keep12 {w' : World} {g1 g2 g3 : Nat} {o1 o2 o3 n1 n2 n3 : Int} {s1 s2 s3 : ByteArray} {p1 p2 p3 : Option Addr} {m1 c1 m2 c2 m3 c3 : Nat} (h1 : box4 w' g1 o1 s1 n1 p1 m1 c1) (h2 : box4 w' g2 o2 s2 n2 p2 m2 c2) (h3 : box4 w' g3 o3 s3 n3 p3 m3 c3) :
    (w'.cell? ⟨g1, 0, none⟩ = some (.int .i64 o1) ∧ w'.cell? ⟨g1, 1, none⟩ = some (.string s1) ∧ w'.cell? ⟨g1, 2, none⟩ = some (.int .i64 n1) ∧ w'.cell? ⟨g1, 3, none⟩ = some (.slice p1 m1 c1)) ∧ (w'.cell? ⟨g2, 0, none⟩ = some (.int .i64 o2) ∧ w'.cell? ⟨g2, 1, none⟩ = some (.string s2) ∧ w'.cell? ⟨g2, 2, none⟩ = some (.int .i64 n2) ∧ w'.cell? ⟨g2, 3, none⟩ = some (.slice p2 m2 c2)) ∧ (w'.cell? ⟨g3, 0, none⟩ = some (.int .i64 o3) ∧ w'.cell? ⟨g3, 1, none⟩ = some (.string s3) ∧ w'.cell? ⟨g3, 2, none⟩ = some (.int .i64 n3) ∧ w'.cell? ⟨g3, 3, none⟩ = some (.slice p3 m3 c3)) := ⟨h1, h2, h3⟩
def OKs (vz vx vy K : Int) : Prop := vz = 0 ∧ vx = 0 ∧ (0 < K → vy = 0)
/-- The numbers that the law compares. -/
structure Nums (A B C C1 M K DZ DX DY DS : Int) : Prop where
  c : IntKind.i64.wrap (C - 1) = C1
  m : IntKind.i64.wrap (K * C1) = M
  a : IntKind.i64.wrap (B + M) = A
  d : IntKind.i64.wrap (DX + DY) = DS
  q : decide (DS < DZ) = false
theorem nums_of {nm : ByteArray} {x y : Ex} (hb : bar nm x = true) (hx : cnt x ≤ 200) (hy : cnt y ≤ 200) (dx : dep x ≤ 40) (dy : dep y ≤ 40) :
    ∃ C1 M DS : Int, Nums ((cnt (rep nm y x) : Nat) : Int) ((cnt x : Nat) : Int) ((cnt y : Nat) : Int) C1 M ((tim nm x : Nat) : Int) ((dep (rep nm y x) : Nat) : Int) ((dep x : Nat) : Int) ((dep y : Nat) : Int) DS := by
  have h1 := rep_cnt nm y x hb
  have h2 := rep_dep nm y x
  have h3 := tim_le nm x
  have h4 := cnt_pos y
  obtain ⟨j, hj⟩ : ∃ j, cnt y = j + 1 := ⟨cnt y - 1, by omega⟩
  have h5 : tim nm x * j ≤ 200 * 200 := Nat.mul_le_mul (by omega) (by omega)
  have h6 : cnt (rep nm y x) = cnt x + tim nm x * j := by
    rw [hj, Nat.mul_add] at h1
    omega
  refine ⟨(j : Int), ((tim nm x * j : Nat) : Int), ((dep x + dep y : Nat) : Int), ⟨?_, ?_, ?_, ?_, ?_⟩⟩
  · rw [IntKind.wrap_i64]; omega
  · rw [show ((tim nm x : Nat) : Int) * (j : Int) = ((tim nm x * j : Nat) : Int) by rw [Int.natCast_mul], IntKind.wrap_i64]; omega
  · rw [IntKind.wrap_i64]; omega
  · rw [IntKind.wrap_i64]; omega
  · exact decide_eq_false (by omega)
theorem cnt_rep_le {nm : ByteArray} {x y : Ex} (hb : bar nm x = true) (hx : cnt x ≤ 200) (hy : cnt y ≤ 200) : cnt (rep nm y x) ≤ 1000000 := by
  have h1 := rep_cnt nm y x hb
  have h3 := tim_le nm x
  have h5 : tim nm x * cnt y ≤ 200 * 200 := Nat.mul_le_mul (by omega) (by omega)
  omega
set_option maxRecDepth 100000 in
theorem exprCounts_walk (HA : ∀ w, Calls Try.prog 11 #[] w (Gives (.bool true) w)) (x : Ex) (p : Option Addr) (m c : Nat) (nm : ByteArray) (y : Ex) (p2 : Option Addr) (m2 c2 : Nat) (w : World) (hx : In w x p m) (hsx : Sz x) (hnm : nm.size ≤ 140737488355328) (hy : In w y p2 m2) (hsy : Sz y) : Calls Try.prog 8 #[.agg #[.int .i64 x.o, .string x.s, .int .i64 x.n, .slice p m c], .string nm, .agg #[.int .i64 y.o, .string y.s, .int .i64 y.n, .slice p2 m2 c2]] w (Gives (.bool true) w) := by
  obtain ⟨V1, V2⟩ := two_vars (c := c) (c2 := c2) hx hy
  have F1 := V1.far
  have F2 := V2.far
  have HB : Hid (Below w.heap.size w ((w.alloc (.cells #[.int .i64 x.o, .string x.s, .int .i64 x.n, .slice p m c] 25)).alloc (.cells #[.int .i64 y.o, .string y.s, .int .i64 y.n, .slice p2 m2 c2] 25))) := Lib.hid (by (repeat (first | (with_reducible exact Below.refl _ _) | (with_reducible assumption) | (with_reducible apply bl_alloc) | (with_reducible apply bl_drewN) | (with_reducible apply bl_drew) | (with_reducible refine bl_set ?_ (by first | (simp; done) | (simp; omega)) _) | (with_reducible refine bl_call ?_ (by assumption)))))
  clear V1 V2 hx hy hnm
  have HF1 := fun W hi => few_gives (e := x) rfl p m c W hi
  have HF2 := fun W hi => few_gives (e := y) rfl p2 m2 c2 W hi
  cases f1 : fewE x with
  | false =>
    simp only [f1] at HF1
    clear f1 hsx
    go_enter Try.func8, Try.ntmps8
    go_wp2_with fail
    refine (HF1 _ (F1.out _ (Below.refl _ _)).2).mono ?_
    rintro e w1 ⟨rfl, hb1⟩
    go_wp2_with fail
    refine (HA _).mono ?_
    rintro e w9 ⟨rfl, hb9⟩
    go_wp2_with fail
    go_ret
    exact ⟨rfl, by have HBB := HB.out; (repeat (first | (with_reducible exact Below.refl _ _) | (with_reducible assumption) | (with_reducible apply bl_alloc) | (with_reducible apply bl_drewN) | (with_reducible apply bl_drew) | (with_reducible refine bl_set ?_ (by first | (simp; done) | (simp; omega)) _) | (with_reducible refine bl_call ?_ (by assumption))))⟩
  | true =>
  simp only [f1] at HF1
  cases f2 : fewE y with
  | false =>
    simp only [f2] at HF2
    clear f1 f2 hsx
    go_enter Try.func8, Try.ntmps8
    go_wp2_with fail
    refine (HF1 _ (F1.out _ (Below.refl _ _)).2).mono ?_
    rintro e w1 ⟨rfl, hb1⟩
    obtain ⟨x0, x1, x2, x3⟩ := (F1.out w1 (by (repeat (first | (with_reducible exact Below.refl _ _) | (with_reducible assumption) | (with_reducible apply bl_alloc) | (with_reducible apply bl_drewN) | (with_reducible apply bl_drew) | (with_reducible refine bl_set ?_ (by first | (simp; done) | (simp; omega)) _) | (with_reducible refine bl_call ?_ (by assumption)))))).1
    obtain ⟨y0, y1, y2, y3⟩ := (F2.out w1 (by (repeat (first | (with_reducible exact Below.refl _ _) | (with_reducible assumption) | (with_reducible apply bl_alloc) | (with_reducible apply bl_drewN) | (with_reducible apply bl_drew) | (with_reducible refine bl_set ?_ (by first | (simp; done) | (simp; omega)) _) | (with_reducible refine bl_call ?_ (by assumption)))))).1
    go_wp2_with fail
    refine (HF2 _ (F2.out _ hb1).2).mono ?_
    rintro e w2 ⟨rfl, hb2⟩
    go_wp2_with fail
    refine (HA _).mono ?_
    rintro e w9 ⟨rfl, hb9⟩
    go_wp2_with fail
    go_ret
    exact ⟨rfl, by have HBB := HB.out; (repeat (first | (with_reducible exact Below.refl _ _) | (with_reducible assumption) | (with_reducible apply bl_alloc) | (with_reducible apply bl_drewN) | (with_reducible apply bl_drew) | (with_reducible refine bl_set ?_ (by first | (simp; done) | (simp; omega)) _) | (with_reducible refine bl_call ?_ (by assumption))))⟩
  | true =>
  simp only [f2] at HF2
  obtain ⟨cx, dx⟩ := few_cap f1
  obtain ⟨cy, dy⟩ := few_cap f2
  have HCX : Hid (cnt x ≤ 1000000) := Lib.hid (by omega)
  have HCY : Hid (cnt y ≤ 1000000) := Lib.hid (by omega)
  cases hbar : bar nm x with
  | false =>
    have HBAR := Lib.hid hbar
    clear f1 f2 hsx cx cy dx dy hbar
    go_enter Try.func8, Try.ntmps8
    go_wp2_with fail
    refine (HF1 _ (F1.out _ (Below.refl _ _)).2).mono ?_
    rintro e w1 ⟨rfl, hb1⟩
    obtain ⟨x0, x1, x2, x3⟩ := (F1.out w1 (by (repeat (first | (with_reducible exact Below.refl _ _) | (with_reducible assumption) | (with_reducible apply bl_alloc) | (with_reducible apply bl_drewN) | (with_reducible apply bl_drew) | (with_reducible refine bl_set ?_ (by first | (simp; done) | (simp; omega)) _) | (with_reducible refine bl_call ?_ (by assumption)))))).1
    obtain ⟨y0, y1, y2, y3⟩ := (F2.out w1 (by (repeat (first | (with_reducible exact Below.refl _ _) | (with_reducible assumption) | (with_reducible apply bl_alloc) | (with_reducible apply bl_drewN) | (with_reducible apply bl_drew) | (with_reducible refine bl_set ?_ (by first | (simp; done) | (simp; omega)) _) | (with_reducible refine bl_call ?_ (by assumption)))))).1
    go_wp2_with fail
    refine (HF2 _ (F2.out _ hb1).2).mono ?_
    rintro e w2 ⟨rfl, hb2⟩
    clear x0 x1 x2 x3 y0 y1 y2 y3
    obtain ⟨x0, x1, x2, x3⟩ := (F1.out w2 (by (repeat (first | (with_reducible exact Below.refl _ _) | (with_reducible assumption) | (with_reducible apply bl_alloc) | (with_reducible apply bl_drewN) | (with_reducible apply bl_drew) | (with_reducible refine bl_set ?_ (by first | (simp; done) | (simp; omega)) _) | (with_reducible refine bl_call ?_ (by assumption)))))).1
    obtain ⟨y0, y1, y2, y3⟩ := (F2.out w2 (by (repeat (first | (with_reducible exact Below.refl _ _) | (with_reducible assumption) | (with_reducible apply bl_alloc) | (with_reducible apply bl_drewN) | (with_reducible apply bl_drew) | (with_reducible refine bl_set ?_ (by first | (simp; done) | (simp; omega)) _) | (with_reducible refine bl_call ?_ (by assumption)))))).1
    go_wp2_with fail
    refine (bare_at HBAR.out HCX.out (F1.out _ (by (repeat (first | (with_reducible exact Below.refl _ _) | (with_reducible assumption) | (with_reducible apply bl_alloc) | (with_reducible apply bl_drewN) | (with_reducible apply bl_drew) | (with_reducible refine bl_set ?_ (by first | (simp; done) | (simp; omega)) _) | (with_reducible refine bl_call ?_ (by assumption)))))).2).mono ?_
    rintro e w3 ⟨rfl, hb3⟩
    go_wp2_with fail
    refine (HA _).mono ?_
    rintro e w9 ⟨rfl, hb9⟩
    go_wp2_with fail
    go_ret
    exact ⟨rfl, by have HBB := HB.out; (repeat (first | (with_reducible exact Below.refl _ _) | (with_reducible assumption) | (with_reducible apply bl_alloc) | (with_reducible apply bl_drewN) | (with_reducible apply bl_drew) | (with_reducible refine bl_set ?_ (by first | (simp; done) | (simp; omega)) _) | (with_reducible refine bl_call ?_ (by assumption))))⟩
  | true =>
  have HBAR := Lib.hid hbar
  obtain ⟨C1, M, DS, hnum⟩ := nums_of (nm := nm) hbar cx cy dx dy
  have hcz := cnt_rep_le (nm := nm) hbar cx cy
  have hsz := sz_rep (nm := nm) hsx hsy
  have hlx := names_len x
  have hly := names_len y
  have HZ0 : Hid (tim nm x = 0 → rep nm y x = x) := Lib.hid (rep_none nm y x)
  have HREP := Lib.hid (fun h1 h2 h3 s hm => names_rep (nm := nm) (x := x) (y := y) h1 h2 h3 (s := s) hm)
  obtain ⟨z, hz⟩ : ∃ z, rep nm y x = z := ⟨_, rfl⟩
  rw [hz] at hnum hcz hsz HZ0 HREP
  have HZ := Lib.hid hz
  have HCZ := Lib.hid hcz
  have HSX := Lib.hid hsx
  have HSY := Lib.hid hsy
  have HSZ := Lib.hid hsz
  obtain ⟨A, hA⟩ : ∃ v, ((cnt z : Nat) : Int) = v := ⟨_, rfl⟩
  obtain ⟨B, hB⟩ : ∃ v, ((cnt x : Nat) : Int) = v := ⟨_, rfl⟩
  obtain ⟨C, hC⟩ : ∃ v, ((cnt y : Nat) : Int) = v := ⟨_, rfl⟩
  obtain ⟨DZ, hDZ⟩ : ∃ v, ((dep z : Nat) : Int) = v := ⟨_, rfl⟩
  obtain ⟨DX, hDX⟩ : ∃ v, ((dep x : Nat) : Int) = v := ⟨_, rfl⟩
  obtain ⟨DY, hDY⟩ : ∃ v, ((dep y : Nat) : Int) = v := ⟨_, rfl⟩
  obtain ⟨K, hK⟩ : ∃ v, ((tim nm x : Nat) : Int) = v := ⟨_, rfl⟩
  obtain ⟨vz, hvz⟩ : ∃ v, chkE false z = v := ⟨_, rfl⟩
  obtain ⟨vx, hvx⟩ : ∃ v, chkE false x = v := ⟨_, rfl⟩
  obtain ⟨vy, hvy⟩ : ∃ v, chkE false y = v := ⟨_, rfl⟩
  obtain ⟨lx, hlx'⟩ : ∃ v, namesE x = v := ⟨_, rfl⟩
  obtain ⟨ly, hly'⟩ : ∃ v, namesE y = v := ⟨_, rfl⟩
  obtain ⟨lz, hlz'⟩ : ∃ v, namesE z = v := ⟨_, rfl⟩
  rw [hvz, hvx, hvy, hlx', hly', hlz'] at HREP
  rw [hA, hB, hC, hDZ, hDX, hDY, hK] at hnum
  rw [hlx'] at hlx
  rw [hly'] at hly
  have HLX : Hid (lx.length ≤ 200) := Lib.hid (by omega)
  have HLY : Hid (ly.length ≤ 200) := Lib.hid (by omega)
  have hk0 : 0 ≤ K := by rw [← hK]; exact Int.natCast_nonneg _
  replace HREP : Hid (vz = 0 → vx = 0 → (0 < K → vy = 0) → ∀ s ∈ lz, s ∈ lx ∨ s ∈ ly) := Lib.hid fun h1 h2 h3 s hm => HREP.out h1 h2 (fun h => h3 (by rw [← hK]; exact Int.natCast_pos.2 h)) s hm
  replace HZ0 : Hid (K = 0 → same z x = true) := Lib.hid fun h => same_of (HZ0.out (by rw [← hK] at h; exact Int.ofNat_eq_zero.1 h))
  have RA := Lib.hid hA
  have RB := Lib.hid hB
  have RC := Lib.hid hC
  have RDZ := Lib.hid hDZ
  have RDX := Lib.hid hDX
  have RDY := Lib.hid hDY
  have RK := Lib.hid hK
  have RVZ := Lib.hid hvz
  have RVX := Lib.hid hvx
  have RVY := Lib.hid hvy
  have RLX := Lib.hid hlx'
  have RLY := Lib.hid hly'
  have RLZ := Lib.hid hlz'
  have HNUM := Lib.hid hnum
  clear f1 f2 hsx hsy cx cy dx dy hbar hnum hcz hsz hlx hly hz hA hB hC hDZ hDX hDY hK hvz hvx hvy hlx' hly' hlz'
  go_enter Try.func8, Try.ntmps8
  go_wp2_with fail
  refine (HF1 _ (F1.out _ (Below.refl _ _)).2).mono ?_
  rintro e w1 ⟨rfl, hb1⟩
  obtain ⟨x0, x1, x2, x3⟩ := (F1.out w1 (by (repeat (first | (with_reducible exact Below.refl _ _) | (with_reducible assumption) | (with_reducible apply bl_alloc) | (with_reducible apply bl_drewN) | (with_reducible apply bl_drew) | (with_reducible refine bl_set ?_ (by first | (simp; done) | (simp; omega)) _) | (with_reducible refine bl_call ?_ (by assumption)))))).1
  obtain ⟨y0, y1, y2, y3⟩ := (F2.out w1 (by (repeat (first | (with_reducible exact Below.refl _ _) | (with_reducible assumption) | (with_reducible apply bl_alloc) | (with_reducible apply bl_drewN) | (with_reducible apply bl_drew) | (with_reducible refine bl_set ?_ (by first | (simp; done) | (simp; omega)) _) | (with_reducible refine bl_call ?_ (by assumption)))))).1
  go_wp2_with fail
  refine (HF2 _ (F2.out _ hb1).2).mono ?_
  rintro e w2 ⟨rfl, hb2⟩
  clear x0 x1 x2 x3 y0 y1 y2 y3
  obtain ⟨x0, x1, x2, x3⟩ := (F1.out w2 (by (repeat (first | (with_reducible exact Below.refl _ _) | (with_reducible assumption) | (with_reducible apply bl_alloc) | (with_reducible apply bl_drewN) | (with_reducible apply bl_drew) | (with_reducible refine bl_set ?_ (by first | (simp; done) | (simp; omega)) _) | (with_reducible refine bl_call ?_ (by assumption)))))).1
  obtain ⟨y0, y1, y2, y3⟩ := (F2.out w2 (by (repeat (first | (with_reducible exact Below.refl _ _) | (with_reducible assumption) | (with_reducible apply bl_alloc) | (with_reducible apply bl_drewN) | (with_reducible apply bl_drew) | (with_reducible refine bl_set ?_ (by first | (simp; done) | (simp; omega)) _) | (with_reducible refine bl_call ?_ (by assumption)))))).1
  go_wp2_with fail
  refine (bare_at HBAR.out HCX.out (F1.out _ (by (repeat (first | (with_reducible exact Below.refl _ _) | (with_reducible assumption) | (with_reducible apply bl_alloc) | (with_reducible apply bl_drewN) | (with_reducible apply bl_drew) | (with_reducible refine bl_set ?_ (by first | (simp; done) | (simp; omega)) _) | (with_reducible refine bl_call ?_ (by assumption)))))).2).mono ?_
  rintro e w3 ⟨rfl, hb3⟩
  clear x0 x1 x2 x3 y0 y1 y2 y3
  obtain ⟨x0, x1, x2, x3⟩ := (F1.out w3 (by (repeat (first | (with_reducible exact Below.refl _ _) | (with_reducible assumption) | (with_reducible apply bl_alloc) | (with_reducible apply bl_drewN) | (with_reducible apply bl_drew) | (with_reducible refine bl_set ?_ (by first | (simp; done) | (simp; omega)) _) | (with_reducible refine bl_call ?_ (by assumption)))))).1
  obtain ⟨y0, y1, y2, y3⟩ := (F2.out w3 (by (repeat (first | (with_reducible exact Below.refl _ _) | (with_reducible assumption) | (with_reducible apply bl_alloc) | (with_reducible apply bl_drewN) | (with_reducible apply bl_drew) | (with_reducible refine bl_set ?_ (by first | (simp; done) | (simp; omega)) _) | (with_reducible refine bl_call ?_ (by assumption)))))).1
  go_wp2_with fail
  refine (repl_at HZ.out HCY.out HCX.out (F1.out _ (by (repeat (first | (with_reducible exact Below.refl _ _) | (with_reducible assumption) | (with_reducible apply bl_alloc) | (with_reducible apply bl_drewN) | (with_reducible apply bl_drew) | (with_reducible refine bl_set ?_ (by first | (simp; done) | (simp; omega)) _) | (with_reducible refine bl_call ?_ (by assumption)))))).2 (F2.out _ (by (repeat (first | (with_reducible exact Below.refl _ _) | (with_reducible assumption) | (with_reducible apply bl_alloc) | (with_reducible apply bl_drewN) | (with_reducible apply bl_drew) | (with_reducible refine bl_set ?_ (by first | (simp; done) | (simp; omega)) _) | (with_reducible refine bl_call ?_ (by assumption)))))).2).mono ?_
  rintro e w4 ⟨p4, m4, c4, rfl, hi4, hb4⟩
  have F4 := (var_new (c := c4) hi4).far
  have hq : Below (((w.alloc (.cells #[.int .i64 x.o, .string x.s, .int .i64 x.n, .slice p m c] 25)).alloc (.cells #[.int .i64 y.o, .string y.s, .int .i64 y.n, .slice p2 m2 c2] 25))).heap.size ((w.alloc (.cells #[.int .i64 x.o, .string x.s, .int .i64 x.n, .slice p m c] 25)).alloc (.cells #[.int .i64 y.o, .string y.s, .int .i64 y.n, .slice p2 m2 c2] 25)) (w4.alloc (.cells #[.int .i64 z.o, .string z.s, .int .i64 z.n, .slice p4 m4 c4] 25)) := by (repeat (first | (with_reducible exact Below.refl _ _) | (with_reducible assumption) | (with_reducible apply bl_alloc) | (with_reducible apply bl_drewN) | (with_reducible apply bl_drew) | (with_reducible refine bl_set ?_ (by first | (simp; done) | (simp; omega)) _) | (with_reducible refine bl_call ?_ (by assumption))))
  replace F1 := (F1.out _ hq).far
  replace F2 := (F2.out _ hq).far
  replace HB : Hid (Below w.heap.size w (w4.alloc (.cells #[.int .i64 z.o, .string z.s, .int .i64 z.n, .slice p4 m4 c4] 25))) := Lib.hid (by have HBB := HB.out; (repeat (first | (with_reducible exact Below.refl _ _) | (with_reducible assumption) | (with_reducible apply bl_alloc) | (with_reducible apply bl_drewN) | (with_reducible apply bl_drew) | (with_reducible refine bl_set ?_ (by first | (simp; done) | (simp; omega)) _) | (with_reducible refine bl_call ?_ (by assumption)))))
  clear x0 x1 x2 x3 y0 y1 y2 y3
  clear hq hb1 hb2 hb3 hb4 hi4 HF1 HF2
  obtain ⟨x0, x1, x2, x3⟩ := (F1.out (w4.alloc (.cells #[.int .i64 z.o, .string z.s, .int .i64 z.n, .slice p4 m4 c4] 25)) (by (repeat (first | (with_reducible exact Below.refl _ _) | (with_reducible assumption) | (with_reducible apply bl_alloc) | (with_reducible apply bl_drewN) | (with_reducible apply bl_drew) | (with_reducible refine bl_set ?_ (by first | (simp; done) | (simp; omega)) _) | (with_reducible refine bl_call ?_ (by assumption)))))).1
  obtain ⟨y0, y1, y2, y3⟩ := (F2.out (w4.alloc (.cells #[.int .i64 z.o, .string z.s, .int .i64 z.n, .slice p4 m4 c4] 25)) (by (repeat (first | (with_reducible exact Below.refl _ _) | (with_reducible assumption) | (with_reducible apply bl_alloc) | (with_reducible apply bl_drewN) | (with_reducible apply bl_drew) | (with_reducible refine bl_set ?_ (by first | (simp; done) | (simp; omega)) _) | (with_reducible refine bl_call ?_ (by assumption)))))).1
  go_wp2_with fail
  refine (times_i RK.out HCX.out (F1.out _ (Below.refl _ _)).2).mono ?_
  rintro e w5 ⟨rfl, hb5⟩
  replace F1 := (F1.out _ hb5).far
  replace F2 := (F2.out _ hb5).far
  replace F4 := (F4.out _ hb5).far
  replace HB : Hid (Below w.heap.size w w5) := Lib.hid (by have HBB := HB.out; (repeat (first | (with_reducible exact Below.refl _ _) | (with_reducible assumption) | (with_reducible apply bl_alloc) | (with_reducible apply bl_drewN) | (with_reducible apply bl_drew) | (with_reducible refine bl_set ?_ (by first | (simp; done) | (simp; omega)) _) | (with_reducible refine bl_call ?_ (by assumption)))))
  clear x0 x1 x2 x3 y0 y1 y2 y3
  clear hb5
  obtain ⟨x0, x1, x2, x3⟩ := (F1.out w5 (by (repeat (first | (with_reducible exact Below.refl _ _) | (with_reducible assumption) | (with_reducible apply bl_alloc) | (with_reducible apply bl_drewN) | (with_reducible apply bl_drew) | (with_reducible refine bl_set ?_ (by first | (simp; done) | (simp; omega)) _) | (with_reducible refine bl_call ?_ (by assumption)))))).1
  obtain ⟨y0, y1, y2, y3⟩ := (F2.out w5 (by (repeat (first | (with_reducible exact Below.refl _ _) | (with_reducible assumption) | (with_reducible apply bl_alloc) | (with_reducible apply bl_drewN) | (with_reducible apply bl_drew) | (with_reducible refine bl_set ?_ (by first | (simp; done) | (simp; omega)) _) | (with_reducible refine bl_call ?_ (by assumption)))))).1
  obtain ⟨z0, z1, z2, z3⟩ := (F4.out w5 (by (repeat (first | (with_reducible exact Below.refl _ _) | (with_reducible assumption) | (with_reducible apply bl_alloc) | (with_reducible apply bl_drewN) | (with_reducible apply bl_drew) | (with_reducible refine bl_set ?_ (by first | (simp; done) | (simp; omega)) _) | (with_reducible refine bl_call ?_ (by assumption)))))).1
  go_upto_region 5 with (fail)
  generalize w4.heap.size = g4 at *
  go_cut [68] (fun v wx => v = .bool false ∧ Below w5.heap.size w5 wx)
  case first =>
    have n1 := HNUM.out.c
    have n2 := HNUM.out.m
    have n3 := HNUM.out.a
    have n4 := HNUM.out.d
    have n5 := HNUM.out.q
    have q1 : (A != A) = false := by simp
    have q2 : (A == A) = true := by simp
    by_cases h0 : K = 0
    · have q3 : (K == 0) = true := beq_iff_eq.2 h0
      have HZ1 := Lib.hid (HZ0.out h0)
      clear h0 hk0 HZ0 HREP HNUM
      go_region_held3 (fun (w' : World) => (w'.cell? ⟨w.heap.size, 0, none⟩ = some (.int .i64 x.o) ∧ w'.cell? ⟨w.heap.size, 1, none⟩ = some (.string x.s) ∧ w'.cell? ⟨w.heap.size, 2, none⟩ = some (.int .i64 x.n) ∧ w'.cell? ⟨w.heap.size, 3, none⟩ = some (.slice p m c)) ∧ (w'.cell? ⟨(w.heap.size + 1), 0, none⟩ = some (.int .i64 y.o) ∧ w'.cell? ⟨(w.heap.size + 1), 1, none⟩ = some (.string y.s) ∧ w'.cell? ⟨(w.heap.size + 1), 2, none⟩ = some (.int .i64 y.n) ∧ w'.cell? ⟨(w.heap.size + 1), 3, none⟩ = some (.slice p2 m2 c2)) ∧ (w'.cell? ⟨g4, 0, none⟩ = some (.int .i64 z.o) ∧ w'.cell? ⟨g4, 1, none⟩ = some (.string z.s) ∧ w'.cell? ⟨g4, 2, none⟩ = some (.int .i64 z.n) ∧ w'.cell? ⟨g4, 3, none⟩ = some (.slice p4 m4 c4))) (first | (refine keep12 (F1.out _ ?_).1 (F2.out _ ?_).1 (F4.out _ ?_).1 <;> ((repeat (first | (with_reducible exact Below.refl _ _) | (with_reducible assumption) | (with_reducible apply bl_alloc) | (with_reducible apply bl_drewN) | (with_reducible apply bl_drew) | (with_reducible refine bl_set ?_ (by first | (simp; done) | (simp; omega)) _) | (with_reducible refine bl_call ?_ (by assumption)))); done)) | (go_keep; done)) (first
        | (have t := hr2; go_at_call 16; refine (nodes_at RC.out HSY.out HCY.out (F2.out _ (by (repeat (first | (with_reducible exact Below.refl _ _) | (with_reducible assumption) | (with_reducible apply bl_alloc) | (with_reducible apply bl_drewN) | (with_reducible apply bl_drew) | (with_reducible refine bl_set ?_ (by first | (simp; done) | (simp; omega)) _) | (with_reducible refine bl_call ?_ (by assumption)))))).2).mono ?_; rintro e r3 ⟨rfl, hr3⟩)
        | (have t := hr1; go_at_call 16; refine (nodes_at RB.out HSX.out HCX.out (F1.out _ (by (repeat (first | (with_reducible exact Below.refl _ _) | (with_reducible assumption) | (with_reducible apply bl_alloc) | (with_reducible apply bl_drewN) | (with_reducible apply bl_drew) | (with_reducible refine bl_set ?_ (by first | (simp; done) | (simp; omega)) _) | (with_reducible refine bl_call ?_ (by assumption)))))).2).mono ?_; rintro e r2 ⟨rfl, hr2⟩)
        | (go_at_call 16; refine (nodes_at RA.out HSZ.out HCZ.out (F4.out _ (by (repeat (first | (with_reducible exact Below.refl _ _) | (with_reducible assumption) | (with_reducible apply bl_alloc) | (with_reducible apply bl_drewN) | (with_reducible apply bl_drew) | (with_reducible refine bl_set ?_ (by first | (simp; done) | (simp; omega)) _) | (with_reducible refine bl_call ?_ (by assumption)))))).2).mono ?_; rintro e r1 ⟨rfl, hr1⟩)
        | (have t := hr5; go_at_call 18; refine (depth_at RDY.out HCY.out (F2.out _ (by (repeat (first | (with_reducible exact Below.refl _ _) | (with_reducible assumption) | (with_reducible apply bl_alloc) | (with_reducible apply bl_drewN) | (with_reducible apply bl_drew) | (with_reducible refine bl_set ?_ (by first | (simp; done) | (simp; omega)) _) | (with_reducible refine bl_call ?_ (by assumption)))))).2).mono ?_; rintro e r6 ⟨rfl, hr6⟩)
        | (have t := hr4; go_at_call 18; refine (depth_at RDX.out HCX.out (F1.out _ (by (repeat (first | (with_reducible exact Below.refl _ _) | (with_reducible assumption) | (with_reducible apply bl_alloc) | (with_reducible apply bl_drewN) | (with_reducible apply bl_drew) | (with_reducible refine bl_set ?_ (by first | (simp; done) | (simp; omega)) _) | (with_reducible refine bl_call ?_ (by assumption)))))).2).mono ?_; rintro e r5 ⟨rfl, hr5⟩)
        | (go_at_call 18; refine (depth_at RDZ.out HCZ.out (F4.out _ (by (repeat (first | (with_reducible exact Below.refl _ _) | (with_reducible assumption) | (with_reducible apply bl_alloc) | (with_reducible apply bl_drewN) | (with_reducible apply bl_drew) | (with_reducible refine bl_set ?_ (by first | (simp; done) | (simp; omega)) _) | (with_reducible refine bl_call ?_ (by assumption)))))).2).mono ?_; rintro e r4 ⟨rfl, hr4⟩)
        | (go_at_call 20; refine (same_at HZ1.out (F4.out _ (by (repeat (first | (with_reducible exact Below.refl _ _) | (with_reducible assumption) | (with_reducible apply bl_alloc) | (with_reducible apply bl_drewN) | (with_reducible apply bl_drew) | (with_reducible refine bl_set ?_ (by first | (simp; done) | (simp; omega)) _) | (with_reducible refine bl_call ?_ (by assumption)))))).2 (F1.out _ (by (repeat (first | (with_reducible exact Below.refl _ _) | (with_reducible assumption) | (with_reducible apply bl_alloc) | (with_reducible apply bl_drewN) | (with_reducible apply bl_drew) | (with_reducible refine bl_set ?_ (by first | (simp; done) | (simp; omega)) _) | (with_reducible refine bl_call ?_ (by assumption)))))).2).mono ?_; rintro e r7 ⟨rfl, hr7⟩))
      all_goals
        go_wp2_with fail
        go_meet
        exact ⟨rfl, by (repeat (first | (with_reducible exact Below.refl _ _) | (with_reducible assumption) | (with_reducible apply bl_alloc) | (with_reducible apply bl_drewN) | (with_reducible apply bl_drew) | (with_reducible refine bl_set ?_ (by first | (simp; done) | (simp; omega)) _) | (with_reducible refine bl_call ?_ (by assumption))))⟩
    · have q3 : (K == 0) = false := beq_eq_false_iff_ne.2 h0
      clear h0 hk0 HZ0 HREP HNUM
      refine wp_region_held_drew (S := (fun (w' : World) => (w'.cell? ⟨w.heap.size, 0, none⟩ = some (.int .i64 x.o) ∧ w'.cell? ⟨w.heap.size, 1, none⟩ = some (.string x.s) ∧ w'.cell? ⟨w.heap.size, 2, none⟩ = some (.int .i64 x.n) ∧ w'.cell? ⟨w.heap.size, 3, none⟩ = some (.slice p m c)) ∧ (w'.cell? ⟨(w.heap.size + 1), 0, none⟩ = some (.int .i64 y.o) ∧ w'.cell? ⟨(w.heap.size + 1), 1, none⟩ = some (.string y.s) ∧ w'.cell? ⟨(w.heap.size + 1), 2, none⟩ = some (.int .i64 y.n) ∧ w'.cell? ⟨(w.heap.size + 1), 3, none⟩ = some (.slice p2 m2 c2)) ∧ (w'.cell? ⟨g4, 0, none⟩ = some (.int .i64 z.o) ∧ w'.cell? ⟨g4, 1, none⟩ = some (.string z.s) ∧ w'.cell? ⟨g4, 2, none⟩ = some (.int .i64 z.n) ∧ w'.cell? ⟨g4, 3, none⟩ = some (.slice p4 m4 c4)))) (by kernel_rfl) (show ((fun (w' : World) => (w'.cell? ⟨w.heap.size, 0, none⟩ = some (.int .i64 x.o) ∧ w'.cell? ⟨w.heap.size, 1, none⟩ = some (.string x.s) ∧ w'.cell? ⟨w.heap.size, 2, none⟩ = some (.int .i64 x.n) ∧ w'.cell? ⟨w.heap.size, 3, none⟩ = some (.slice p m c)) ∧ (w'.cell? ⟨(w.heap.size + 1), 0, none⟩ = some (.int .i64 y.o) ∧ w'.cell? ⟨(w.heap.size + 1), 1, none⟩ = some (.string y.s) ∧ w'.cell? ⟨(w.heap.size + 1), 2, none⟩ = some (.int .i64 y.n) ∧ w'.cell? ⟨(w.heap.size + 1), 3, none⟩ = some (.slice p2 m2 c2)) ∧ (w'.cell? ⟨g4, 0, none⟩ = some (.int .i64 z.o) ∧ w'.cell? ⟨g4, 1, none⟩ = some (.string z.s) ∧ w'.cell? ⟨g4, 2, none⟩ = some (.int .i64 z.n) ∧ w'.cell? ⟨g4, 3, none⟩ = some (.slice p4 m4 c4)))) _ from (keep12 (F1.out _ (by (repeat (first | (with_reducible exact Below.refl _ _) | (with_reducible assumption) | (with_reducible apply bl_alloc) | (with_reducible apply bl_drewN) | (with_reducible apply bl_drew) | (with_reducible refine bl_set ?_ (by first | (simp; done) | (simp; omega)) _) | (with_reducible refine bl_call ?_ (by assumption)))))).1 (F2.out _ (by (repeat (first | (with_reducible exact Below.refl _ _) | (with_reducible assumption) | (with_reducible apply bl_alloc) | (with_reducible apply bl_drewN) | (with_reducible apply bl_drew) | (with_reducible refine bl_set ?_ (by first | (simp; done) | (simp; omega)) _) | (with_reducible refine bl_call ?_ (by assumption)))))).1 (F4.out _ (by (repeat (first | (with_reducible exact Below.refl _ _) | (with_reducible assumption) | (with_reducible apply bl_alloc) | (with_reducible apply bl_drewN) | (with_reducible apply bl_drew) | (with_reducible refine bl_set ?_ (by first | (simp; done) | (simp; omega)) _) | (with_reducible refine bl_call ?_ (by assumption)))))).1)) (fun hHeld => ?_)
      refine wpAnyH_take (i := 0) (oi := { dst := some 38, op := Op.load 25 (Operand.tmp 7), type := 25, pos := "law.go:146", after := #[], guard := none }) (v := ?_) rfl (by kernel_rfl) (by kernel_rfl) (by kernel_rfl) (fun _ _ _ h => h) (Or.inl ⟨by rfl, ?_⟩) (by assumption) ?_
      rotate_left 1
      · intro w' hS'
        try dsimp only at hS'
        first | (go_simp; done) | (go_simp; with_reducible rfl)
      try simp only [Act.put, List.setIfInBounds_toArray, List.set_cons_zero, List.set_cons_succ]
      refine wpAnyH_take (i := 2) (oi := { dst := some 40, op := Op.load 25 (Operand.tmp 3), type := 25, pos := "law.go:146", after := #[], guard := none }) (v := ?_) rfl (by kernel_rfl) (by kernel_rfl) (by kernel_rfl) (fun _ _ _ h => h) (Or.inl ⟨by rfl, ?_⟩) (by assumption) ?_
      rotate_left 1
      · intro w' hS'
        try dsimp only at hS'
        first | (go_simp; done) | (go_simp; with_reducible rfl)
      try simp only [Act.put, List.setIfInBounds_toArray, List.set_cons_zero, List.set_cons_succ]
      refine wpAnyH_take (i := 4) (oi := { dst := some 42, op := Op.move (Operand.tmp 8), type := 3, pos := "law.go:146", after := #[], guard := none }) (v := ?_) rfl (by kernel_rfl) (by kernel_rfl) (by kernel_rfl) (fun _ _ _ h => h) (Or.inl ⟨by rfl, ?_⟩) (by assumption) ?_
      rotate_left 1
      · intro w' hS'
        try dsimp only at hS'
        first | (go_simp; done) | (go_simp; with_reducible rfl)
      try simp only [Act.put, List.setIfInBounds_toArray, List.set_cons_zero, List.set_cons_succ]
      refine wpAnyH_take (i := 5) (oi := { dst := some 43, op := Op.load 25 (Operand.tmp 5), type := 25, pos := "law.go:146", after := #[], guard := none }) (v := ?_) rfl (by kernel_rfl) (by kernel_rfl) (by kernel_rfl) (fun _ _ _ h => h) (Or.inl ⟨by rfl, ?_⟩) (by assumption) ?_
      rotate_left 1
      · intro w' hS'
        try dsimp only at hS'
        first | (go_simp; done) | (go_simp; with_reducible rfl)
      try simp only [Act.put, List.setIfInBounds_toArray, List.set_cons_zero, List.set_cons_succ]
      refine wpAnyH_ready (rs := [1]) (by kernel_rfl) (by simp) ?_
      refine AllReadyH.cons (o := { dst := some 39, op := Op.call { callee := Callee.value (Operand.func 16), args := #[Operand.tmp 38], argTypes := #[25] }, type := 3, pos := "law.go:146", after := #[{ on := 0, ground := Ground.data }], guard := none }) rfl (fun K hK => ?_) ?_
      rotate_left 1
      · exact AllReadyH.nil
      go_simp
      refine (nodes_at RA.out HSZ.out HCZ.out (F4.out _ (by (repeat (first | (with_reducible exact Below.refl _ _) | (with_reducible assumption) | (with_reducible apply bl_alloc) | (with_reducible apply bl_drewN) | (with_reducible apply bl_drew) | (with_reducible refine bl_set ?_ (by first | (simp; done) | (simp; omega)) _) | (with_reducible refine bl_call ?_ (by assumption)))))).2).mono ?_
      rintro e r1 ⟨rfl, hr1⟩
      clear hHeld
      refine hK.out _ _ (show ((fun (w' : World) => (w'.cell? ⟨w.heap.size, 0, none⟩ = some (.int .i64 x.o) ∧ w'.cell? ⟨w.heap.size, 1, none⟩ = some (.string x.s) ∧ w'.cell? ⟨w.heap.size, 2, none⟩ = some (.int .i64 x.n) ∧ w'.cell? ⟨w.heap.size, 3, none⟩ = some (.slice p m c)) ∧ (w'.cell? ⟨(w.heap.size + 1), 0, none⟩ = some (.int .i64 y.o) ∧ w'.cell? ⟨(w.heap.size + 1), 1, none⟩ = some (.string y.s) ∧ w'.cell? ⟨(w.heap.size + 1), 2, none⟩ = some (.int .i64 y.n) ∧ w'.cell? ⟨(w.heap.size + 1), 3, none⟩ = some (.slice p2 m2 c2)) ∧ (w'.cell? ⟨g4, 0, none⟩ = some (.int .i64 z.o) ∧ w'.cell? ⟨g4, 1, none⟩ = some (.string z.s) ∧ w'.cell? ⟨g4, 2, none⟩ = some (.int .i64 z.n) ∧ w'.cell? ⟨g4, 3, none⟩ = some (.slice p4 m4 c4)))) _ from (keep12 (F1.out _ (by (repeat (first | (with_reducible exact Below.refl _ _) | (with_reducible assumption) | (with_reducible apply bl_alloc) | (with_reducible apply bl_drewN) | (with_reducible apply bl_drew) | (with_reducible refine bl_set ?_ (by first | (simp; done) | (simp; omega)) _) | (with_reducible refine bl_call ?_ (by assumption)))))).1 (F2.out _ (by (repeat (first | (with_reducible exact Below.refl _ _) | (with_reducible assumption) | (with_reducible apply bl_alloc) | (with_reducible apply bl_drewN) | (with_reducible apply bl_drew) | (with_reducible refine bl_set ?_ (by first | (simp; done) | (simp; omega)) _) | (with_reducible refine bl_call ?_ (by assumption)))))).1 (F4.out _ (by (repeat (first | (with_reducible exact Below.refl _ _) | (with_reducible assumption) | (with_reducible apply bl_alloc) | (with_reducible apply bl_drewN) | (with_reducible apply bl_drew) | (with_reducible refine bl_set ?_ (by first | (simp; done) | (simp; omega)) _) | (with_reducible refine bl_call ?_ (by assumption)))))).1)) (fun hHeld => ?_)
      clear hK K
      (try simp only [Act.put, List.setIfInBounds_toArray, List.set_cons_zero, List.set_cons_succ])
      refine wpAnyH_ready (rs := [3]) (by kernel_rfl) (by simp) ?_
      refine AllReadyH.cons (o := { dst := some 41, op := Op.call { callee := Callee.value (Operand.func 16), args := #[Operand.tmp 40], argTypes := #[25] }, type := 3, pos := "law.go:146", after := #[{ on := 2, ground := Ground.data }, { on := 1, ground := Ground.chain }], guard := none }) rfl (fun K hK => ?_) ?_
      rotate_left 1
      · exact AllReadyH.nil
      go_simp
      refine (nodes_at RB.out HSX.out HCX.out (F1.out _ (by (repeat (first | (with_reducible exact Below.refl _ _) | (with_reducible assumption) | (with_reducible apply bl_alloc) | (with_reducible apply bl_drewN) | (with_reducible apply bl_drew) | (with_reducible refine bl_set ?_ (by first | (simp; done) | (simp; omega)) _) | (with_reducible refine bl_call ?_ (by assumption)))))).2).mono ?_
      rintro e r2 ⟨rfl, hr2⟩
      clear hHeld
      refine hK.out _ _ (show ((fun (w' : World) => (w'.cell? ⟨w.heap.size, 0, none⟩ = some (.int .i64 x.o) ∧ w'.cell? ⟨w.heap.size, 1, none⟩ = some (.string x.s) ∧ w'.cell? ⟨w.heap.size, 2, none⟩ = some (.int .i64 x.n) ∧ w'.cell? ⟨w.heap.size, 3, none⟩ = some (.slice p m c)) ∧ (w'.cell? ⟨(w.heap.size + 1), 0, none⟩ = some (.int .i64 y.o) ∧ w'.cell? ⟨(w.heap.size + 1), 1, none⟩ = some (.string y.s) ∧ w'.cell? ⟨(w.heap.size + 1), 2, none⟩ = some (.int .i64 y.n) ∧ w'.cell? ⟨(w.heap.size + 1), 3, none⟩ = some (.slice p2 m2 c2)) ∧ (w'.cell? ⟨g4, 0, none⟩ = some (.int .i64 z.o) ∧ w'.cell? ⟨g4, 1, none⟩ = some (.string z.s) ∧ w'.cell? ⟨g4, 2, none⟩ = some (.int .i64 z.n) ∧ w'.cell? ⟨g4, 3, none⟩ = some (.slice p4 m4 c4)))) _ from (keep12 (F1.out _ (by (repeat (first | (with_reducible exact Below.refl _ _) | (with_reducible assumption) | (with_reducible apply bl_alloc) | (with_reducible apply bl_drewN) | (with_reducible apply bl_drew) | (with_reducible refine bl_set ?_ (by first | (simp; done) | (simp; omega)) _) | (with_reducible refine bl_call ?_ (by assumption)))))).1 (F2.out _ (by (repeat (first | (with_reducible exact Below.refl _ _) | (with_reducible assumption) | (with_reducible apply bl_alloc) | (with_reducible apply bl_drewN) | (with_reducible apply bl_drew) | (with_reducible refine bl_set ?_ (by first | (simp; done) | (simp; omega)) _) | (with_reducible refine bl_call ?_ (by assumption)))))).1 (F4.out _ (by (repeat (first | (with_reducible exact Below.refl _ _) | (with_reducible assumption) | (with_reducible apply bl_alloc) | (with_reducible apply bl_drewN) | (with_reducible apply bl_drew) | (with_reducible refine bl_set ?_ (by first | (simp; done) | (simp; omega)) _) | (with_reducible refine bl_call ?_ (by assumption)))))).1)) (fun hHeld => ?_)
      clear hK K
      (try simp only [Act.put, List.setIfInBounds_toArray, List.set_cons_zero, List.set_cons_succ])
      refine wpAnyH_ready (rs := [6]) (by kernel_rfl) (by simp) ?_
      refine AllReadyH.cons (o := { dst := some 44, op := Op.call { callee := Callee.value (Operand.func 16), args := #[Operand.tmp 43], argTypes := #[25] }, type := 3, pos := "law.go:146", after := #[{ on := 5, ground := Ground.data }, { on := 3, ground := Ground.chain }], guard := none }) rfl (fun K hK => ?_) ?_
      rotate_left 1
      · exact AllReadyH.nil
      go_simp
      refine (nodes_at RC.out HSY.out HCY.out (F2.out _ (by (repeat (first | (with_reducible exact Below.refl _ _) | (with_reducible assumption) | (with_reducible apply bl_alloc) | (with_reducible apply bl_drewN) | (with_reducible apply bl_drew) | (with_reducible refine bl_set ?_ (by first | (simp; done) | (simp; omega)) _) | (with_reducible refine bl_call ?_ (by assumption)))))).2).mono ?_
      rintro e r3 ⟨rfl, hr3⟩
      clear hHeld
      refine hK.out _ _ (show ((fun (w' : World) => (w'.cell? ⟨w.heap.size, 0, none⟩ = some (.int .i64 x.o) ∧ w'.cell? ⟨w.heap.size, 1, none⟩ = some (.string x.s) ∧ w'.cell? ⟨w.heap.size, 2, none⟩ = some (.int .i64 x.n) ∧ w'.cell? ⟨w.heap.size, 3, none⟩ = some (.slice p m c)) ∧ (w'.cell? ⟨(w.heap.size + 1), 0, none⟩ = some (.int .i64 y.o) ∧ w'.cell? ⟨(w.heap.size + 1), 1, none⟩ = some (.string y.s) ∧ w'.cell? ⟨(w.heap.size + 1), 2, none⟩ = some (.int .i64 y.n) ∧ w'.cell? ⟨(w.heap.size + 1), 3, none⟩ = some (.slice p2 m2 c2)) ∧ (w'.cell? ⟨g4, 0, none⟩ = some (.int .i64 z.o) ∧ w'.cell? ⟨g4, 1, none⟩ = some (.string z.s) ∧ w'.cell? ⟨g4, 2, none⟩ = some (.int .i64 z.n) ∧ w'.cell? ⟨g4, 3, none⟩ = some (.slice p4 m4 c4)))) _ from (keep12 (F1.out _ (by (repeat (first | (with_reducible exact Below.refl _ _) | (with_reducible assumption) | (with_reducible apply bl_alloc) | (with_reducible apply bl_drewN) | (with_reducible apply bl_drew) | (with_reducible refine bl_set ?_ (by first | (simp; done) | (simp; omega)) _) | (with_reducible refine bl_call ?_ (by assumption)))))).1 (F2.out _ (by (repeat (first | (with_reducible exact Below.refl _ _) | (with_reducible assumption) | (with_reducible apply bl_alloc) | (with_reducible apply bl_drewN) | (with_reducible apply bl_drew) | (with_reducible refine bl_set ?_ (by first | (simp; done) | (simp; omega)) _) | (with_reducible refine bl_call ?_ (by assumption)))))).1 (F4.out _ (by (repeat (first | (with_reducible exact Below.refl _ _) | (with_reducible assumption) | (with_reducible apply bl_alloc) | (with_reducible apply bl_drewN) | (with_reducible apply bl_drew) | (with_reducible refine bl_set ?_ (by first | (simp; done) | (simp; omega)) _) | (with_reducible refine bl_call ?_ (by assumption)))))).1)) (fun hHeld => ?_)
      clear hK K
      (try simp only [Act.put, List.setIfInBounds_toArray, List.set_cons_zero, List.set_cons_succ])
      refine wpAnyH_take (i := 7) (oi := { dst := some 45, op := Op.binOp BinOp.sub 3 (Operand.tmp 44) (Operand.const (Value.int IntKind.i64 1)) 3, type := 3, pos := "law.go:146", after := #[{ on := 6, ground := Ground.data }], guard := none }) (v := ?_) rfl (by kernel_rfl) (by kernel_rfl) (by kernel_rfl) (fun _ _ _ h => h) (Or.inl ⟨by rfl, ?_⟩) (by assumption) ?_
      rotate_left 1
      · intro w' hS'
        try dsimp only at hS'
        first | (go_simp; done) | (go_simp; with_reducible rfl)
      try simp only [Act.put, List.setIfInBounds_toArray, List.set_cons_zero, List.set_cons_succ]
      refine wpAnyH_take (i := 8) (oi := { dst := some 46, op := Op.binOp BinOp.mul 3 (Operand.tmp 42) (Operand.tmp 45) 3, type := 3, pos := "law.go:146", after := #[{ on := 4, ground := Ground.data }, { on := 7, ground := Ground.data }], guard := none }) (v := ?_) rfl (by kernel_rfl) (by kernel_rfl) (by kernel_rfl) (fun _ _ _ h => h) (Or.inl ⟨by rfl, ?_⟩) (by assumption) ?_
      rotate_left 1
      · intro w' hS'
        try dsimp only at hS'
        first | (go_simp; done) | (go_simp; with_reducible rfl)
      try simp only [Act.put, List.setIfInBounds_toArray, List.set_cons_zero, List.set_cons_succ]
      refine wpAnyH_take (i := 9) (oi := { dst := some 47, op := Op.binOp BinOp.add 3 (Operand.tmp 41) (Operand.tmp 46) 3, type := 3, pos := "law.go:146", after := #[{ on := 3, ground := Ground.data }, { on := 8, ground := Ground.data }], guard := none }) (v := ?_) rfl (by kernel_rfl) (by kernel_rfl) (by kernel_rfl) (fun _ _ _ h => h) (Or.inl ⟨by rfl, ?_⟩) (by assumption) ?_
      rotate_left 1
      · intro w' hS'
        try dsimp only at hS'
        first | (go_simp; done) | (go_simp; with_reducible rfl)
      try simp only [Act.put, List.setIfInBounds_toArray, List.set_cons_zero, List.set_cons_succ]
      refine wpAnyH_take (i := 10) (oi := { dst := some 48, op := Op.binOp BinOp.neq 3 (Operand.tmp 39) (Operand.tmp 47) 3, type := 4, pos := "law.go:146", after := #[{ on := 1, ground := Ground.data }, { on := 9, ground := Ground.data }], guard := none }) (v := ?_) rfl (by kernel_rfl) (by kernel_rfl) (by kernel_rfl) (fun _ _ _ h => h) (Or.inl ⟨by rfl, ?_⟩) (by assumption) ?_
      rotate_left 1
      · intro w' hS'
        try dsimp only at hS'
        first | (go_simp; done) | (go_simp; with_reducible rfl)
      try simp only [Act.put, List.setIfInBounds_toArray, List.set_cons_zero, List.set_cons_succ]
      refine wpAnyH_take (i := 11) (oi := { dst := some 49, op := Op.move (Operand.tmp 48), type := 4, pos := "law.go:146", after := #[{ on := 10, ground := Ground.data }, { on := 6, ground := Ground.chain }], guard := none }) (v := ?_) rfl (by kernel_rfl) (by kernel_rfl) (by kernel_rfl) (fun _ _ _ h => h) (Or.inl ⟨by rfl, ?_⟩) (by assumption) ?_
      rotate_left 1
      · intro w' hS'
        try dsimp only at hS'
        first | (go_simp; done) | (go_simp; with_reducible rfl)
      try simp only [Act.put, List.setIfInBounds_toArray, List.set_cons_zero, List.set_cons_succ]
      refine wpAnyH_take (i := 12) (oi := { dst := some 50, op := Op.load 25 (Operand.tmp 7), type := 25, pos := "law.go:146", after := #[{ on := 11, ground := Ground.guard }], guard := some (11, false) }) (v := ?_) rfl (by kernel_rfl) (by kernel_rfl) (by kernel_rfl) (fun _ _ _ h => h) (Or.inl ⟨by rfl, ?_⟩) (by assumption) ?_
      rotate_left 1
      · intro w' hS'
        try dsimp only at hS'
        first | (go_simp; done) | (go_simp; with_reducible rfl)
      try simp only [Act.put, List.setIfInBounds_toArray, List.set_cons_zero, List.set_cons_succ]
      refine wpAnyH_take (i := 14) (oi := { dst := some 52, op := Op.load 25 (Operand.tmp 3), type := 25, pos := "law.go:146", after := #[{ on := 11, ground := Ground.guard }], guard := some (11, false) }) (v := ?_) rfl (by kernel_rfl) (by kernel_rfl) (by kernel_rfl) (fun _ _ _ h => h) (Or.inl ⟨by rfl, ?_⟩) (by assumption) ?_
      rotate_left 1
      · intro w' hS'
        try dsimp only at hS'
        first | (go_simp; done) | (go_simp; with_reducible rfl)
      try simp only [Act.put, List.setIfInBounds_toArray, List.set_cons_zero, List.set_cons_succ]
      refine wpAnyH_take (i := 16) (oi := { dst := some 54, op := Op.load 25 (Operand.tmp 5), type := 25, pos := "law.go:146", after := #[{ on := 11, ground := Ground.guard }], guard := some (11, false) }) (v := ?_) rfl (by kernel_rfl) (by kernel_rfl) (by kernel_rfl) (fun _ _ _ h => h) (Or.inl ⟨by rfl, ?_⟩) (by assumption) ?_
      rotate_left 1
      · intro w' hS'
        try dsimp only at hS'
        first | (go_simp; done) | (go_simp; with_reducible rfl)
      try simp only [Act.put, List.setIfInBounds_toArray, List.set_cons_zero, List.set_cons_succ]
      refine wpAnyH_ready (rs := [13]) (by kernel_rfl) (by simp) ?_
      refine AllReadyH.cons (o := { dst := some 51, op := Op.call { callee := Callee.value (Operand.func 18), args := #[Operand.tmp 50], argTypes := #[25] }, type := 3, pos := "law.go:146", after := #[{ on := 12, ground := Ground.data }, { on := 11, ground := Ground.chain }, { on := 11, ground := Ground.guard }], guard := some (11, false) }) rfl (fun K hK => ?_) ?_
      rotate_left 1
      · exact AllReadyH.nil
      go_simp
      refine (depth_at RDZ.out HCZ.out (F4.out _ (by (repeat (first | (with_reducible exact Below.refl _ _) | (with_reducible assumption) | (with_reducible apply bl_alloc) | (with_reducible apply bl_drewN) | (with_reducible apply bl_drew) | (with_reducible refine bl_set ?_ (by first | (simp; done) | (simp; omega)) _) | (with_reducible refine bl_call ?_ (by assumption)))))).2).mono ?_
      rintro e r4 ⟨rfl, hr4⟩
      clear hHeld
      refine hK.out _ _ (show ((fun (w' : World) => (w'.cell? ⟨w.heap.size, 0, none⟩ = some (.int .i64 x.o) ∧ w'.cell? ⟨w.heap.size, 1, none⟩ = some (.string x.s) ∧ w'.cell? ⟨w.heap.size, 2, none⟩ = some (.int .i64 x.n) ∧ w'.cell? ⟨w.heap.size, 3, none⟩ = some (.slice p m c)) ∧ (w'.cell? ⟨(w.heap.size + 1), 0, none⟩ = some (.int .i64 y.o) ∧ w'.cell? ⟨(w.heap.size + 1), 1, none⟩ = some (.string y.s) ∧ w'.cell? ⟨(w.heap.size + 1), 2, none⟩ = some (.int .i64 y.n) ∧ w'.cell? ⟨(w.heap.size + 1), 3, none⟩ = some (.slice p2 m2 c2)) ∧ (w'.cell? ⟨g4, 0, none⟩ = some (.int .i64 z.o) ∧ w'.cell? ⟨g4, 1, none⟩ = some (.string z.s) ∧ w'.cell? ⟨g4, 2, none⟩ = some (.int .i64 z.n) ∧ w'.cell? ⟨g4, 3, none⟩ = some (.slice p4 m4 c4)))) _ from (keep12 (F1.out _ (by (repeat (first | (with_reducible exact Below.refl _ _) | (with_reducible assumption) | (with_reducible apply bl_alloc) | (with_reducible apply bl_drewN) | (with_reducible apply bl_drew) | (with_reducible refine bl_set ?_ (by first | (simp; done) | (simp; omega)) _) | (with_reducible refine bl_call ?_ (by assumption)))))).1 (F2.out _ (by (repeat (first | (with_reducible exact Below.refl _ _) | (with_reducible assumption) | (with_reducible apply bl_alloc) | (with_reducible apply bl_drewN) | (with_reducible apply bl_drew) | (with_reducible refine bl_set ?_ (by first | (simp; done) | (simp; omega)) _) | (with_reducible refine bl_call ?_ (by assumption)))))).1 (F4.out _ (by (repeat (first | (with_reducible exact Below.refl _ _) | (with_reducible assumption) | (with_reducible apply bl_alloc) | (with_reducible apply bl_drewN) | (with_reducible apply bl_drew) | (with_reducible refine bl_set ?_ (by first | (simp; done) | (simp; omega)) _) | (with_reducible refine bl_call ?_ (by assumption)))))).1)) (fun hHeld => ?_)
      clear hK K
      (try simp only [Act.put, List.setIfInBounds_toArray, List.set_cons_zero, List.set_cons_succ])
      refine wpAnyH_ready (rs := [15]) (by kernel_rfl) (by simp) ?_
      refine AllReadyH.cons (o := { dst := some 53, op := Op.call { callee := Callee.value (Operand.func 18), args := #[Operand.tmp 52], argTypes := #[25] }, type := 3, pos := "law.go:146", after := #[{ on := 14, ground := Ground.data }, { on := 13, ground := Ground.chain }, { on := 11, ground := Ground.guard }], guard := some (11, false) }) rfl (fun K hK => ?_) ?_
      rotate_left 1
      · exact AllReadyH.nil
      go_simp
      refine (depth_at RDX.out HCX.out (F1.out _ (by (repeat (first | (with_reducible exact Below.refl _ _) | (with_reducible assumption) | (with_reducible apply bl_alloc) | (with_reducible apply bl_drewN) | (with_reducible apply bl_drew) | (with_reducible refine bl_set ?_ (by first | (simp; done) | (simp; omega)) _) | (with_reducible refine bl_call ?_ (by assumption)))))).2).mono ?_
      rintro e r5 ⟨rfl, hr5⟩
      clear hHeld
      refine hK.out _ _ (show ((fun (w' : World) => (w'.cell? ⟨w.heap.size, 0, none⟩ = some (.int .i64 x.o) ∧ w'.cell? ⟨w.heap.size, 1, none⟩ = some (.string x.s) ∧ w'.cell? ⟨w.heap.size, 2, none⟩ = some (.int .i64 x.n) ∧ w'.cell? ⟨w.heap.size, 3, none⟩ = some (.slice p m c)) ∧ (w'.cell? ⟨(w.heap.size + 1), 0, none⟩ = some (.int .i64 y.o) ∧ w'.cell? ⟨(w.heap.size + 1), 1, none⟩ = some (.string y.s) ∧ w'.cell? ⟨(w.heap.size + 1), 2, none⟩ = some (.int .i64 y.n) ∧ w'.cell? ⟨(w.heap.size + 1), 3, none⟩ = some (.slice p2 m2 c2)) ∧ (w'.cell? ⟨g4, 0, none⟩ = some (.int .i64 z.o) ∧ w'.cell? ⟨g4, 1, none⟩ = some (.string z.s) ∧ w'.cell? ⟨g4, 2, none⟩ = some (.int .i64 z.n) ∧ w'.cell? ⟨g4, 3, none⟩ = some (.slice p4 m4 c4)))) _ from (keep12 (F1.out _ (by (repeat (first | (with_reducible exact Below.refl _ _) | (with_reducible assumption) | (with_reducible apply bl_alloc) | (with_reducible apply bl_drewN) | (with_reducible apply bl_drew) | (with_reducible refine bl_set ?_ (by first | (simp; done) | (simp; omega)) _) | (with_reducible refine bl_call ?_ (by assumption)))))).1 (F2.out _ (by (repeat (first | (with_reducible exact Below.refl _ _) | (with_reducible assumption) | (with_reducible apply bl_alloc) | (with_reducible apply bl_drewN) | (with_reducible apply bl_drew) | (with_reducible refine bl_set ?_ (by first | (simp; done) | (simp; omega)) _) | (with_reducible refine bl_call ?_ (by assumption)))))).1 (F4.out _ (by (repeat (first | (with_reducible exact Below.refl _ _) | (with_reducible assumption) | (with_reducible apply bl_alloc) | (with_reducible apply bl_drewN) | (with_reducible apply bl_drew) | (with_reducible refine bl_set ?_ (by first | (simp; done) | (simp; omega)) _) | (with_reducible refine bl_call ?_ (by assumption)))))).1)) (fun hHeld => ?_)
      clear hK K
      (try simp only [Act.put, List.setIfInBounds_toArray, List.set_cons_zero, List.set_cons_succ])
      refine wpAnyH_ready (rs := [17]) (by kernel_rfl) (by simp) ?_
      refine AllReadyH.cons (o := { dst := some 55, op := Op.call { callee := Callee.value (Operand.func 18), args := #[Operand.tmp 54], argTypes := #[25] }, type := 3, pos := "law.go:146", after := #[{ on := 16, ground := Ground.data }, { on := 15, ground := Ground.chain }, { on := 11, ground := Ground.guard }], guard := some (11, false) }) rfl (fun K hK => ?_) ?_
      rotate_left 1
      · exact AllReadyH.nil
      go_simp
      refine (depth_at RDY.out HCY.out (F2.out _ (by (repeat (first | (with_reducible exact Below.refl _ _) | (with_reducible assumption) | (with_reducible apply bl_alloc) | (with_reducible apply bl_drewN) | (with_reducible apply bl_drew) | (with_reducible refine bl_set ?_ (by first | (simp; done) | (simp; omega)) _) | (with_reducible refine bl_call ?_ (by assumption)))))).2).mono ?_
      rintro e r6 ⟨rfl, hr6⟩
      clear hHeld
      refine hK.out _ _ (show ((fun (w' : World) => (w'.cell? ⟨w.heap.size, 0, none⟩ = some (.int .i64 x.o) ∧ w'.cell? ⟨w.heap.size, 1, none⟩ = some (.string x.s) ∧ w'.cell? ⟨w.heap.size, 2, none⟩ = some (.int .i64 x.n) ∧ w'.cell? ⟨w.heap.size, 3, none⟩ = some (.slice p m c)) ∧ (w'.cell? ⟨(w.heap.size + 1), 0, none⟩ = some (.int .i64 y.o) ∧ w'.cell? ⟨(w.heap.size + 1), 1, none⟩ = some (.string y.s) ∧ w'.cell? ⟨(w.heap.size + 1), 2, none⟩ = some (.int .i64 y.n) ∧ w'.cell? ⟨(w.heap.size + 1), 3, none⟩ = some (.slice p2 m2 c2)) ∧ (w'.cell? ⟨g4, 0, none⟩ = some (.int .i64 z.o) ∧ w'.cell? ⟨g4, 1, none⟩ = some (.string z.s) ∧ w'.cell? ⟨g4, 2, none⟩ = some (.int .i64 z.n) ∧ w'.cell? ⟨g4, 3, none⟩ = some (.slice p4 m4 c4)))) _ from (keep12 (F1.out _ (by (repeat (first | (with_reducible exact Below.refl _ _) | (with_reducible assumption) | (with_reducible apply bl_alloc) | (with_reducible apply bl_drewN) | (with_reducible apply bl_drew) | (with_reducible refine bl_set ?_ (by first | (simp; done) | (simp; omega)) _) | (with_reducible refine bl_call ?_ (by assumption)))))).1 (F2.out _ (by (repeat (first | (with_reducible exact Below.refl _ _) | (with_reducible assumption) | (with_reducible apply bl_alloc) | (with_reducible apply bl_drewN) | (with_reducible apply bl_drew) | (with_reducible refine bl_set ?_ (by first | (simp; done) | (simp; omega)) _) | (with_reducible refine bl_call ?_ (by assumption)))))).1 (F4.out _ (by (repeat (first | (with_reducible exact Below.refl _ _) | (with_reducible assumption) | (with_reducible apply bl_alloc) | (with_reducible apply bl_drewN) | (with_reducible apply bl_drew) | (with_reducible refine bl_set ?_ (by first | (simp; done) | (simp; omega)) _) | (with_reducible refine bl_call ?_ (by assumption)))))).1)) (fun hHeld => ?_)
      clear hK K
      (try simp only [Act.put, List.setIfInBounds_toArray, List.set_cons_zero, List.set_cons_succ])
      refine wpAnyH_take (i := 18) (oi := { dst := some 56, op := Op.binOp BinOp.add 3 (Operand.tmp 53) (Operand.tmp 55) 3, type := 3, pos := "law.go:146", after := #[{ on := 15, ground := Ground.data }, { on := 17, ground := Ground.data }, { on := 11, ground := Ground.guard }], guard := some (11, false) }) (v := ?_) rfl (by kernel_rfl) (by kernel_rfl) (by kernel_rfl) (fun _ _ _ h => h) (Or.inl ⟨by rfl, ?_⟩) (by assumption) ?_
      rotate_left 1
      · intro w' hS'
        try dsimp only at hS'
        first | (go_simp; done) | (go_simp; with_reducible rfl)
      try simp only [Act.put, List.setIfInBounds_toArray, List.set_cons_zero, List.set_cons_succ]
      refine wpAnyH_take (i := 19) (oi := { dst := some 57, op := Op.binOp BinOp.gtr 3 (Operand.tmp 51) (Operand.tmp 56) 3, type := 4, pos := "law.go:146", after := #[{ on := 13, ground := Ground.data }, { on := 18, ground := Ground.data }, { on := 11, ground := Ground.guard }], guard := some (11, false) }) (v := ?_) rfl (by kernel_rfl) (by kernel_rfl) (by kernel_rfl) (fun _ _ _ h => h) (Or.inl ⟨by rfl, ?_⟩) (by assumption) ?_
      rotate_left 1
      · intro w' hS'
        try dsimp only at hS'
        first | (go_simp; done) | (go_simp; with_reducible rfl)
      try simp only [Act.put, List.setIfInBounds_toArray, List.set_cons_zero, List.set_cons_succ]
      refine wpAnyH_take (i := 20) (oi := { dst := some 58, op := Op.pick (Operand.tmp 49) (Operand.const (Value.bool true)) (Operand.tmp 57), type := 4, pos := "law.go:146", after := #[{ on := 11, ground := Ground.data }, { on := 19, ground := Ground.data }], guard := none }) (v := ?_) rfl (by kernel_rfl) (by kernel_rfl) (by kernel_rfl) (fun _ _ _ h => h) (Or.inl ⟨by rfl, ?_⟩) (by assumption) ?_
      rotate_left 1
      · intro w' hS'
        try dsimp only at hS'
        first | (go_simp; done) | (go_simp; with_reducible rfl)
      try simp only [Act.put, List.setIfInBounds_toArray, List.set_cons_zero, List.set_cons_succ]
      refine wpAnyH_take (i := 21) (oi := { dst := some 59, op := Op.move (Operand.tmp 58), type := 4, pos := "law.go:146", after := #[{ on := 20, ground := Ground.data }, { on := 17, ground := Ground.chain }], guard := none }) (v := ?_) rfl (by kernel_rfl) (by kernel_rfl) (by kernel_rfl) (fun _ _ _ h => h) (Or.inl ⟨by rfl, ?_⟩) (by assumption) ?_
      rotate_left 1
      · intro w' hS'
        try dsimp only at hS'
        first | (go_simp; done) | (go_simp; with_reducible rfl)
      try simp only [Act.put, List.setIfInBounds_toArray, List.set_cons_zero, List.set_cons_succ]
      refine wpAnyH_take (i := 22) (oi := { dst := some 60, op := Op.move (Operand.tmp 8), type := 3, pos := "law.go:146", after := #[{ on := 21, ground := Ground.guard }], guard := some (21, false) }) (v := ?_) rfl (by kernel_rfl) (by kernel_rfl) (by kernel_rfl) (fun _ _ _ h => h) (Or.inl ⟨by rfl, ?_⟩) (by assumption) ?_
      rotate_left 1
      · intro w' hS'
        try dsimp only at hS'
        first | (go_simp; done) | (go_simp; with_reducible rfl)
      try simp only [Act.put, List.setIfInBounds_toArray, List.set_cons_zero, List.set_cons_succ]
      refine wpAnyH_take (i := 23) (oi := { dst := some 61, op := Op.binOp BinOp.eql 3 (Operand.tmp 60) (Operand.const (Value.int IntKind.i64 0)) 3, type := 4, pos := "law.go:146", after := #[{ on := 22, ground := Ground.data }, { on := 21, ground := Ground.guard }], guard := some (21, false) }) (v := ?_) rfl (by kernel_rfl) (by kernel_rfl) (by kernel_rfl) (fun _ _ _ h => h) (Or.inl ⟨by rfl, ?_⟩) (by assumption) ?_
      rotate_left 1
      · intro w' hS'
        try dsimp only at hS'
        first | (go_simp; done) | (go_simp; with_reducible rfl)
      try simp only [Act.put, List.setIfInBounds_toArray, List.set_cons_zero, List.set_cons_succ]
      refine wpAnyH_take (i := 24) (oi := { dst := some 62, op := Op.move (Operand.tmp 61), type := 4, pos := "law.go:146", after := #[{ on := 23, ground := Ground.data }, { on := 21, ground := Ground.chain }, { on := 21, ground := Ground.guard }], guard := some (21, false) }) (v := ?_) rfl (by kernel_rfl) (by kernel_rfl) (by kernel_rfl) (fun _ _ _ h => h) (Or.inl ⟨by rfl, ?_⟩) (by assumption) ?_
      rotate_left 1
      · intro w' hS'
        try dsimp only at hS'
        first | (go_simp; done) | (go_simp; with_reducible rfl)
      try simp only [Act.put, List.setIfInBounds_toArray, List.set_cons_zero, List.set_cons_succ]
      refine wpAnyH_take (i := 25) (oi := { dst := some 63, op := Op.load 25 (Operand.tmp 7), type := 25, pos := "law.go:146", after := #[{ on := 24, ground := Ground.guard }], guard := some (24, true) }) (v := undef) rfl (by kernel_rfl) (by kernel_rfl) (by kernel_rfl) (fun _ _ _ h => h) (Or.inr ⟨by kernel_rfl, rfl⟩) (by assumption) ?_
      try simp only [Act.put, List.setIfInBounds_toArray, List.set_cons_zero, List.set_cons_succ]
      refine wpAnyH_take (i := 26) (oi := { dst := some 64, op := Op.load 25 (Operand.tmp 3), type := 25, pos := "law.go:146", after := #[{ on := 24, ground := Ground.guard }], guard := some (24, true) }) (v := undef) rfl (by kernel_rfl) (by kernel_rfl) (by kernel_rfl) (fun _ _ _ h => h) (Or.inr ⟨by kernel_rfl, rfl⟩) (by assumption) ?_
      try simp only [Act.put, List.setIfInBounds_toArray, List.set_cons_zero, List.set_cons_succ]
      refine wpAnyH_take (i := 27) (oi := { dst := some 65, op := Op.call { callee := Callee.value (Operand.func 20), args := #[Operand.tmp 63, Operand.tmp 64], argTypes := #[25, 25] }, type := 4, pos := "law.go:146", after := #[{ on := 25, ground := Ground.data }, { on := 26, ground := Ground.data }, { on := 24, ground := Ground.chain }, { on := 24, ground := Ground.guard }], guard := some (24, true) }) (v := undef) rfl (by kernel_rfl) (by kernel_rfl) (by kernel_rfl) (fun _ _ _ h => h) (Or.inr ⟨by kernel_rfl, rfl⟩) (by assumption) ?_
      try simp only [Act.put, List.setIfInBounds_toArray, List.set_cons_zero, List.set_cons_succ]
      refine wpAnyH_take (i := 28) (oi := { dst := some 66, op := Op.unOp UnOp.not 4 (Operand.tmp 65), type := 4, pos := "law.go:146", after := #[{ on := 27, ground := Ground.data }, { on := 24, ground := Ground.guard }], guard := some (24, true) }) (v := undef) rfl (by kernel_rfl) (by kernel_rfl) (by kernel_rfl) (fun _ _ _ h => h) (Or.inr ⟨by kernel_rfl, rfl⟩) (by assumption) ?_
      try simp only [Act.put, List.setIfInBounds_toArray, List.set_cons_zero, List.set_cons_succ]
      refine wpAnyH_take (i := 29) (oi := { dst := some 67, op := Op.pick (Operand.tmp 62) (Operand.tmp 66) (Operand.const (Value.bool false)), type := 4, pos := "law.go:146", after := #[{ on := 24, ground := Ground.data }, { on := 28, ground := Ground.data }, { on := 21, ground := Ground.guard }], guard := some (21, false) }) (v := ?_) rfl (by kernel_rfl) (by kernel_rfl) (by kernel_rfl) (fun _ _ _ h => h) (Or.inl ⟨by rfl, ?_⟩) (by assumption) ?_
      rotate_left 1
      · intro w' hS'
        try dsimp only at hS'
        first | (go_simp; done) | (go_simp; with_reducible rfl)
      try simp only [Act.put, List.setIfInBounds_toArray, List.set_cons_zero, List.set_cons_succ]
      refine wpAnyH_take (i := 30) (oi := { dst := some 68, op := Op.pick (Operand.tmp 59) (Operand.const (Value.bool true)) (Operand.tmp 67), type := 4, pos := "law.go:146", after := #[{ on := 21, ground := Ground.data }, { on := 29, ground := Ground.data }], guard := none }) (v := ?_) rfl (by kernel_rfl) (by kernel_rfl) (by kernel_rfl) (fun _ _ _ h => h) (Or.inl ⟨by rfl, ?_⟩) (by assumption) ?_
      rotate_left 1
      · intro w' hS'
        try dsimp only at hS'
        first | (go_simp; done) | (go_simp; with_reducible rfl)
      try simp only [Act.put, List.setIfInBounds_toArray, List.set_cons_zero, List.set_cons_succ]
      refine wpAnyH_done (by kernel_rfl) ?_ _
      clear hHeld
      go_wp2_with fail
      go_meet
      exact ⟨rfl, by (repeat (first | (with_reducible exact Below.refl _ _) | (with_reducible assumption) | (with_reducible apply bl_alloc) | (with_reducible apply bl_drewN) | (with_reducible apply bl_drew) | (with_reducible refine bl_set ?_ (by first | (simp; done) | (simp; omega)) _) | (with_reducible refine bl_call ?_ (by assumption))))⟩
  case rest =>
    obtain ⟨rfl, hb6⟩ := hcut
    replace F1 := (F1.out _ hb6).far
    replace F2 := (F2.out _ hb6).far
    replace F4 := (F4.out _ hb6).far
    replace HB : Hid (Below w.heap.size w wc) := Lib.hid (by have HBB := HB.out; (repeat (first | (with_reducible exact Below.refl _ _) | (with_reducible assumption) | (with_reducible apply bl_alloc) | (with_reducible apply bl_drewN) | (with_reducible apply bl_drew) | (with_reducible refine bl_set ?_ (by first | (simp; done) | (simp; omega)) _) | (with_reducible refine bl_call ?_ (by assumption)))))
    clear x0 x1 x2 x3 y0 y1 y2 y3 z0 z1 z2 z3
    clear hb6 HZ0 HNUM RA RB RC RDX RDY RDZ
    obtain ⟨U, hU⟩ : ∃ U, U = wc := ⟨_, rfl⟩
    rw [← hU] at F1 F2 F4 HB
    rw [← hU]
    clear hU
    obtain ⟨x0, x1, x2, x3⟩ := (F1.out U (by (repeat (first | (with_reducible exact Below.refl _ _) | (with_reducible assumption) | (with_reducible apply bl_alloc) | (with_reducible apply bl_drewN) | (with_reducible apply bl_drew) | (with_reducible refine bl_set ?_ (by first | (simp; done) | (simp; omega)) _) | (with_reducible refine bl_call ?_ (by assumption)))))).1
    obtain ⟨y0, y1, y2, y3⟩ := (F2.out U (by (repeat (first | (with_reducible exact Below.refl _ _) | (with_reducible assumption) | (with_reducible apply bl_alloc) | (with_reducible apply bl_drewN) | (with_reducible apply bl_drew) | (with_reducible refine bl_set ?_ (by first | (simp; done) | (simp; omega)) _) | (with_reducible refine bl_call ?_ (by assumption)))))).1
    obtain ⟨z0, z1, z2, z3⟩ := (F4.out U (by (repeat (first | (with_reducible exact Below.refl _ _) | (with_reducible assumption) | (with_reducible apply bl_alloc) | (with_reducible apply bl_drewN) | (with_reducible apply bl_drew) | (with_reducible refine bl_set ?_ (by first | (simp; done) | (simp; omega)) _) | (with_reducible refine bl_call ?_ (by assumption)))))).1
    go_upto_region 7 with (fail)
    go_cut [85] (fun v wx => (v = .bool true ∨ v = .bool false ∧ OKs vz vx vy K) ∧ Below U.heap.size U wx)
    case first =>
      clear HREP
      by_cases k1 : vz = 0
      · subst k1
        by_cases k2 : vx = 0
        · subst k2
          by_cases k3 : 0 < K
          · have q3 : decide (0 < K) = true := decide_eq_true k3
            by_cases k4 : vy = 0
            · subst k4
              have hok : OKs 0 0 0 K := ⟨rfl, rfl, fun _ => rfl⟩
              go_wp2_with fail
              refine (check_at RVZ.out HSZ.out HCZ.out (F4.out _ (Below.refl _ _)).2).mono ?_
              rintro e r1 ⟨rfl, hr1⟩
              clear x0 x1 x2 x3 y0 y1 y2 y3 z0 z1 z2 z3
              obtain ⟨x0, x1, x2, x3⟩ := (F1.out r1 (by (repeat (first | (with_reducible exact Below.refl _ _) | (with_reducible assumption) | (with_reducible apply bl_alloc) | (with_reducible apply bl_drewN) | (with_reducible apply bl_drew) | (with_reducible refine bl_set ?_ (by first | (simp; done) | (simp; omega)) _) | (with_reducible refine bl_call ?_ (by assumption)))))).1
              obtain ⟨y0, y1, y2, y3⟩ := (F2.out r1 (by (repeat (first | (with_reducible exact Below.refl _ _) | (with_reducible assumption) | (with_reducible apply bl_alloc) | (with_reducible apply bl_drewN) | (with_reducible apply bl_drew) | (with_reducible refine bl_set ?_ (by first | (simp; done) | (simp; omega)) _) | (with_reducible refine bl_call ?_ (by assumption)))))).1
              obtain ⟨z0, z1, z2, z3⟩ := (F4.out r1 (by (repeat (first | (with_reducible exact Below.refl _ _) | (with_reducible assumption) | (with_reducible apply bl_alloc) | (with_reducible apply bl_drewN) | (with_reducible apply bl_drew) | (with_reducible refine bl_set ?_ (by first | (simp; done) | (simp; omega)) _) | (with_reducible refine bl_call ?_ (by assumption)))))).1
              go_wp2_with fail
              refine (check_at RVX.out HSX.out HCX.out (F1.out _ (by (repeat (first | (with_reducible exact Below.refl _ _) | (with_reducible assumption) | (with_reducible apply bl_alloc) | (with_reducible apply bl_drewN) | (with_reducible apply bl_drew) | (with_reducible refine bl_set ?_ (by first | (simp; done) | (simp; omega)) _) | (with_reducible refine bl_call ?_ (by assumption)))))).2).mono ?_
              rintro e r2 ⟨rfl, hr2⟩
              clear x0 x1 x2 x3 y0 y1 y2 y3 z0 z1 z2 z3
              obtain ⟨x0, x1, x2, x3⟩ := (F1.out r2 (by (repeat (first | (with_reducible exact Below.refl _ _) | (with_reducible assumption) | (with_reducible apply bl_alloc) | (with_reducible apply bl_drewN) | (with_reducible apply bl_drew) | (with_reducible refine bl_set ?_ (by first | (simp; done) | (simp; omega)) _) | (with_reducible refine bl_call ?_ (by assumption)))))).1
              obtain ⟨y0, y1, y2, y3⟩ := (F2.out r2 (by (repeat (first | (with_reducible exact Below.refl _ _) | (with_reducible assumption) | (with_reducible apply bl_alloc) | (with_reducible apply bl_drewN) | (with_reducible apply bl_drew) | (with_reducible refine bl_set ?_ (by first | (simp; done) | (simp; omega)) _) | (with_reducible refine bl_call ?_ (by assumption)))))).1
              obtain ⟨z0, z1, z2, z3⟩ := (F4.out r2 (by (repeat (first | (with_reducible exact Below.refl _ _) | (with_reducible assumption) | (with_reducible apply bl_alloc) | (with_reducible apply bl_drewN) | (with_reducible apply bl_drew) | (with_reducible refine bl_set ?_ (by first | (simp; done) | (simp; omega)) _) | (with_reducible refine bl_call ?_ (by assumption)))))).1
              go_wp2_with fail
              refine (check_at RVY.out HSY.out HCY.out (F2.out _ (by (repeat (first | (with_reducible exact Below.refl _ _) | (with_reducible assumption) | (with_reducible apply bl_alloc) | (with_reducible apply bl_drewN) | (with_reducible apply bl_drew) | (with_reducible refine bl_set ?_ (by first | (simp; done) | (simp; omega)) _) | (with_reducible refine bl_call ?_ (by assumption)))))).2).mono ?_
              rintro e r3 ⟨rfl, hr3⟩
              go_wp2_with fail
              go_meet
              exact ⟨.inr ⟨rfl, by first | trivial | exact hok⟩, by (repeat (first | (with_reducible exact Below.refl _ _) | (with_reducible assumption) | (with_reducible apply bl_alloc) | (with_reducible apply bl_drewN) | (with_reducible apply bl_drew) | (with_reducible refine bl_set ?_ (by first | (simp; done) | (simp; omega)) _) | (with_reducible refine bl_call ?_ (by assumption))))⟩
            · have t4 : (vy == 0) = false := beq_eq_false_iff_ne.2 k4
              have t5 : (vy != 0) = true := bne_iff_ne.2 k4
              go_wp2_with fail
              refine (check_at RVZ.out HSZ.out HCZ.out (F4.out _ (Below.refl _ _)).2).mono ?_
              rintro e r1 ⟨rfl, hr1⟩
              clear x0 x1 x2 x3 y0 y1 y2 y3 z0 z1 z2 z3
              obtain ⟨x0, x1, x2, x3⟩ := (F1.out r1 (by (repeat (first | (with_reducible exact Below.refl _ _) | (with_reducible assumption) | (with_reducible apply bl_alloc) | (with_reducible apply bl_drewN) | (with_reducible apply bl_drew) | (with_reducible refine bl_set ?_ (by first | (simp; done) | (simp; omega)) _) | (with_reducible refine bl_call ?_ (by assumption)))))).1
              obtain ⟨y0, y1, y2, y3⟩ := (F2.out r1 (by (repeat (first | (with_reducible exact Below.refl _ _) | (with_reducible assumption) | (with_reducible apply bl_alloc) | (with_reducible apply bl_drewN) | (with_reducible apply bl_drew) | (with_reducible refine bl_set ?_ (by first | (simp; done) | (simp; omega)) _) | (with_reducible refine bl_call ?_ (by assumption)))))).1
              obtain ⟨z0, z1, z2, z3⟩ := (F4.out r1 (by (repeat (first | (with_reducible exact Below.refl _ _) | (with_reducible assumption) | (with_reducible apply bl_alloc) | (with_reducible apply bl_drewN) | (with_reducible apply bl_drew) | (with_reducible refine bl_set ?_ (by first | (simp; done) | (simp; omega)) _) | (with_reducible refine bl_call ?_ (by assumption)))))).1
              go_wp2_with fail
              refine (check_at RVX.out HSX.out HCX.out (F1.out _ (by (repeat (first | (with_reducible exact Below.refl _ _) | (with_reducible assumption) | (with_reducible apply bl_alloc) | (with_reducible apply bl_drewN) | (with_reducible apply bl_drew) | (with_reducible refine bl_set ?_ (by first | (simp; done) | (simp; omega)) _) | (with_reducible refine bl_call ?_ (by assumption)))))).2).mono ?_
              rintro e r2 ⟨rfl, hr2⟩
              clear x0 x1 x2 x3 y0 y1 y2 y3 z0 z1 z2 z3
              obtain ⟨x0, x1, x2, x3⟩ := (F1.out r2 (by (repeat (first | (with_reducible exact Below.refl _ _) | (with_reducible assumption) | (with_reducible apply bl_alloc) | (with_reducible apply bl_drewN) | (with_reducible apply bl_drew) | (with_reducible refine bl_set ?_ (by first | (simp; done) | (simp; omega)) _) | (with_reducible refine bl_call ?_ (by assumption)))))).1
              obtain ⟨y0, y1, y2, y3⟩ := (F2.out r2 (by (repeat (first | (with_reducible exact Below.refl _ _) | (with_reducible assumption) | (with_reducible apply bl_alloc) | (with_reducible apply bl_drewN) | (with_reducible apply bl_drew) | (with_reducible refine bl_set ?_ (by first | (simp; done) | (simp; omega)) _) | (with_reducible refine bl_call ?_ (by assumption)))))).1
              obtain ⟨z0, z1, z2, z3⟩ := (F4.out r2 (by (repeat (first | (with_reducible exact Below.refl _ _) | (with_reducible assumption) | (with_reducible apply bl_alloc) | (with_reducible apply bl_drewN) | (with_reducible apply bl_drew) | (with_reducible refine bl_set ?_ (by first | (simp; done) | (simp; omega)) _) | (with_reducible refine bl_call ?_ (by assumption)))))).1
              go_wp2_with fail
              refine (check_at RVY.out HSY.out HCY.out (F2.out _ (by (repeat (first | (with_reducible exact Below.refl _ _) | (with_reducible assumption) | (with_reducible apply bl_alloc) | (with_reducible apply bl_drewN) | (with_reducible apply bl_drew) | (with_reducible refine bl_set ?_ (by first | (simp; done) | (simp; omega)) _) | (with_reducible refine bl_call ?_ (by assumption)))))).2).mono ?_
              rintro e r3 ⟨rfl, hr3⟩
              go_wp2_with fail
              go_meet
              exact ⟨.inl rfl, by (repeat (first | (with_reducible exact Below.refl _ _) | (with_reducible assumption) | (with_reducible apply bl_alloc) | (with_reducible apply bl_drewN) | (with_reducible apply bl_drew) | (with_reducible refine bl_set ?_ (by first | (simp; done) | (simp; omega)) _) | (with_reducible refine bl_call ?_ (by assumption))))⟩
          · have q3 : decide (0 < K) = false := decide_eq_false k3
            have hok : OKs 0 0 vy K := ⟨rfl, rfl, fun h => absurd h k3⟩
            clear k3
            go_wp2_with fail
            refine (check_at RVZ.out HSZ.out HCZ.out (F4.out _ (Below.refl _ _)).2).mono ?_
            rintro e r1 ⟨rfl, hr1⟩
            clear x0 x1 x2 x3 y0 y1 y2 y3 z0 z1 z2 z3
            obtain ⟨x0, x1, x2, x3⟩ := (F1.out r1 (by (repeat (first | (with_reducible exact Below.refl _ _) | (with_reducible assumption) | (with_reducible apply bl_alloc) | (with_reducible apply bl_drewN) | (with_reducible apply bl_drew) | (with_reducible refine bl_set ?_ (by first | (simp; done) | (simp; omega)) _) | (with_reducible refine bl_call ?_ (by assumption)))))).1
            obtain ⟨y0, y1, y2, y3⟩ := (F2.out r1 (by (repeat (first | (with_reducible exact Below.refl _ _) | (with_reducible assumption) | (with_reducible apply bl_alloc) | (with_reducible apply bl_drewN) | (with_reducible apply bl_drew) | (with_reducible refine bl_set ?_ (by first | (simp; done) | (simp; omega)) _) | (with_reducible refine bl_call ?_ (by assumption)))))).1
            obtain ⟨z0, z1, z2, z3⟩ := (F4.out r1 (by (repeat (first | (with_reducible exact Below.refl _ _) | (with_reducible assumption) | (with_reducible apply bl_alloc) | (with_reducible apply bl_drewN) | (with_reducible apply bl_drew) | (with_reducible refine bl_set ?_ (by first | (simp; done) | (simp; omega)) _) | (with_reducible refine bl_call ?_ (by assumption)))))).1
            go_wp2_with fail
            refine (check_at RVX.out HSX.out HCX.out (F1.out _ (by (repeat (first | (with_reducible exact Below.refl _ _) | (with_reducible assumption) | (with_reducible apply bl_alloc) | (with_reducible apply bl_drewN) | (with_reducible apply bl_drew) | (with_reducible refine bl_set ?_ (by first | (simp; done) | (simp; omega)) _) | (with_reducible refine bl_call ?_ (by assumption)))))).2).mono ?_
            rintro e r2 ⟨rfl, hr2⟩
            clear x0 x1 x2 x3 y0 y1 y2 y3 z0 z1 z2 z3
            obtain ⟨x0, x1, x2, x3⟩ := (F1.out r2 (by (repeat (first | (with_reducible exact Below.refl _ _) | (with_reducible assumption) | (with_reducible apply bl_alloc) | (with_reducible apply bl_drewN) | (with_reducible apply bl_drew) | (with_reducible refine bl_set ?_ (by first | (simp; done) | (simp; omega)) _) | (with_reducible refine bl_call ?_ (by assumption)))))).1
            obtain ⟨y0, y1, y2, y3⟩ := (F2.out r2 (by (repeat (first | (with_reducible exact Below.refl _ _) | (with_reducible assumption) | (with_reducible apply bl_alloc) | (with_reducible apply bl_drewN) | (with_reducible apply bl_drew) | (with_reducible refine bl_set ?_ (by first | (simp; done) | (simp; omega)) _) | (with_reducible refine bl_call ?_ (by assumption)))))).1
            obtain ⟨z0, z1, z2, z3⟩ := (F4.out r2 (by (repeat (first | (with_reducible exact Below.refl _ _) | (with_reducible assumption) | (with_reducible apply bl_alloc) | (with_reducible apply bl_drewN) | (with_reducible apply bl_drew) | (with_reducible refine bl_set ?_ (by first | (simp; done) | (simp; omega)) _) | (with_reducible refine bl_call ?_ (by assumption)))))).1
            go_wp2_with fail
            go_meet
            exact ⟨.inr ⟨rfl, by first | trivial | exact hok⟩, by (repeat (first | (with_reducible exact Below.refl _ _) | (with_reducible assumption) | (with_reducible apply bl_alloc) | (with_reducible apply bl_drewN) | (with_reducible apply bl_drew) | (with_reducible refine bl_set ?_ (by first | (simp; done) | (simp; omega)) _) | (with_reducible refine bl_call ?_ (by assumption))))⟩
        · have t4 : (vx == 0) = false := beq_eq_false_iff_ne.2 k2
          have t5 : (vx != 0) = true := bne_iff_ne.2 k2
          go_wp2_with fail
          refine (check_at RVZ.out HSZ.out HCZ.out (F4.out _ (Below.refl _ _)).2).mono ?_
          rintro e r1 ⟨rfl, hr1⟩
          clear x0 x1 x2 x3 y0 y1 y2 y3 z0 z1 z2 z3
          obtain ⟨x0, x1, x2, x3⟩ := (F1.out r1 (by (repeat (first | (with_reducible exact Below.refl _ _) | (with_reducible assumption) | (with_reducible apply bl_alloc) | (with_reducible apply bl_drewN) | (with_reducible apply bl_drew) | (with_reducible refine bl_set ?_ (by first | (simp; done) | (simp; omega)) _) | (with_reducible refine bl_call ?_ (by assumption)))))).1
          obtain ⟨y0, y1, y2, y3⟩ := (F2.out r1 (by (repeat (first | (with_reducible exact Below.refl _ _) | (with_reducible assumption) | (with_reducible apply bl_alloc) | (with_reducible apply bl_drewN) | (with_reducible apply bl_drew) | (with_reducible refine bl_set ?_ (by first | (simp; done) | (simp; omega)) _) | (with_reducible refine bl_call ?_ (by assumption)))))).1
          obtain ⟨z0, z1, z2, z3⟩ := (F4.out r1 (by (repeat (first | (with_reducible exact Below.refl _ _) | (with_reducible assumption) | (with_reducible apply bl_alloc) | (with_reducible apply bl_drewN) | (with_reducible apply bl_drew) | (with_reducible refine bl_set ?_ (by first | (simp; done) | (simp; omega)) _) | (with_reducible refine bl_call ?_ (by assumption)))))).1
          go_wp2_with fail
          refine (check_at RVX.out HSX.out HCX.out (F1.out _ (by (repeat (first | (with_reducible exact Below.refl _ _) | (with_reducible assumption) | (with_reducible apply bl_alloc) | (with_reducible apply bl_drewN) | (with_reducible apply bl_drew) | (with_reducible refine bl_set ?_ (by first | (simp; done) | (simp; omega)) _) | (with_reducible refine bl_call ?_ (by assumption)))))).2).mono ?_
          rintro e r2 ⟨rfl, hr2⟩
          clear x0 x1 x2 x3 y0 y1 y2 y3 z0 z1 z2 z3
          obtain ⟨x0, x1, x2, x3⟩ := (F1.out r2 (by (repeat (first | (with_reducible exact Below.refl _ _) | (with_reducible assumption) | (with_reducible apply bl_alloc) | (with_reducible apply bl_drewN) | (with_reducible apply bl_drew) | (with_reducible refine bl_set ?_ (by first | (simp; done) | (simp; omega)) _) | (with_reducible refine bl_call ?_ (by assumption)))))).1
          obtain ⟨y0, y1, y2, y3⟩ := (F2.out r2 (by (repeat (first | (with_reducible exact Below.refl _ _) | (with_reducible assumption) | (with_reducible apply bl_alloc) | (with_reducible apply bl_drewN) | (with_reducible apply bl_drew) | (with_reducible refine bl_set ?_ (by first | (simp; done) | (simp; omega)) _) | (with_reducible refine bl_call ?_ (by assumption)))))).1
          obtain ⟨z0, z1, z2, z3⟩ := (F4.out r2 (by (repeat (first | (with_reducible exact Below.refl _ _) | (with_reducible assumption) | (with_reducible apply bl_alloc) | (with_reducible apply bl_drewN) | (with_reducible apply bl_drew) | (with_reducible refine bl_set ?_ (by first | (simp; done) | (simp; omega)) _) | (with_reducible refine bl_call ?_ (by assumption)))))).1
          go_wp2_with fail
          go_meet
          exact ⟨.inl rfl, by (repeat (first | (with_reducible exact Below.refl _ _) | (with_reducible assumption) | (with_reducible apply bl_alloc) | (with_reducible apply bl_drewN) | (with_reducible apply bl_drew) | (with_reducible refine bl_set ?_ (by first | (simp; done) | (simp; omega)) _) | (with_reducible refine bl_call ?_ (by assumption))))⟩
      · have t4 : (vz == 0) = false := beq_eq_false_iff_ne.2 k1
        have t5 : (vz != 0) = true := bne_iff_ne.2 k1
        go_wp2_with fail
        refine (check_at RVZ.out HSZ.out HCZ.out (F4.out _ (Below.refl _ _)).2).mono ?_
        rintro e r1 ⟨rfl, hr1⟩
        clear x0 x1 x2 x3 y0 y1 y2 y3 z0 z1 z2 z3
        obtain ⟨x0, x1, x2, x3⟩ := (F1.out r1 (by (repeat (first | (with_reducible exact Below.refl _ _) | (with_reducible assumption) | (with_reducible apply bl_alloc) | (with_reducible apply bl_drewN) | (with_reducible apply bl_drew) | (with_reducible refine bl_set ?_ (by first | (simp; done) | (simp; omega)) _) | (with_reducible refine bl_call ?_ (by assumption)))))).1
        obtain ⟨y0, y1, y2, y3⟩ := (F2.out r1 (by (repeat (first | (with_reducible exact Below.refl _ _) | (with_reducible assumption) | (with_reducible apply bl_alloc) | (with_reducible apply bl_drewN) | (with_reducible apply bl_drew) | (with_reducible refine bl_set ?_ (by first | (simp; done) | (simp; omega)) _) | (with_reducible refine bl_call ?_ (by assumption)))))).1
        obtain ⟨z0, z1, z2, z3⟩ := (F4.out r1 (by (repeat (first | (with_reducible exact Below.refl _ _) | (with_reducible assumption) | (with_reducible apply bl_alloc) | (with_reducible apply bl_drewN) | (with_reducible apply bl_drew) | (with_reducible refine bl_set ?_ (by first | (simp; done) | (simp; omega)) _) | (with_reducible refine bl_call ?_ (by assumption)))))).1
        go_wp2_with fail
        go_meet
        exact ⟨.inl rfl, by (repeat (first | (with_reducible exact Below.refl _ _) | (with_reducible assumption) | (with_reducible apply bl_alloc) | (with_reducible apply bl_drewN) | (with_reducible apply bl_drew) | (with_reducible refine bl_set ?_ (by first | (simp; done) | (simp; omega)) _) | (with_reducible refine bl_call ?_ (by assumption))))⟩
    case rest =>
      obtain ⟨hor, hb7⟩ := hcut
      replace F1 := (F1.out _ hb7).far
      replace F2 := (F2.out _ hb7).far
      replace F4 := (F4.out _ hb7).far
      replace HB : Hid (Below w.heap.size w wc) := Lib.hid (by have HBB := HB.out; (repeat (first | (with_reducible exact Below.refl _ _) | (with_reducible assumption) | (with_reducible apply bl_alloc) | (with_reducible apply bl_drewN) | (with_reducible apply bl_drew) | (with_reducible refine bl_set ?_ (by first | (simp; done) | (simp; omega)) _) | (with_reducible refine bl_call ?_ (by assumption)))))
      clear x0 x1 x2 x3 y0 y1 y2 y3 z0 z1 z2 z3
      clear hb7
      rcases hor with rfl | ⟨rfl, hok⟩
      · go_wp2_with fail
        refine (HA _).mono ?_
        rintro e w9 ⟨rfl, hb9⟩
        go_wp2_with fail
        go_ret
        exact ⟨rfl, by have HBB := HB.out; (repeat (first | (with_reducible exact Below.refl _ _) | (with_reducible assumption) | (with_reducible apply bl_alloc) | (with_reducible apply bl_drewN) | (with_reducible apply bl_drew) | (with_reducible refine bl_set ?_ (by first | (simp; done) | (simp; omega)) _) | (with_reducible refine bl_call ?_ (by assumption))))⟩
      · have HIN := Lib.hid (HREP.out hok.1 hok.2.1 hok.2.2)
        clear HREP hok
        obtain ⟨x0, x1, x2, x3⟩ := (F1.out wc (by (repeat (first | (with_reducible exact Below.refl _ _) | (with_reducible assumption) | (with_reducible apply bl_alloc) | (with_reducible apply bl_drewN) | (with_reducible apply bl_drew) | (with_reducible refine bl_set ?_ (by first | (simp; done) | (simp; omega)) _) | (with_reducible refine bl_call ?_ (by assumption)))))).1
        obtain ⟨y0, y1, y2, y3⟩ := (F2.out wc (by (repeat (first | (with_reducible exact Below.refl _ _) | (with_reducible assumption) | (with_reducible apply bl_alloc) | (with_reducible apply bl_drewN) | (with_reducible apply bl_drew) | (with_reducible refine bl_set ?_ (by first | (simp; done) | (simp; omega)) _) | (with_reducible refine bl_call ?_ (by assumption)))))).1
        go_upto_region 10 with (fail)
        obtain ⟨V, hV⟩ : ∃ V, V = wc := ⟨_, rfl⟩
        rw [← hV] at F1 F2 F4 HB x0 x1 x2 x3 y0 y1 y2 y3
        rw [← hV]
        clear hV
        go_cut [10, 11] (fun u v wx => ∃ (q1 : Option Addr) (n1 d1 : Nat) (q2 : Option Addr) (n2 d2 : Nat), u = .slice q1 n1 d1 ∧ v = .slice q2 n2 d2 ∧ Txs wx q1 n1 lx ∧ Txs wx q2 n2 ly ∧ Below V.heap.size V wx)
        case first =>
          go_region_held3 (fun (w' : World) => (w'.cell? ⟨w.heap.size, 0, none⟩ = some (.int .i64 x.o) ∧ w'.cell? ⟨w.heap.size, 1, none⟩ = some (.string x.s) ∧ w'.cell? ⟨w.heap.size, 2, none⟩ = some (.int .i64 x.n) ∧ w'.cell? ⟨w.heap.size, 3, none⟩ = some (.slice p m c)) ∧ (w'.cell? ⟨(w.heap.size + 1), 0, none⟩ = some (.int .i64 y.o) ∧ w'.cell? ⟨(w.heap.size + 1), 1, none⟩ = some (.string y.s) ∧ w'.cell? ⟨(w.heap.size + 1), 2, none⟩ = some (.int .i64 y.n) ∧ w'.cell? ⟨(w.heap.size + 1), 3, none⟩ = some (.slice p2 m2 c2))) (first | (refine keep8 (F1.out _ ?_).1 (F2.out _ ?_).1 <;> ((repeat (first | (with_reducible exact Below.refl _ _) | (with_reducible assumption) | (with_reducible apply bl_alloc) | (with_reducible apply bl_drewN) | (with_reducible apply bl_drew) | (with_reducible refine bl_set ?_ (by first | (simp; done) | (simp; omega)) _) | (with_reducible refine bl_call ?_ (by assumption)))); done)) | (go_keep; done)) (first
            | (have t := hr1; go_at_call 23; refine (names_at RLY.out HSY.out HCY.out (F2.out _ (by (repeat (first | (with_reducible exact Below.refl _ _) | (with_reducible assumption) | (with_reducible apply bl_alloc) | (with_reducible apply bl_drewN) | (with_reducible apply bl_drew) | (with_reducible refine bl_set ?_ (by first | (simp; done) | (simp; omega)) _) | (with_reducible refine bl_call ?_ (by assumption)))))).2).mono ?_; rintro e r2 ⟨q2, n2, d2, rfl, ht2, hr2⟩)
            | (go_at_call 23; refine (names_at RLX.out HSX.out HCX.out (F1.out _ (by (repeat (first | (with_reducible exact Below.refl _ _) | (with_reducible assumption) | (with_reducible apply bl_alloc) | (with_reducible apply bl_drewN) | (with_reducible apply bl_drew) | (with_reducible refine bl_set ?_ (by first | (simp; done) | (simp; omega)) _) | (with_reducible refine bl_call ?_ (by assumption)))))).2).mono ?_; rintro e r1 ⟨q1, n1, d1, rfl, ht1, hr1⟩))
          all_goals
            go_wp2_with fail
            go_meet
            exact ⟨_, _, _, _, _, _, rfl, rfl, ht1.on (by (repeat (first | (with_reducible exact Below.refl _ _) | (with_reducible assumption) | (with_reducible apply bl_alloc) | (with_reducible apply bl_drewN) | (with_reducible apply bl_drew) | (with_reducible refine bl_set ?_ (by first | (simp; done) | (simp; omega)) _) | (with_reducible refine bl_call ?_ (by assumption))))), ht2.on (by (repeat (first | (with_reducible exact Below.refl _ _) | (with_reducible assumption) | (with_reducible apply bl_alloc) | (with_reducible apply bl_drewN) | (with_reducible apply bl_drew) | (with_reducible refine bl_set ?_ (by first | (simp; done) | (simp; omega)) _) | (with_reducible refine bl_call ?_ (by assumption))))), by (repeat (first | (with_reducible exact Below.refl _ _) | (with_reducible assumption) | (with_reducible apply bl_alloc) | (with_reducible apply bl_drewN) | (with_reducible apply bl_drew) | (with_reducible refine bl_set ?_ (by first | (simp; done) | (simp; omega)) _) | (with_reducible refine bl_call ?_ (by assumption))))⟩
        case rest =>
          obtain ⟨q1, n1, d1, q2, n2, d2, rfl, rfl, ht1, ht2, hb8⟩ := hcut
          replace F4 := (F4.out _ hb8).far
          replace HB : Hid (Below w.heap.size w wc) := Lib.hid (by have HBB := HB.out; (repeat (first | (with_reducible exact Below.refl _ _) | (with_reducible assumption) | (with_reducible apply bl_alloc) | (with_reducible apply bl_drewN) | (with_reducible apply bl_drew) | (with_reducible refine bl_set ?_ (by first | (simp; done) | (simp; omega)) _) | (with_reducible refine bl_call ?_ (by assumption)))))
          clear x0 x1 x2 x3 y0 y1 y2 y3 F1 F2 hb8
          obtain ⟨W0, hW0⟩ : ∃ W0, W0 = wc := ⟨_, rfl⟩
          rw [← hW0] at F4 HB ht1 ht2
          rw [← hW0]
          clear hW0
          have T2 := Lib.hid ht2
          obtain ⟨hl1, hm1, hd1⟩ := ht1
          have HN1 := Lib.hid hl1
          have HL1 := Lib.hid hd1
          have HLA : Hid (([] : List Nm).length + n1 ≤ 400) := Lib.hid (by have := HLX.out; simp; omega)
          clear hl1 hd1 ht2
          go_wp2_with fail
          go_loopw [9, 12] (fun v i wr => ∃ (k : Nat) (pp : Option Addr) (q cc : Nat), k ≤ n1 ∧ v = .slice pp q cc ∧ i = .int .i64 (k : Nat) ∧ Hid (Txs wr pp q (insA ([] : List Nm) (List.take k lx))) ∧ Hid (Below W0.heap.size W0 wr)) (fun _ i _ => n1 - (intOf i).toNat)
          case atStart => exact ⟨0, _, _, _, Nat.zero_le _, rfl, rfl, Lib.hid (by rw [List.take_zero]; exact Txs.nil), Lib.hid (Below.refl _ _)⟩
          case round =>
            obtain ⟨k, pp, q, cc, hk, rfl, rfl, HT, HW⟩ := hrel
            have k0 : (0 : Int) ≤ (k : Int) := by omega
            rcases Nat.lt_or_ge k n1 with h | h
            · have k1 : (k : Int) < (n1 : Int) := by omega
              obtain ⟨b, o1, rfl, hb, hcl⟩ := HL1.out.resolve_left (by omega)
              have hkl : k < List.length lx := by rw [HN1.out]; omega
              have e1 := (HW.out.cell (p := ⟨b, o1 + k, none⟩) hb).trans (hcl.out k hkl)
              have HK := Lib.hid (insA_take (acc := ([] : List Nm)) hkl)
              obtain ⟨s, hs⟩ : ∃ s, (lx)[k] = s := ⟨_, rfl⟩
              rw [hs] at e1 HK
              have hq : q ≤ 1000 := by
                have h1 := HT.out.1
                have h2 := insA_len (List.take k lx) ([] : List Nm)
                have h3 := List.length_take_le k lx
                have h4 := HLA.out
                omega
              have HI := ins_gives _ (tb s) pp q cc wr HT.out hq
              rw [bs_tb, ← HK.out] at HI
              clear hs hcl hkl hq HK HT
              go_wp2_with fail
              refine HI.mono ?_
              rintro e3 w9 ⟨p9, n9, c9, rfl, ht9, hb9⟩
              have HW2 : Hid (Below W0.heap.size W0 w9) := Lib.hid (by have HBB := HW.out; (repeat (first | (with_reducible exact Below.refl _ _) | (with_reducible assumption) | (with_reducible apply bl_alloc) | (with_reducible apply bl_drewN) | (with_reducible apply bl_drew) | (with_reducible refine bl_set ?_ (by first | (simp; done) | (simp; omega)) _) | (with_reducible refine bl_call ?_ (by assumption)))))
              have HT9 := Lib.hid ht9
              clear hb9 ht9 HI
              go_wp2_with fail
              go_roundw
              case rel => exact ⟨k + 1, p9, n9, c9, by omega, rfl, by go_num, HT9, HW2⟩
              case measure => simp [intOf]; omega
            · obtain rfl : n1 = k := by omega
              rw [List.take_of_length_le (by rw [HN1.out]; exact Nat.le_refl _)] at HT
              replace F4 := (F4.out _ HW.out).far
              replace T2 := Lib.hid (T2.out.on HW.out)
              replace HB : Hid (Below w.heap.size w wr) := Lib.hid (HB.out.trans (HW.out.mono HB.out.size))
              clear HLA HL1 HW h hk k0
              obtain ⟨W0, hW0⟩ : ∃ W0, W0 = wr := ⟨_, rfl⟩
              rw [← hW0] at F4 T2 HB HT
              rw [← hW0]
              clear hW0
              obtain ⟨hl2, hm2, hd2⟩ := T2.out
              have HN2 := Lib.hid hl2
              have HL2 := Lib.hid hd2
              have T3 := HT
              have HI0 := Lib.hid (insA_inc (l := lx) inc_nil)
              obtain ⟨A0, hA0⟩ : ∃ A0, insA [] lx = A0 := ⟨_, rfl⟩
              rw [hA0] at T3 HI0
              have HLA : Hid (A0.length + n2 ≤ 400) := Lib.hid (by
                have h1 := HLY.out
                have h2 := insA_len lx []
                rw [hA0] at h2
                have h3 := HLX.out
                simp only [List.length_nil] at h2
                omega)
              clear hl2 hd2 T2 HT hA0 HN1
              go_wp2_with fail
              go_loopw [9, 13] (fun v i wr => ∃ (k : Nat) (pp : Option Addr) (q cc : Nat), k ≤ n2 ∧ v = .slice pp q cc ∧ i = .int .i64 (k : Nat) ∧ Hid (Txs wr pp q (insA A0 (List.take k ly))) ∧ Hid (Below W0.heap.size W0 wr)) (fun _ i _ => n2 - (intOf i).toNat)
              case atStart => exact ⟨0, _, _, _, Nat.zero_le _, rfl, rfl, Lib.hid (by rw [List.take_zero]; exact T3.out), Lib.hid (Below.refl _ _)⟩
              case round =>
                obtain ⟨k, pp, q, cc, hk, rfl, rfl, HT, HW⟩ := hrel
                have k0 : (0 : Int) ≤ (k : Int) := by omega
                rcases Nat.lt_or_ge k n2 with h | h
                · have k1 : (k : Int) < (n2 : Int) := by omega
                  obtain ⟨b, o1, rfl, hb, hcl⟩ := HL2.out.resolve_left (by omega)
                  have hkl : k < List.length ly := by rw [HN2.out]; omega
                  have e1 := (HW.out.cell (p := ⟨b, o1 + k, none⟩) hb).trans (hcl.out k hkl)
                  have HK := Lib.hid (insA_take (acc := A0) hkl)
                  obtain ⟨s, hs⟩ : ∃ s, (ly)[k] = s := ⟨_, rfl⟩
                  rw [hs] at e1 HK
                  have hq : q ≤ 1000 := by
                    have h1 := HT.out.1
                    have h2 := insA_len (List.take k ly) A0
                    have h3 := List.length_take_le k ly
                    have h4 := HLA.out
                    omega
                  have HI := ins_gives _ (tb s) pp q cc wr HT.out hq
                  rw [bs_tb, ← HK.out] at HI
                  clear hs hcl hkl hq HK HT
                  go_wp2_with fail
                  refine HI.mono ?_
                  rintro e3 w9 ⟨p9, n9, c9, rfl, ht9, hb9⟩
                  have HW2 : Hid (Below W0.heap.size W0 w9) := Lib.hid (by have HBB := HW.out; (repeat (first | (with_reducible exact Below.refl _ _) | (with_reducible assumption) | (with_reducible apply bl_alloc) | (with_reducible apply bl_drewN) | (with_reducible apply bl_drew) | (with_reducible refine bl_set ?_ (by first | (simp; done) | (simp; omega)) _) | (with_reducible refine bl_call ?_ (by assumption)))))
                  have HT9 := Lib.hid ht9
                  clear hb9 ht9 HI
                  go_wp2_with fail
                  go_roundw
                  case rel => exact ⟨k + 1, p9, n9, c9, by omega, rfl, by go_num, HT9, HW2⟩
                  case measure => simp [intOf]; omega
                · obtain rfl : n2 = k := by omega
                  rw [List.take_of_length_le (by rw [HN2.out]; exact Nat.le_refl _)] at HT
                  replace F4 := (F4.out _ HW.out).far
                  replace HB : Hid (Below w.heap.size w wr) := Lib.hid (HB.out.trans (HW.out.mono HB.out.size))
                  have HI1 := Lib.hid (insA_inc (l := ly) HI0.out.1)
                  have HALL : Hid (∀ s ∈ lz, ins (insA A0 ly) s = insA A0 ly) := Lib.hid fun s hs => ins_old HI1.out.1 ((HI1.out.2 s).2 (by
                    rcases HIN.out s hs with h | h
                    · exact .inl ((HI0.out.2 s).2 (.inr h))
                    · exact .inr h))
                  have hq9 : q ≤ 1000 := by
                    have h1 := HT.out.1
                    have h2 := insA_len ly A0
                    have h3 := HLA.out
                    have h4 := HN2.out
                    omega
                  obtain ⟨AL, hAL⟩ : ∃ AL, insA A0 ly = AL := ⟨_, rfl⟩
                  rw [hAL] at HT HALL
                  clear HLA HL2 HN2 T3 HI0 HI1 HIN hAL HW h hk k0
                  obtain ⟨z0, z1, z2, z3⟩ := (F4.out _ (Below.refl _ _)).1
                  go_wp2_with fail
                  refine (names_at RLZ.out HSZ.out HCZ.out (F4.out _ (Below.refl _ _)).2).mono ?_
                  rintro e4 w7 ⟨q3, n3, d3, rfl, ht3, hb7⟩
                  obtain ⟨hl3, hm3, hd3⟩ := ht3
                  have HN3 := Lib.hid hl3
                  have HL3 := Lib.hid hd3
                  replace HT := Lib.hid (HT.out.on hb7)
                  replace HB : Hid (Below w.heap.size w w7) := Lib.hid (by have HBB := HB.out; (repeat (first | (with_reducible exact Below.refl _ _) | (with_reducible assumption) | (with_reducible apply bl_alloc) | (with_reducible apply bl_drewN) | (with_reducible apply bl_drew) | (with_reducible refine bl_set ?_ (by first | (simp; done) | (simp; omega)) _) | (with_reducible refine bl_call ?_ (by assumption)))))
                  clear hl3 hd3 z0 z1 z2 z3 F4 hb7
                  go_wp2_with fail
                  go_loopw [15] (fun i wr => ∃ (k : Nat), k ≤ n3 ∧ i = .int .i64 (k : Nat) ∧ Hid (Below w7.heap.size w7 wr)) (fun i _ => n3 - (intOf i).toNat)
                  case atStart => exact ⟨0, Nat.zero_le _, rfl, Lib.hid (Below.refl _ _)⟩
                  case round =>
                    obtain ⟨k, hk, rfl, HW⟩ := hrel
                    have k0 : (0 : Int) ≤ (k : Int) := by omega
                    rcases Nat.lt_or_ge k n3 with h | h
                    · have k1 : (k : Int) < (n3 : Int) := by omega
                      obtain ⟨b, o1, rfl, hb, hcl⟩ := HL3.out.resolve_left (by omega)
                      have hkl : k < lz.length := by rw [HN3.out]; omega
                      have e1 := (HW.out.cell (p := ⟨b, o1 + k, none⟩) hb).trans (hcl.out k hkl)
                      have hsm : lz[k] ∈ lz := List.getElem_mem hkl
                      obtain ⟨s, hs⟩ : ∃ s, lz[k] = s := ⟨_, rfl⟩
                      rw [hs] at e1 hsm
                      have HI := ins_gives AL (tb s) pp q cc wr (HT.out.on HW.out) hq9
                      rw [bs_tb, HALL.out s hsm] at HI
                      clear hs hcl hkl hsm
                      go_wp2_with fail
                      refine HI.mono ?_
                      rintro e3 w9 ⟨p9, n9, c9, rfl, ht9, hb9⟩
                      obtain rfl : n9 = q := ht9.1.symm.trans HT.out.1
                      have HW2 : Hid (Below w7.heap.size w7 w9) := Lib.hid (by have HBB := HW.out; (repeat (first | (with_reducible exact Below.refl _ _) | (with_reducible assumption) | (with_reducible apply bl_alloc) | (with_reducible apply bl_drewN) | (with_reducible apply bl_drew) | (with_reducible refine bl_set ?_ (by first | (simp; done) | (simp; omega)) _) | (with_reducible refine bl_call ?_ (by assumption)))))
                      clear hb9 ht9 HI
                      go_wp2_with fail
                      go_roundw
                      case rel => exact ⟨k + 1, by omega, by go_num, HW2⟩
                      case measure => simp [intOf]; omega
                    · obtain rfl : n3 = k := by omega
                      replace HB : Hid (Below w.heap.size w wr) := Lib.hid (HB.out.trans (HW.out.mono HB.out.size))
                      go_wp2_with fail
                      refine (HA _).mono ?_
                      rintro e w9 ⟨rfl, hb9⟩
                      go_wp2_with fail
                      go_ret
                      exact ⟨rfl, by have HBB := HB.out; (repeat (first | (with_reducible exact Below.refl _ _) | (with_reducible assumption) | (with_reducible apply bl_alloc) | (with_reducible apply bl_drewN) | (with_reducible apply bl_drew) | (with_reducible refine bl_set ?_ (by first | (simp; done) | (simp; omega)) _) | (with_reducible refine bl_call ?_ (by assumption))))⟩
end Go.Proofs.Ytfkenbdfakjeoaa.Ex
