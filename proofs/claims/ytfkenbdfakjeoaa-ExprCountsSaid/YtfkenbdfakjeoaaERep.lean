/-
  The contracts of clone, of Replace and of its closure.
-/
import Derived.Test.YtfkenbdfakjeoaaEChg
namespace Go.Proofs.Ytfkenbdfakjeoaa.Ex
open Go.RowKit
open Go.Proofs.Ytfkenbdfakjeoaa.Na (bs bs_inj chk)
set_option maxHeartbeats 4000000
set_option linter.unusedVariables false
theorem map_same {l : List Ex} : l.map (fun x : Ex => x) = l := List.map_id' l
set_option maxRecDepth 100000 in
theorem clone_any (e : Ex) : ∀ (n0 : Nat) (p : Option Addr) (m c : Nat) (w : World), Kin (Lo n0) w e p m → n0 ≤ w.heap.size → cnt e ≤ 1000000 → Calls Try.prog 43 #[.agg #[.int .i64 e.o, .string e.s, .int .i64 e.n, .slice p m c]] w (GivesF n0 e w) := by
  induction e using Ex.ind with
  | h o s n l ih =>
    intro n0 p m c w h hn hc
    rw [cnt_one] at hc
    have hlm : m ≤ 1000000 := by have h1 := h.len.1; have h2 := len_cntL l; omega
    have HCH := Lib.hid (fun W (hb : Below w.heap.size w W) => change_clone (fun x => x) n0 o s n l p m c W (Kin.below (hb.mono hn) h) (Nat.le_trans hn hb.size) hlm
      (fun x hx V hV q j c' hk => ih x hx n0 q j c' V hk (Nat.le_trans hn (Nat.le_trans hb.size hV.size)) (by have := cnt_mem hx; omega)))
    simp only [map_same] at HCH
    have HN := Lib.hid hn
    simp only [Ex.o, Ex.s, Ex.n]
    clear ih h hc hlm
    go_enter Try.func43, Try.ntmps43
    go_wp2_with fail
    refine (HCH.out _ (by (repeat (first | (with_reducible exact Below.refl _ _) | (with_reducible assumption) | (with_reducible apply bl_alloc) | (with_reducible apply bl_drewN) | (with_reducible apply bl_drew) | (with_reducible refine bl_set ?_ (by first | (simp; done) | (simp; omega)) _) | (with_reducible refine bl_call ?_ (by assumption)))))).mono ?_
    rintro e w1 ⟨p', m', c', rfl, hk, hb1⟩
    have hx2 : box4 w1 (w.heap.size + 1) 0 mE 0 none 0 0 := (Bx2.new (w := w) (o := o) (s := s) (n := n) (p := p) (m := m) (c := c)).h2.on hb1
    have f2 : frz4 w1 (w.heap.size + 1) := (Bx2.new (w := w) (o := o) (s := s) (n := n) (p := p) (m := m) (c := c)).f2.on hb1 (by simp)
    have HB := Lib.hid (show Below w.heap.size w w1 by (repeat (first | (with_reducible exact Below.refl _ _) | (with_reducible assumption) | (with_reducible apply bl_alloc) | (with_reducible apply bl_drewN) | (with_reducible apply bl_drew) | (with_reducible refine bl_set ?_ (by first | (simp; done) | (simp; omega)) _) | (with_reducible refine bl_call ?_ (by assumption)))))
    have HK := Lib.hid (show Kin (Fr n0 (w.heap.size + 2)) w1 (.mk o s n l) p' m' by simpa using hk)
    obtain ⟨q0, q1, q2, q3⟩ := hx2
    have r0 := f2 0
    have r1 := f2 1
    have r2 := f2 2
    have r3 := f2 3
    clear hb1 hk
    simp only [Ex.o, Ex.s, Ex.n]
    go_wp2_with fail
    (try simp only [Exit.inBlock, Exit.then])
    obtain ⟨s0, s1, s2, s3⟩ := set4 (⟨q0, q1, q2, q3⟩ : box4 w1 (w.heap.size + 1) 0 mE 0 none 0 0) o s n p' m' c'
    have hB := below4 HB.out (g := w.heap.size + 1) (by omega) (.int .i64 o) (.string s) (.int .i64 n) (.slice p' m' c')
    have hK4 := kin_set (g := w.heap.size + 1) (k := 3) (kin_set (g := w.heap.size + 1) (k := 2) (kin_set (g := w.heap.size + 1) (k := 1) (kin_set (g := w.heap.size + 1) (k := 0) HK.out (by omega) (by omega) (.int .i64 o)) (by omega) (by omega) (.string s)) (by omega) (by omega) (.int .i64 n)) (by omega) (by omega) (.slice p' m' c')
    exact bodyPost_ret (v := .agg #[.int .i64 o, .string s, .int .i64 n, .slice p' m' c']) (by simp [results, Try.results43, go_sem, s0, s1, s2, s3]) rfl ⟨_, _, _, rfl, hK4.mono fun b hb _ => hb.imp id (fun h => by omega), hB⟩
/-- The four blocks that a call made. -/
structure Bx4 (w wr : World) (e : Ex) (p : Option Addr) (m c : Nat) (nm : ByteArray) (y : Ex) (p2 : Option Addr) (m2 c2 : Nat) : Prop where
  h0 : box4 wr w.heap.size e.o e.s e.n p m c
  h1 : wr.cell? ⟨w.heap.size + 1, 0, none⟩ = some (.string nm)
  h2 : box4 wr (w.heap.size + 1 + 1) y.o y.s y.n p2 m2 c2
  h3 : box4 wr (w.heap.size + 1 + 1 + 1) 0 mE 0 none 0 0
  f3 : frz4 wr (w.heap.size + 1 + 1 + 1)
  hb : Below w.heap.size w wr
  hz : w.heap.size + 4 ≤ wr.heap.size
section
variable {w wr w2 : World} {e : Ex} {p : Option Addr} {m c : Nat} {nm : ByteArray} {y : Ex} {p2 : Option Addr} {m2 c2 : Nat}
theorem Bx4.on (h : Bx4 w wr e p m c nm y p2 m2 c2) (hb : Below wr.heap.size wr w2) : Bx4 w w2 e p m c nm y p2 m2 c2 := by
  have hz := h.hz
  exact ⟨h.h0.on hb, (hb.cell (p := ⟨w.heap.size + 1, 0, none⟩) (show w.heap.size + 1 < wr.heap.size by omega)).trans h.h1, h.h2.on hb, h.h3.on hb, h.f3.on hb (by omega), h.hb.trans (hb.mono (by omega)), Nat.le_trans h.hz hb.size⟩
theorem Bx4.new : Bx4 w ((((w.alloc (.cells #[.int .i64 e.o, .string e.s, .int .i64 e.n, .slice p m c] 25)).alloc (.cells #[.string nm] 9)).alloc (.cells #[.int .i64 y.o, .string y.s, .int .i64 y.n, .slice p2 m2 c2] 25)).alloc (.cells #[.int .i64 0, .string mE, .int .i64 0, .slice none 0 0] 25)) e p m c nm y p2 m2 c2 := by
  obtain ⟨w1, hw1⟩ : ∃ w1, w.alloc (.cells #[.int .i64 e.o, .string e.s, .int .i64 e.n, .slice p m c] 25) = w1 := ⟨_, rfl⟩
  have hz1 : w1.heap.size = w.heap.size + 1 := by rw [← hw1]; simp
  have hb1 : Below w.heap.size w w1 := by rw [← hw1]; (repeat (first | (with_reducible exact Below.refl _ _) | (with_reducible assumption) | (with_reducible apply bl_alloc) | (with_reducible apply bl_drewN) | (with_reducible apply bl_drew) | (with_reducible refine bl_set ?_ (by first | (simp; done) | (simp; omega)) _) | (with_reducible refine bl_call ?_ (by assumption))))
  have h1 := box_new (w := w) (o := e.o) (s := e.s) (n := e.n) (p := p) (m := m) (c := c) (t := 25)
  obtain ⟨w2, hw2⟩ : ∃ w2, w1.alloc (.cells #[.string nm] 9) = w2 := ⟨_, rfl⟩
  have hz2 : w2.heap.size = w.heap.size + 2 := by rw [← hw2]; simp [hz1]
  have hb2 : Below w1.heap.size w1 w2 := by rw [← hw2]; (repeat (first | (with_reducible exact Below.refl _ _) | (with_reducible assumption) | (with_reducible apply bl_alloc) | (with_reducible apply bl_drewN) | (with_reducible apply bl_drew) | (with_reducible refine bl_set ?_ (by first | (simp; done) | (simp; omega)) _) | (with_reducible refine bl_call ?_ (by assumption))))
  have h2 : (w1.alloc (.cells #[.string nm] 9)).cell? ⟨w1.heap.size, 0, none⟩ = some (.string nm) := by rw [World.cell?_alloc_mark]; rfl
  obtain ⟨w3, hw3⟩ : ∃ w3, w2.alloc (.cells #[.int .i64 y.o, .string y.s, .int .i64 y.n, .slice p2 m2 c2] 25) = w3 := ⟨_, rfl⟩
  have hz3 : w3.heap.size = w.heap.size + 3 := by rw [← hw3]; simp [hz2]
  have hb3 : Below w2.heap.size w2 w3 := by rw [← hw3]; (repeat (first | (with_reducible exact Below.refl _ _) | (with_reducible assumption) | (with_reducible apply bl_alloc) | (with_reducible apply bl_drewN) | (with_reducible apply bl_drew) | (with_reducible refine bl_set ?_ (by first | (simp; done) | (simp; omega)) _) | (with_reducible refine bl_call ?_ (by assumption))))
  have h3 := box_new (w := w2) (o := y.o) (s := y.s) (n := y.n) (p := p2) (m := m2) (c := c2) (t := 25)
  obtain ⟨w4, hw4⟩ : ∃ w4, w3.alloc (.cells #[.int .i64 0, .string mE, .int .i64 0, .slice none 0 0] 25) = w4 := ⟨_, rfl⟩
  have hz4 : w4.heap.size = w.heap.size + 4 := by rw [← hw4]; simp [hz3]
  have hb4 : Below w3.heap.size w3 w4 := by rw [← hw4]; (repeat (first | (with_reducible exact Below.refl _ _) | (with_reducible assumption) | (with_reducible apply bl_alloc) | (with_reducible apply bl_drewN) | (with_reducible apply bl_drew) | (with_reducible refine bl_set ?_ (by first | (simp; done) | (simp; omega)) _) | (with_reducible refine bl_call ?_ (by assumption))))
  have h4 := box_new (w := w3) (o := 0) (s := mE) (n := 0) (p := none) (m := 0) (c := 0) (t := 25)
  have f4 : frz4 (w3.alloc (.cells #[.int .i64 0, .string mE, .int .i64 0, .slice none 0 0] 25)) w3.heap.size := fun k => frz_new k
  rw [hw1] at h1
  rw [hw2] at h2
  rw [hw3] at h3
  rw [hw4] at h4 f4
  rw [hw1, hw2, hw3, hw4]
  rw [hz1] at h2
  rw [hz2] at h3
  rw [hz3] at h4 f4
  exact ⟨((h1.on hb2).on hb3).on hb4, (hb4.cell (p := ⟨w.heap.size + 1, 0, none⟩) (show w.heap.size + 1 < w3.heap.size by omega)).trans ((hb3.cell (p := ⟨w.heap.size + 1, 0, none⟩) (show w.heap.size + 1 < w2.heap.size by omega)).trans h2), h3.on hb4, h4, f4, hb1.trans ((hb2.mono (by omega)).trans ((hb3.mono (by omega)).trans (hb4.mono (by omega)))), by omega⟩
end
set_option maxRecDepth 100000 in
theorem closure_of (nm : ByteArray) (y : Ex) (p2 : Option Addr) (m2 c2 : Nat) (n0 : Nat) (x z : Ex) (q : Option Addr) (j c' B1 B2 : Nat) (V : World) (hn : n0 ≤ V.heap.size) (h1 : V.cell? ⟨B1, 0, none⟩ = some (.string nm)) (h2 : box4 V B2 y.o y.s y.n p2 m2 c2)
    (hc : ∀ W, Below V.heap.size V W → Calls Try.prog 27 #[.agg #[.int .i64 x.o, .string x.s, .int .i64 x.n, .slice q j c'], .string nm, .agg #[.int .i64 y.o, .string y.s, .int .i64 y.n, .slice p2 m2 c2]] W (GivesF n0 z W)) :
    Calls Try.prog 45 #[.agg #[.int .i64 x.o, .string x.s, .int .i64 x.n, .slice q j c'], .pointer (some ⟨B1, 0, none⟩), .pointer (some ⟨B2, 0, none⟩)] V (GivesF n0 z V) := by
  have hB1 := block_lt h1
  have hB2 := h2.lt
  obtain ⟨b0, b1, b2, b3⟩ := h2
  have HC := Lib.hid hc
  have HN := Lib.hid hn
  clear hc
  go_enter Try.func45, Try.ntmps45
  go_wp2_with fail
  refine (HC.out _ (by (repeat (first | (with_reducible exact Below.refl _ _) | (with_reducible assumption) | (with_reducible apply bl_alloc) | (with_reducible apply bl_drewN) | (with_reducible apply bl_drew) | (with_reducible refine bl_set ?_ (by first | (simp; done) | (simp; omega)) _) | (with_reducible refine bl_call ?_ (by assumption)))))).mono ?_
  rintro e w1 ⟨p', m', c6, rfl, hk, hb1⟩
  have hx2 : box4 w1 (V.heap.size + 1) 0 mE 0 none 0 0 := (Bx2.new (w := V) (o := x.o) (s := x.s) (n := x.n) (p := q) (m := j) (c := c')).h2.on hb1
  have f2 : frz4 w1 (V.heap.size + 1) := (Bx2.new (w := V) (o := x.o) (s := x.s) (n := x.n) (p := q) (m := j) (c := c')).f2.on hb1 (by simp)
  have HB := Lib.hid (show Below V.heap.size V w1 by (repeat (first | (with_reducible exact Below.refl _ _) | (with_reducible assumption) | (with_reducible apply bl_alloc) | (with_reducible apply bl_drewN) | (with_reducible apply bl_drew) | (with_reducible refine bl_set ?_ (by first | (simp; done) | (simp; omega)) _) | (with_reducible refine bl_call ?_ (by assumption)))))
  have HK := Lib.hid (show Kin (Fr n0 (V.heap.size + 2)) w1 z p' m' by simpa using hk)
  obtain ⟨q0, q1, q2, q3⟩ := hx2
  have r0 := f2 0
  have r1 := f2 1
  have r2 := f2 2
  have r3 := f2 3
  clear hb1 hk
  go_wp2_with fail
  (try simp only [Exit.inBlock, Exit.then])
  obtain ⟨s0, s1, s2, s3⟩ := set4 (⟨q0, q1, q2, q3⟩ : box4 w1 (V.heap.size + 1) 0 mE 0 none 0 0) z.o z.s z.n p' m' c6
  have hB := below4 HB.out (g := V.heap.size + 1) (by omega) (.int .i64 z.o) (.string z.s) (.int .i64 z.n) (.slice p' m' c6)
  have hK4 := kin_set (g := V.heap.size + 1) (k := 3) (kin_set (g := V.heap.size + 1) (k := 2) (kin_set (g := V.heap.size + 1) (k := 1) (kin_set (g := V.heap.size + 1) (k := 0) HK.out (by omega) (by omega) (.int .i64 z.o)) (by omega) (by omega) (.string z.s)) (by omega) (by omega) (.int .i64 z.n)) (by omega) (by omega) (.slice p' m' c6)
  exact bodyPost_ret (v := .agg #[.int .i64 z.o, .string z.s, .int .i64 z.n, .slice p' m' c6]) (by simp [results, Try.results45, go_sem, s0, s1, s2, s3]) rfl ⟨_, _, _, rfl, hK4.mono fun b hb _ => hb.imp id (fun h => by omega), hB⟩
theorem ex_o {o : Int} {s : ByteArray} {n : Int} {l : List Ex} : (Ex.mk o s n l).o = o := rfl
theorem ex_s {o : Int} {s : ByteArray} {n : Int} {l : List Ex} : (Ex.mk o s n l).s = s := rfl
theorem ex_n {o : Int} {s : ByteArray} {n : Int} {l : List Ex} : (Ex.mk o s n l).n = n := rfl
set_option maxRecDepth 100000 in
theorem replace_any (nm : ByteArray) (y : Ex) (p2 : Option Addr) (m2 c2 : Nat) (hcy : cnt y ≤ 1000000) (e : Ex) : ∀ (n0 : Nat) (p : Option Addr) (m c : Nat) (w : World), Kin (Lo n0) w e p m → Kin (Lo n0) w y p2 m2 → n0 ≤ w.heap.size → cnt e ≤ 1000000 → Calls Try.prog 27 #[.agg #[.int .i64 e.o, .string e.s, .int .i64 e.n, .slice p m c], .string nm, .agg #[.int .i64 y.o, .string y.s, .int .i64 y.n, .slice p2 m2 c2]] w (GivesF n0 (rep nm y e) w) := by
  induction e using Ex.ind with
  | h o s n l ih =>
    intro n0 p m c w h hy hn hc
    rw [cnt_one] at hc
    have hlm : m ≤ 1000000 := by have h1 := h.len.1; have h2 := len_cntL l; omega
    have HN := Lib.hid hn
    rcases hit_cases nm o s with ⟨h1, h2, h3⟩ | hx
    · have t1 : (o == 3) = true := beq_iff_eq.2 h1
      have t2 := eq_yes h2
      have HCL := Lib.hid (fun W (hb : Below w.heap.size w W) => clone_any y n0 p2 m2 c2 W (Kin.below (hb.mono hn) hy) (Nat.le_trans hn hb.size) hcy)
      rw [rep_yes h3]
      have HNEW := Lib.hid (Bx4.new (w := w) (e := .mk o s n l) (p := p) (m := m) (c := c) (nm := nm) (y := y) (p2 := p2) (m2 := m2) (c2 := c2))
      change Calls Try.prog 27 #[.agg #[.int .i64 o, .string s, .int .i64 n, .slice p m c], .string nm, .agg #[.int .i64 y.o, .string y.s, .int .i64 y.n, .slice p2 m2 c2]] w (GivesF n0 y w)
      clear h1 h2 h3 ih h hy hc hlm hn
      go_enter Try.func27, Try.ntmps27
      go_wp2_with fail
      refine (HCL.out _ (by (repeat (first | (with_reducible exact Below.refl _ _) | (with_reducible assumption) | (with_reducible apply bl_alloc) | (with_reducible apply bl_drewN) | (with_reducible apply bl_drew) | (with_reducible refine bl_set ?_ (by first | (simp; done) | (simp; omega)) _) | (with_reducible refine bl_call ?_ (by assumption)))))).mono ?_
      rintro e w1 ⟨p', m', c6, rfl, hk, hb1⟩
      have HB4 := Lib.hid (HNEW.out.on hb1)
      have HK := Lib.hid (show Kin (Fr n0 (w.heap.size + 4)) w1 y p' m' by simpa using hk)
      clear hb1 hk
      obtain ⟨q0, q1, q2, q3⟩ := HB4.out.h3
      have r0 := HB4.out.f3 0
      have r1 := HB4.out.f3 1
      have r2 := HB4.out.f3 2
      have r3 := HB4.out.f3 3
      go_wp2_with fail
      (try simp only [Exit.inBlock, Exit.then])
      have hn := HN.out
      obtain ⟨s0, s1, s2, s3⟩ := set4 (⟨q0, q1, q2, q3⟩ : box4 w1 (w.heap.size + 1 + 1 + 1) 0 mE 0 none 0 0) y.o y.s y.n p' m' c6
      have hB := below4 HB4.out.hb (g := w.heap.size + 1 + 1 + 1) (by omega) (.int .i64 y.o) (.string y.s) (.int .i64 y.n) (.slice p' m' c6)
      have hK4 := kin_set (g := w.heap.size + 1 + 1 + 1) (k := 3) (kin_set (g := w.heap.size + 1 + 1 + 1) (k := 2) (kin_set (g := w.heap.size + 1 + 1 + 1) (k := 1) (kin_set (g := w.heap.size + 1 + 1 + 1) (k := 0) HK.out (by omega) (by omega) (.int .i64 y.o)) (by omega) (by omega) (.string y.s)) (by omega) (by omega) (.int .i64 y.n)) (by omega) (by omega) (.slice p' m' c6)
      exact bodyPost_ret (v := .agg #[.int .i64 y.o, .string y.s, .int .i64 y.n, .slice p' m' c6]) (by simp [results, Try.results27, go_sem, s0, s1, s2, s3]) rfl ⟨_, _, _, rfl, hK4.mono fun b hb _ => hb.imp id (fun h => by omega), hB⟩
    have tt : ((o == 3) = true ∧ (s.toList == nm.toList) = false) ∨ (o == 3) = false := by
      rcases hx with ⟨h1, h2, h3⟩ | ⟨h1, h3⟩
      · exact .inl ⟨beq_iff_eq.2 h1, eq_no h2⟩
      · exact .inr (beq_eq_false_iff_ne.2 h1)
    rw [rep_no (by rcases hx with ⟨h1, h2, h3⟩ | ⟨h1, h3⟩ <;> exact h3)]
    have HCH := Lib.hid (fun W (hb : Below w.heap.size w W) (hB : Bx4 w W (.mk o s n l) p m c nm y p2 m2 c2) => change_rep (rep nm y) n0 o s n l p m c W (w.heap.size + 1) (w.heap.size + 1 + 1) (Kin.below (hb.mono hn) h) (Nat.le_trans hn hb.size) hlm
      (fun x hx V hV q j c' hk => closure_of nm y p2 m2 c2 n0 x (rep nm y x) q j c' (w.heap.size + 1) (w.heap.size + 1 + 1) V (Nat.le_trans hn (Nat.le_trans hb.size hV.size)) (hB.on hV).h1 (hB.on hV).h2
        (fun U hU => ih x hx n0 q j c' U (Kin.below (hU.mono (Nat.le_trans hn (Nat.le_trans hb.size hV.size))) hk) (Kin.below ((hb.mono hn).trans ((hV.mono (Nat.le_trans hn hb.size)).trans (hU.mono (Nat.le_trans hn (Nat.le_trans hb.size hV.size))))) hy) (Nat.le_trans hn (Nat.le_trans hb.size (Nat.le_trans hV.size hU.size))) (by have := cnt_mem hx; omega))))
    rw [← repL_map] at HCH
    have HNEW := Lib.hid (Bx4.new (w := w) (e := .mk o s n l) (p := p) (m := m) (c := c) (nm := nm) (y := y) (p2 := p2) (m2 := m2) (c2 := c2))
    change Calls Try.prog 27 #[.agg #[.int .i64 o, .string s, .int .i64 n, .slice p m c], .string nm, .agg #[.int .i64 y.o, .string y.s, .int .i64 y.n, .slice p2 m2 c2]] w (GivesF n0 (.mk o s n (repL nm y l)) w)
    clear hx ih h hy hc hlm hn
    rcases tt with ⟨t1, t2⟩ | t1
    all_goals
      go_enter Try.func27, Try.ntmps27
      go_wp2_with fail
      refine (HCH.out _ (by (repeat (first | (with_reducible exact Below.refl _ _) | (with_reducible assumption) | (with_reducible apply bl_alloc) | (with_reducible apply bl_drewN) | (with_reducible apply bl_drew) | (with_reducible refine bl_set ?_ (by first | (simp; done) | (simp; omega)) _) | (with_reducible refine bl_call ?_ (by assumption))))) HNEW.out).mono ?_
      rintro e w1 ⟨p', m', c6, rfl, hk, hb1⟩
      have HB4 := Lib.hid (HNEW.out.on hb1)
      have HK := Lib.hid (show Kin (Fr n0 (w.heap.size + 4)) w1 (.mk o s n (repL nm y l)) p' m' by simpa using hk)
      clear hb1 hk
      simp only [ex_o, ex_s, ex_n]
      obtain ⟨q0, q1, q2, q3⟩ := HB4.out.h3
      have r0 := HB4.out.f3 0
      have r1 := HB4.out.f3 1
      have r2 := HB4.out.f3 2
      have r3 := HB4.out.f3 3
      go_wp2_with fail
      (try simp only [Exit.inBlock, Exit.then])
      have hn := HN.out
      obtain ⟨s0, s1, s2, s3⟩ := set4 (⟨q0, q1, q2, q3⟩ : box4 w1 (w.heap.size + 1 + 1 + 1) 0 mE 0 none 0 0) o s n p' m' c6
      have hB := below4 HB4.out.hb (g := w.heap.size + 1 + 1 + 1) (by omega) (.int .i64 o) (.string s) (.int .i64 n) (.slice p' m' c6)
      have hK4 := kin_set (g := w.heap.size + 1 + 1 + 1) (k := 3) (kin_set (g := w.heap.size + 1 + 1 + 1) (k := 2) (kin_set (g := w.heap.size + 1 + 1 + 1) (k := 1) (kin_set (g := w.heap.size + 1 + 1 + 1) (k := 0) HK.out (by omega) (by omega) (.int .i64 o)) (by omega) (by omega) (.string s)) (by omega) (by omega) (.int .i64 n)) (by omega) (by omega) (.slice p' m' c6)
      exact bodyPost_ret (v := .agg #[.int .i64 o, .string s, .int .i64 n, .slice p' m' c6]) (by simp [results, Try.results27, go_sem, s0, s1, s2, s3]) rfl ⟨_, _, _, rfl, hK4.mono fun b hb _ => hb.imp id (fun h => by omega), hB⟩
end Go.Proofs.Ytfkenbdfakjeoaa.Ex
