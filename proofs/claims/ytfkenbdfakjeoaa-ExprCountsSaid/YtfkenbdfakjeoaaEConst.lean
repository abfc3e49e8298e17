/-
  The contracts of Const, of the reference's Const, and of the law's own makers of expressions.
-/
import Derived.Test.YtfkenbdfakjeoaaEBase
import Derived.RangeFuncRecord
namespace Go.Proofs.Ytfkenbdfakjeoaa.Ex
open Go.RowKit
open Go.Proofs.Ytfkenbdfakjeoaa.Na (bs bs_inj chk)
set_option maxHeartbeats 2000000
set_option linter.unusedVariables false
set_option linter.unusedSimpArgs false
abbrev mE : ByteArray := ⟨#[]⟩
/-- An expression that a call returns. -/
def GivesE (x : Ex) (w : World) (e : Ending) (w' : World) : Prop := ∃ p m c, e = .returned (.agg #[.int .i64 x.o, .string x.s, .int .i64 x.n, .slice p m c]) ∧ In w' x p m ∧ Below w.heap.size w w'
def b01 (n : Int) : Int := if n = 0 then 0 else 1
def cnst (t n : Int) : Ex := if t = 1 then .mk 1 mE n [] else if t = 2 then .mk 2 mE (b01 n) [] else if t = 3 then .mk 7 mE 0 [.mk 1 mE n []] else .mk 0 mE 0 []
theorem In.leaf {w : World} {o n : Int} {s : ByteArray} {p : Option Addr} : In w (.mk o s n []) p 0 := Kin.zero
theorem In.one {w : World} {o n : Int} {s : ByteArray} {x : Ex} {b : Nat} {p : Option Addr} {m c : Nat} (hb : b < w.heap.size) (h : cell4 w b 0 x p m c) (hx : In w x p m) : In w (.mk o s n [x]) (some ⟨b, 0, none⟩) 1 := by
  refine kin_iff.2 ⟨rfl, by omega, .inr ⟨b, 0, rfl, hb, hb, Lib.hid fun k hk => ?_⟩⟩
  have : k = 0 := by simpa using hk
  subst this
  exact ⟨p, m, c, h, hx⟩
theorem In.two {w : World} {o n : Int} {s : ByteArray} {x y : Ex} {b : Nat} {p q : Option Addr} {m c m2 c2 : Nat} (hb : b < w.heap.size) (h : cell4 w b 0 x p m c) (hx : In w x p m) (h2 : cell4 w b 4 y q m2 c2) (hy : In w y q m2) : In w (.mk o s n [x, y]) (some ⟨b, 0, none⟩) 2 := by
  refine kin_iff.2 ⟨rfl, by omega, .inr ⟨b, 0, rfl, hb, hb, Lib.hid fun k hk => ?_⟩⟩
  have : k = 0 ∨ k = 1 := by simp at hk; omega
  rcases this with rfl | rfl
  · exact ⟨p, m, c, h, hx⟩
  · exact ⟨q, m2, c2, h2, hy⟩
theorem frz_new {w : World} {C : Array Value} {t : TypeId} (k : Nat) : (w.alloc (.cells C t)).frozen? ⟨w.heap.size, k, none⟩ = false := by
  have h : (w.alloc (.cells C t)).heap[w.heap.size]? = some (.cells C t (0, 0)) := World.alloc_heap_new w _
  unfold World.frozen?
  rw [h]
  simp
/-- Four stores into a boxed expression. -/
theorem set4 {W : World} {g : Nat} {o : Int} {s : ByteArray} {n : Int} {p : Option Addr} {m c : Nat} (h : box4 W g o s n p m c) (o' : Int) (s' : ByteArray) (n' : Int) (p' : Option Addr) (m' c' : Nat) :
    box4 ((((W.setCell ⟨g, 0, none⟩ (.int .i64 o')).setCell ⟨g, 1, none⟩ (.string s')).setCell ⟨g, 2, none⟩ (.int .i64 n')).setCell ⟨g, 3, none⟩ (.slice p' m' c')) g o' s' n' p' m' c' := by
  obtain ⟨h0, h1, h2, h3⟩ := h
  refine ⟨?_, ?_, ?_, ?_⟩ <;> simp [go_sem, h0, h1, h2, h3]
theorem below4 {a W : World} {g : Nat} (h : Below a.heap.size a W) (hg : a.heap.size ≤ g) (v0 v1 v2 v3 : Value) : Below a.heap.size a ((((W.setCell ⟨g, 0, none⟩ v0).setCell ⟨g, 1, none⟩ v1).setCell ⟨g, 2, none⟩ v2).setCell ⟨g, 3, none⟩ v3) :=
  (((h.setCell (p := ⟨g, 0, none⟩) hg v0).setCell (p := ⟨g, 1, none⟩) hg v1).setCell (p := ⟨g, 2, none⟩) hg v2).setCell (p := ⟨g, 3, none⟩) hg v3
theorem word_any (s : ByteArray) (w : World) : Calls Try.prog 24 #[.string s] w (GivesE (.mk 3 s 0 []) w) := by
  go_enter Try.func24, Try.ntmps24
  go_wp2_with fail
  (try simp only [Exit.inBlock, Exit.then])
  exact bodyPost_ret (v := .agg #[.int .i64 3, .string s, .int .i64 0, .slice none 0 0]) (by simp [results, Try.results24, go_sem]) rfl ⟨none, 0, 0, rfl, In.leaf, by (repeat (first | (with_reducible exact Below.refl _ _) | (with_reducible assumption) | (with_reducible apply bl_alloc) | (with_reducible apply bl_drewN) | (with_reducible apply bl_drew) | (with_reducible refine bl_set ?_ (by first | (simp; done) | (simp; omega)) _) | (with_reducible refine bl_call ?_ (by assumption))))⟩
theorem const_one (n : Int) (w : World) : Calls Try.prog 31 #[.int .i64 1, .int .i64 n] w fun e w' => e = .returned (.agg #[.int .i64 1, .string mE, .int .i64 n, .slice none 0 0]) ∧ Below w.heap.size w w' := by
  go_enter Try.func31, Try.ntmps31
  go_wp2_with fail
  (try simp only [Exit.inBlock, Exit.then])
  exact bodyPost_ret (v := .agg #[.int .i64 1, .string mE, .int .i64 n, .slice none 0 0]) (by simp [results, Try.results31, go_sem]) rfl ⟨rfl, by (repeat (first | (with_reducible exact Below.refl _ _) | (with_reducible assumption) | (with_reducible apply bl_alloc) | (with_reducible apply bl_drewN) | (with_reducible apply bl_drew) | (with_reducible refine bl_set ?_ (by first | (simp; done) | (simp; omega)) _) | (with_reducible refine bl_call ?_ (by assumption))))⟩
theorem const_any (t n : Int) (w : World) : Calls Try.prog 31 #[.int .i64 t, .int .i64 n] w (GivesE (cnst t n) w) := by
  unfold cnst
  by_cases h1 : t = 1
  · subst h1
    rw [if_pos rfl]
    exact (const_one n w).mono fun e w' h => ⟨none, 0, 0, h.1, In.leaf, h.2⟩
  rw [if_neg h1]
  have t1 : (t == 1) = false := beq_eq_false_iff_ne.2 h1
  by_cases h2 : t = 2
  · subst h2
    rw [if_pos rfl]
    by_cases hn : n = 0
    · subst hn
      go_enter Try.func31, Try.ntmps31
      go_wp2_with fail
      (try simp only [Exit.inBlock, Exit.then])
      exact bodyPost_ret (v := .agg #[.int .i64 2, .string mE, .int .i64 0, .slice none 0 0]) (by simp [results, Try.results31, go_sem]) rfl ⟨none, 0, 0, rfl, In.leaf, by (repeat (first | (with_reducible exact Below.refl _ _) | (with_reducible assumption) | (with_reducible apply bl_alloc) | (with_reducible apply bl_drewN) | (with_reducible apply bl_drew) | (with_reducible refine bl_set ?_ (by first | (simp; done) | (simp; omega)) _) | (with_reducible refine bl_call ?_ (by assumption))))⟩
    · have f0 : (n == 0) = false := beq_eq_false_iff_ne.2 hn
      rw [show b01 n = 1 from if_neg hn]
      go_enter Try.func31, Try.ntmps31
      go_wp2_with fail
      (try simp only [Exit.inBlock, Exit.then])
      exact bodyPost_ret (v := .agg #[.int .i64 2, .string mE, .int .i64 1, .slice none 0 0]) (by simp [results, Try.results31, go_sem]) rfl ⟨none, 0, 0, rfl, In.leaf, by (repeat (first | (with_reducible exact Below.refl _ _) | (with_reducible assumption) | (with_reducible apply bl_alloc) | (with_reducible apply bl_drewN) | (with_reducible apply bl_drew) | (with_reducible refine bl_set ?_ (by first | (simp; done) | (simp; omega)) _) | (with_reducible refine bl_call ?_ (by assumption))))⟩
  rw [if_neg h2]
  have t2 : (t == 2) = false := beq_eq_false_iff_ne.2 h2
  by_cases h3 : t = 3
  · subst h3
    rw [if_pos rfl]
    go_enter Try.func31, Try.ntmps31
    go_wp2_with fail
    refine (const_one n _).mono ?_
    rintro e w2 ⟨rfl, hb2⟩
    obtain ⟨z0, z1, z2, z3⟩ := box4.on hb2 box_new
    have y0 := (hb2.frozen (p := ⟨w.heap.size, 0, none⟩) (by simp)).trans (frz_new 0)
    have y1 := (hb2.frozen (p := ⟨w.heap.size, 1, none⟩) (by simp)).trans (frz_new 1)
    have y2 := (hb2.frozen (p := ⟨w.heap.size, 2, none⟩) (by simp)).trans (frz_new 2)
    have y3 := (hb2.frozen (p := ⟨w.heap.size, 3, none⟩) (by simp)).trans (frz_new 3)
    have hlt : w.heap.size < w2.heap.size := by have := hb2.size; simp at this; omega
    have HB := Lib.hid (show Below w.heap.size w w2 by (repeat (first | (with_reducible exact Below.refl _ _) | (with_reducible assumption) | (with_reducible apply bl_alloc) | (with_reducible apply bl_drewN) | (with_reducible apply bl_drew) | (with_reducible refine bl_set ?_ (by first | (simp; done) | (simp; omega)) _) | (with_reducible refine bl_call ?_ (by assumption)))))
    clear hb2
    go_wp2_with fail
    (try simp only [Exit.inBlock, Exit.then])
    obtain ⟨r0, r1, r2, r3⟩ := (set4 ⟨z0, z1, z2, z3⟩ 7 mE 0 (some ⟨w2.heap.size, 0, none⟩) 1 1).alloc (.cells #[.int .i64 1, .string mE, .int .i64 n, .slice none 0 0] 25)
    have hB := bl_alloc (o := .cells #[.int .i64 1, .string mE, .int .i64 n, .slice none 0 0] 25) (below4 HB.out (g := w.heap.size) (Nat.le_refl _) (.int .i64 7) (.string mE) (.int .i64 0) (.slice (some ⟨w2.heap.size, 0, none⟩) 1 1))
    have hn4 := new4 (w := (((w2.setCell ⟨w.heap.size, 0, none⟩ (.int .i64 7)).setCell ⟨w.heap.size, 1, none⟩ (.string mE)).setCell ⟨w.heap.size, 2, none⟩ (.int .i64 0)).setCell ⟨w.heap.size, 3, none⟩ (.slice (some ⟨w2.heap.size, 0, none⟩) 1 1)) (x := .mk 1 mE n []) (p := none) (m := 0) (c := 0) (t := 25)
    simp only [World.size_setCell] at hn4
    exact bodyPost_ret (v := .agg #[.int .i64 7, .string mE, .int .i64 0, .slice (some ⟨w2.heap.size, 0, none⟩) 1 1]) (by simp [results, Try.results31, go_sem, r0, r1, r2, r3]) rfl ⟨_, _, _, rfl, In.one (by simp) hn4 In.leaf, hB⟩
  rw [if_neg h3]
  have t3 : (t == 3) = false := beq_eq_false_iff_ne.2 h3
  clear h1 h2 h3
  go_enter Try.func31, Try.ntmps31
  go_wp2_with fail
  (try simp only [Exit.inBlock, Exit.then])
  exact bodyPost_ret (v := .agg #[.int .i64 0, .string mE, .int .i64 0, .slice none 0 0]) (by simp [results, Try.results31, go_sem]) rfl ⟨none, 0, 0, rfl, In.leaf, by (repeat (first | (with_reducible exact Below.refl _ _) | (with_reducible assumption) | (with_reducible apply bl_alloc) | (with_reducible apply bl_drewN) | (with_reducible apply bl_drew) | (with_reducible refine bl_set ?_ (by first | (simp; done) | (simp; omega)) _) | (with_reducible refine bl_call ?_ (by assumption))))⟩
theorem rconst_one (n : Int) (w : World) : Calls Try.prog 32 #[.int .i64 1, .int .i64 n] w fun e w' => e = .returned (.agg #[.int .i64 1, .string mE, .int .i64 n, .slice none 0 0]) ∧ Below w.heap.size w w' := by
  go_enter Try.func32, Try.ntmps32
  go_wp2_with fail
  (try simp only [Exit.inBlock, Exit.then])
  exact bodyPost_ret (v := .agg #[.int .i64 1, .string mE, .int .i64 n, .slice none 0 0]) (by simp [results, Try.results32, go_sem]) rfl ⟨rfl, by (repeat (first | (with_reducible exact Below.refl _ _) | (with_reducible assumption) | (with_reducible apply bl_alloc) | (with_reducible apply bl_drewN) | (with_reducible apply bl_drew) | (with_reducible refine bl_set ?_ (by first | (simp; done) | (simp; omega)) _) | (with_reducible refine bl_call ?_ (by assumption))))⟩
theorem rconst_any (t n : Int) (w : World) : Calls Try.prog 32 #[.int .i64 t, .int .i64 n] w (GivesE (cnst t n) w) := by
  unfold cnst
  by_cases h1 : t = 1
  · subst h1
    rw [if_pos rfl]
    exact (rconst_one n w).mono fun e w' h => ⟨none, 0, 0, h.1, In.leaf, h.2⟩
  rw [if_neg h1]
  have t1 : (t == 1) = false := beq_eq_false_iff_ne.2 h1
  by_cases h2 : t = 2
  · subst h2
    rw [if_pos rfl]
    by_cases hn : n = 0
    · subst hn
      go_enter Try.func32, Try.ntmps32
      go_wp2_with fail
      (try simp only [Exit.inBlock, Exit.then])
      exact bodyPost_ret (v := .agg #[.int .i64 2, .string mE, .int .i64 0, .slice none 0 0]) (by simp [results, Try.results32, go_sem]) rfl ⟨none, 0, 0, rfl, In.leaf, by (repeat (first | (with_reducible exact Below.refl _ _) | (with_reducible assumption) | (with_reducible apply bl_alloc) | (with_reducible apply bl_drewN) | (with_reducible apply bl_drew) | (with_reducible refine bl_set ?_ (by first | (simp; done) | (simp; omega)) _) | (with_reducible refine bl_call ?_ (by assumption))))⟩
    · have f0 : (n == 0) = false := beq_eq_false_iff_ne.2 hn
      rw [show b01 n = 1 from if_neg hn]
      go_enter Try.func32, Try.ntmps32
      go_wp2_with fail
      (try simp only [Exit.inBlock, Exit.then])
      exact bodyPost_ret (v := .agg #[.int .i64 2, .string mE, .int .i64 1, .slice none 0 0]) (by simp [results, Try.results32, go_sem]) rfl ⟨none, 0, 0, rfl, In.leaf, by (repeat (first | (with_reducible exact Below.refl _ _) | (with_reducible assumption) | (with_reducible apply bl_alloc) | (with_reducible apply bl_drewN) | (with_reducible apply bl_drew) | (with_reducible refine bl_set ?_ (by first | (simp; done) | (simp; omega)) _) | (with_reducible refine bl_call ?_ (by assumption))))⟩
  rw [if_neg h2]
  have t2 : (t == 2) = false := beq_eq_false_iff_ne.2 h2
  by_cases h3 : t = 3
  · subst h3
    rw [if_pos rfl]
    go_enter Try.func32, Try.ntmps32
    go_wp2_with fail
    refine (rconst_one n _).mono ?_
    rintro e w2 ⟨rfl, hb2⟩
    obtain ⟨z0, z1, z2, z3⟩ := box4.on hb2 box_new
    have y0 := (hb2.frozen (p := ⟨w.heap.size, 0, none⟩) (by simp)).trans (frz_new 0)
    have y1 := (hb2.frozen (p := ⟨w.heap.size, 1, none⟩) (by simp)).trans (frz_new 1)
    have y2 := (hb2.frozen (p := ⟨w.heap.size, 2, none⟩) (by simp)).trans (frz_new 2)
    have y3 := (hb2.frozen (p := ⟨w.heap.size, 3, none⟩) (by simp)).trans (frz_new 3)
    have hlt : w.heap.size < w2.heap.size := by have := hb2.size; simp at this; omega
    have HB := Lib.hid (show Below w.heap.size w w2 by (repeat (first | (with_reducible exact Below.refl _ _) | (with_reducible assumption) | (with_reducible apply bl_alloc) | (with_reducible apply bl_drewN) | (with_reducible apply bl_drew) | (with_reducible refine bl_set ?_ (by first | (simp; done) | (simp; omega)) _) | (with_reducible refine bl_call ?_ (by assumption)))))
    clear hb2
    go_wp2_with fail
    (try simp only [Exit.inBlock, Exit.then])
    obtain ⟨r0, r1, r2, r3⟩ := (set4 ⟨z0, z1, z2, z3⟩ 7 mE 0 (some ⟨w2.heap.size, 0, none⟩) 1 1).alloc (.cells #[.int .i64 1, .string mE, .int .i64 n, .slice none 0 0] 25)
    have hB := bl_alloc (o := .cells #[.int .i64 1, .string mE, .int .i64 n, .slice none 0 0] 25) (below4 HB.out (g := w.heap.size) (Nat.le_refl _) (.int .i64 7) (.string mE) (.int .i64 0) (.slice (some ⟨w2.heap.size, 0, none⟩) 1 1))
    have hn4 := new4 (w := (((w2.setCell ⟨w.heap.size, 0, none⟩ (.int .i64 7)).setCell ⟨w.heap.size, 1, none⟩ (.string mE)).setCell ⟨w.heap.size, 2, none⟩ (.int .i64 0)).setCell ⟨w.heap.size, 3, none⟩ (.slice (some ⟨w2.heap.size, 0, none⟩) 1 1)) (x := .mk 1 mE n []) (p := none) (m := 0) (c := 0) (t := 25)
    simp only [World.size_setCell] at hn4
    exact bodyPost_ret (v := .agg #[.int .i64 7, .string mE, .int .i64 0, .slice (some ⟨w2.heap.size, 0, none⟩) 1 1]) (by simp [results, Try.results32, go_sem, r0, r1, r2, r3]) rfl ⟨_, _, _, rfl, In.one (by simp) hn4 In.leaf, hB⟩
  rw [if_neg h3]
  have t3 : (t == 3) = false := beq_eq_false_iff_ne.2 h3
  clear h1 h2 h3
  go_enter Try.func32, Try.ntmps32
  go_wp2_with fail
  (try simp only [Exit.inBlock, Exit.then])
  exact bodyPost_ret (v := .agg #[.int .i64 0, .string mE, .int .i64 0, .slice none 0 0]) (by simp [results, Try.results32, go_sem]) rfl ⟨none, 0, 0, rfl, In.leaf, by (repeat (first | (with_reducible exact Below.refl _ _) | (with_reducible assumption) | (with_reducible apply bl_alloc) | (with_reducible apply bl_drewN) | (with_reducible apply bl_drew) | (with_reducible refine bl_set ?_ (by first | (simp; done) | (simp; omega)) _) | (with_reducible refine bl_call ?_ (by assumption))))⟩
theorem new8 {w : World} {x y : Ex} {p q : Option Addr} {m c m2 c2 : Nat} {t : TypeId} : cell4 (w.alloc (.cells #[.int .i64 x.o, .string x.s, .int .i64 x.n, .slice p m c, .int .i64 y.o, .string y.s, .int .i64 y.n, .slice q m2 c2] t)) w.heap.size 0 x p m c ∧ cell4 (w.alloc (.cells #[.int .i64 x.o, .string x.s, .int .i64 x.n, .slice p m c, .int .i64 y.o, .string y.s, .int .i64 y.n, .slice q m2 c2] t)) w.heap.size 4 y q m2 c2 := by
  constructor
  · refine cell4_of fun r hr => ?_
    rw [World.cell?_alloc_mark]
    match r, hr with
    | 0, _ => rfl
    | 1, _ => rfl
    | 2, _ => rfl
    | 3, _ => rfl
  · refine cell4_of fun r hr => ?_
    rw [World.cell?_alloc_mark]
    match r, hr with
    | 0, _ => rfl
    | 1, _ => rfl
    | 2, _ => rfl
    | 3, _ => rfl
theorem two_any (o : Int) (x y : Ex) (p : Option Addr) (m c : Nat) (p2 : Option Addr) (m2 c2 : Nat) (w : World) (hx : In w x p m) (hy : In w y p2 m2) : Calls Try.prog 34 #[.int .i64 o, .agg #[.int .i64 x.o, .string x.s, .int .i64 x.n, .slice p m c], .agg #[.int .i64 y.o, .string y.s, .int .i64 y.n, .slice p2 m2 c2]] w (GivesE (.mk o mE 0 [x, y]) w) := by
  have HX := Lib.hid hx
  have HY := Lib.hid hy
  clear hx hy
  go_enter Try.func34, Try.ntmps34
  go_wp2_with fail
  (try simp only [Exit.inBlock, Exit.then])
  refine bodyPost_ret (v := .agg #[.int .i64 o, .string mE, .int .i64 0, .slice (some ⟨w.heap.size + 1 + 1 + 1, 0, none⟩) 2 2]) (by simp [results, Try.results34, go_sem]) rfl ⟨_, _, _, rfl, ?_, by (repeat (first | (with_reducible exact Below.refl _ _) | (with_reducible assumption) | (with_reducible apply bl_alloc) | (with_reducible apply bl_drewN) | (with_reducible apply bl_drew) | (with_reducible refine bl_set ?_ (by first | (simp; done) | (simp; omega)) _) | (with_reducible refine bl_call ?_ (by assumption))))⟩
  obtain ⟨w3, hw3⟩ : ∃ w3, ((w.alloc (.cells #[.int .i64 x.o, .string x.s, .int .i64 x.n, .slice p m c] 25)).alloc (.cells #[.int .i64 y.o, .string y.s, .int .i64 y.n, .slice p2 m2 c2] 25)).alloc (.cells #[.int .i64 o, .string mE, .int .i64 0, .slice (some ⟨w.heap.size + 1 + 1 + 1, 0, none⟩) 2 2] 25) = w3 := ⟨_, rfl⟩
  have hz : w3.heap.size = w.heap.size + 1 + 1 + 1 := by rw [← hw3]; simp
  have hb : Below w.heap.size w w3 := by rw [← hw3]; (repeat (first | (with_reducible exact Below.refl _ _) | (with_reducible assumption) | (with_reducible apply bl_alloc) | (with_reducible apply bl_drewN) | (with_reducible apply bl_drew) | (with_reducible refine bl_set ?_ (by first | (simp; done) | (simp; omega)) _) | (with_reducible refine bl_call ?_ (by assumption))))
  rw [hw3]
  obtain ⟨n1, n2⟩ := new8 (w := w3) (x := x) (y := y) (p := p) (q := p2) (m := m) (c := c) (m2 := m2) (c2 := c2) (t := 25)
  rw [hz] at n1 n2
  exact In.two (by simp; omega) n1 ((HX.out.on hb).alloc _) n2 ((HY.out.on hb).alloc _)
end Go.Proofs.Ytfkenbdfakjeoaa.Ex
