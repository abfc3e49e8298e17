/-
  The contracts of changeKids with each of the two functions that it is called with.
-/
import Derived.Test.YtfkenbdfakjeoaaEClone
namespace Go.Proofs.Ytfkenbdfakjeoaa.Ex
open Go.RowKit
open Go.Proofs.Ytfkenbdfakjeoaa.Na (bs bs_inj chk)
set_option maxHeartbeats 4000000
set_option linter.unusedVariables false
/-- The two blocks that a call made, and its bound. -/
structure Bx2 (w wr : World) (o : Int) (s : ByteArray) (n : Int) (p : Option Addr) (m c : Nat) : Prop where
  h0 : box4 wr w.heap.size o s n p m c
  h2 : box4 wr (w.heap.size + 1) 0 mE 0 none 0 0
  f0 : frz4 wr w.heap.size
  f2 : frz4 wr (w.heap.size + 1)
  hb : Below w.heap.size w wr
  hz : w.heap.size + 2 ≤ wr.heap.size
section
variable {w wr w2 : World} {o : Int} {s : ByteArray} {n : Int} {p : Option Addr} {m c : Nat}
theorem Bx2.low (h : Bx2 w wr o s n p m c) (hb : Below (w.heap.size + 2) wr w2) : Bx2 w w2 o s n p m c :=
  ⟨h.h0.low hb (by omega), h.h2.low hb (by omega), fun k => (hb.frozen (p := ⟨w.heap.size, k, none⟩) (show w.heap.size < w.heap.size + 2 by omega)).trans (h.f0 k), fun k => (hb.frozen (p := ⟨w.heap.size + 1, k, none⟩) (show w.heap.size + 1 < w.heap.size + 2 by omega)).trans (h.f2 k), h.hb.trans (hb.mono (by omega)), Nat.le_trans h.hz hb.size⟩
theorem Bx2.new : Bx2 w ((w.alloc (.cells #[.int .i64 o, .string s, .int .i64 n, .slice p m c] 25)).alloc (.cells #[.int .i64 0, .string mE, .int .i64 0, .slice none 0 0] 25)) o s n p m c := by
  obtain ⟨w1, hw1⟩ : ∃ w1, w.alloc (.cells #[.int .i64 o, .string s, .int .i64 n, .slice p m c] 25) = w1 := ⟨_, rfl⟩
  have hz1 : w1.heap.size = w.heap.size + 1 := by rw [← hw1]; simp
  have hb1 : Below w.heap.size w w1 := by rw [← hw1]; (repeat (first | (with_reducible exact Below.refl _ _) | (with_reducible assumption) | (with_reducible apply bl_alloc) | (with_reducible apply bl_drewN) | (with_reducible apply bl_drew) | (with_reducible refine bl_set ?_ (by first | (simp; done) | (simp; omega)) _) | (with_reducible refine bl_call ?_ (by assumption))))
  have h1 := box_new (w := w) (o := o) (s := s) (n := n) (p := p) (m := m) (c := c) (t := 25)
  have f1 : frz4 (w.alloc (.cells #[.int .i64 o, .string s, .int .i64 n, .slice p m c] 25)) w.heap.size := fun k => frz_new k
  obtain ⟨w3, hw3⟩ : ∃ w3, w1.alloc (.cells #[.int .i64 0, .string mE, .int .i64 0, .slice none 0 0] 25) = w3 := ⟨_, rfl⟩
  have hz3 : w3.heap.size = w.heap.size + 2 := by rw [← hw3]; simp [hz1]
  have hb3 : Below w1.heap.size w1 w3 := by rw [← hw3]; (repeat (first | (with_reducible exact Below.refl _ _) | (with_reducible assumption) | (with_reducible apply bl_alloc) | (with_reducible apply bl_drewN) | (with_reducible apply bl_drew) | (with_reducible refine bl_set ?_ (by first | (simp; done) | (simp; omega)) _) | (with_reducible refine bl_call ?_ (by assumption))))
  have h3 := box_new (w := w1) (o := 0) (s := mE) (n := 0) (p := none) (m := 0) (c := 0) (t := 25)
  have f3 : frz4 (w1.alloc (.cells #[.int .i64 0, .string mE, .int .i64 0, .slice none 0 0] 25)) w1.heap.size := fun k => frz_new k
  rw [hw1] at h1 f1
  rw [hw3] at h3 f3
  rw [hw1, hw3]
  rw [hz1] at h3 f3
  exact ⟨h1.on hb3, h3, f1.on hb3 (by omega), f3, hb1.trans (hb3.mono (by omega)), by omega⟩
end
theorem scell_other {W : World} {a b : Addr} {v : Value} (h : a ≠ b) : (W.setCell a v).cell? b = W.cell? b := World.cell?_setCell_other W a b v h
/-- Another list of parts is stored into the expression. -/
theorem Bx2.kids {w wr : World} {o : Int} {s : ByteArray} {n : Int} {p : Option Addr} {m c : Nat} (h : Bx2 w wr o s n p m c) (p' : Option Addr) (m' c' : Nat) : Bx2 w (wr.setCell ⟨w.heap.size, 3, none⟩ (.slice p' m' c')) o s n p' m' c' := by
  obtain ⟨⟨a0, a1, a2, a3⟩, h2, f0, f2, hb, hz⟩ := h
  refine ⟨⟨?_, ?_, ?_, ?_⟩, box4_far h2 (by omega), fun k => by rw [World.frozen?_setCell]; exact f0 k, fun k => by rw [World.frozen?_setCell]; exact f2 k, below_set3 hb (Nat.le_refl _) _, by rw [World.size_setCell]; exact hz⟩
  · exact (scell_other (by simp)).trans a0
  · exact (scell_other (by simp)).trans a1
  · exact (scell_other (by simp)).trans a2
  · exact World.cell?_setCell_same' _ _ _ (by rw [a3]; rfl)
/-- Blocks that are old, or were made from a block on, but for one. -/
def Gg (n0 lo g : Nat) : Nat → Prop := fun b => (b < n0 ∨ lo ≤ b) ∧ b ≠ g
theorem Rw4.mid {w : World} {g : Nat} {L1 L2 : List Rw} {r : Rw} (h : Rw4 w g (L1 ++ r :: L2)) : cell4 w g (L1.length * 4) r.x r.p r.m r.c := by
  have hi : L1.length < (L1 ++ r :: L2).length := by simp
  have := h.at hi
  rw [List.getElem_append_right (Nat.le_refl _)] at this
  simpa using this
/-- Four stores into a row. -/
theorem Rw4.put {w : World} {g : Nat} {L1 L2 : List Rw} {r : Rw} (h : Rw4 w g (L1 ++ r :: L2)) (x : Ex) (p : Option Addr) (m c : Nat) :
    Rw4 ((((w.setCell ⟨g, L1.length * 4, none⟩ (.int .i64 x.o)).setCell ⟨g, L1.length * 4 + 1, none⟩ (.string x.s)).setCell ⟨g, L1.length * 4 + 2, none⟩ (.int .i64 x.n)).setCell ⟨g, L1.length * 4 + 3, none⟩ (.slice p m c)) g (L1 ++ ⟨x, p, m, c⟩ :: L2) := by
  obtain ⟨c0, c1, c2, c3⟩ := h.mid
  intro j u hu
  have hl := flatK_len L1
  rw [flatK_app] at hu
  by_cases hj : j < L1.length * 4
  · rw [List.getElem?_append_left (by rw [hl]; exact hj)] at hu
    have ho := h j u (by rw [flatK_app, List.getElem?_append_left (by rw [hl]; exact hj)]; exact hu)
    rw [scell_other (by first | (simp; done) | (simp; omega)), scell_other (by first | (simp; done) | (simp; omega)), scell_other (by first | (simp; done) | (simp; omega)), scell_other (by first | (simp; done) | (simp; omega))]
    exact ho
  · rw [List.getElem?_append_right (by rw [hl]; omega), hl] at hu
    obtain ⟨i, hi⟩ : ∃ i, j = L1.length * 4 + i := ⟨j - L1.length * 4, by omega⟩
    subst hi
    rw [Nat.add_sub_cancel_left] at hu
    match i, hu with
    | 0, hu =>
      cases hu
      rw [scell_other (by simp), scell_other (by simp), scell_other (by simp)]
      exact World.cell?_setCell_same' _ _ _ (by rw [c0]; rfl)
    | 1, hu =>
      cases hu
      rw [scell_other (by simp), scell_other (by simp)]
      exact World.cell?_setCell_same' _ _ _ (by rw [scell_other (by simp), c1]; rfl)
    | 2, hu =>
      cases hu
      rw [scell_other (by simp)]
      exact World.cell?_setCell_same' _ _ _ (by rw [scell_other (by simp), scell_other (by simp), c2]; rfl)
    | 3, hu =>
      cases hu
      exact World.cell?_setCell_same' _ _ _ (by rw [scell_other (by simp), scell_other (by simp), scell_other (by simp), c3]; rfl)
    | i + 4, hu =>
      have ho := h (L1.length * 4 + (i + 4)) u (by
        rw [flatK_app, List.getElem?_append_right (by rw [hl]; omega), hl, Nat.add_sub_cancel_left]
        exact hu)
      rw [scell_other (by first | (simp; done) | (simp; omega)), scell_other (by first | (simp; done) | (simp; omega)), scell_other (by first | (simp; done) | (simp; omega)), scell_other (by first | (simp; done) | (simp; omega))]
      exact ho
theorem drop_cons {l : List Ex} {k : Nat} {r : Rw} {L : List Rw} (h : (r :: L).map Rw.x = l.drop k) : l[k]? = some r.x ∧ L.map Rw.x = l.drop (k + 1) := by
  rw [List.map_cons] at h
  constructor
  · have := congrArg (fun z => z[0]?) h
    simpa using this.symm
  · have := congrArg List.tail h
    simpa using this
/-- What a loop over the parts holds. -/
structure Lp (f : Ex → Ex) (n0 g m cap : Nat) (l : List Ex) (w wr : World) (o : Int) (s : ByteArray) (n : Int) (L1 L0 : List Rw) : Prop where
  e1 : L1.map Rw.x = (l.take L1.length).map f
  e0 : L0.map Rw.x = l.drop L1.length
  row : Rw4 wr g (L1 ++ L0)
  k1 : ∀ r ∈ L1, Kin (Gg n0 (w.heap.size + 2) g) wr r.x r.p r.m
  k0 : ∀ r ∈ L0, Kin (Lo n0) wr r.x r.p r.m
  fz : frz4 wr g
  hg : w.heap.size + 2 ≤ g ∧ g < wr.heap.size
  bx : Bx2 w wr o s n (some ⟨g, 0, none⟩) m cap
theorem Lp.step {f : Ex → Ex} {n0 g m cap : Nat} {l : List Ex} {w wr w2 : World} {o : Int} {s : ByteArray} {n : Int} {L1 L0 : List Rw} {r : Rw} (h : Lp f n0 g m cap l w wr o s n L1 (r :: L0)) (hn : n0 ≤ w.heap.size) {p : Option Addr} {m' c : Nat} {z : Nat} (hz : wr.heap.size ≤ z) (hk : Kin (Fr n0 z) w2 (f r.x) p m') (hb : Below wr.heap.size wr w2) :
    Lp f n0 g m cap l w ((((w2.setCell ⟨g, L1.length * 4, none⟩ (.int .i64 (f r.x).o)).setCell ⟨g, L1.length * 4 + 1, none⟩ (.string (f r.x).s)).setCell ⟨g, L1.length * 4 + 2, none⟩ (.int .i64 (f r.x).n)).setCell ⟨g, L1.length * 4 + 3, none⟩ (.slice p m' c)) o s n (L1 ++ [⟨f r.x, p, m', c⟩]) L0 := by
  obtain ⟨e1, e0, row, k1, k0, fz, ⟨hg1, hg2⟩, bx⟩ := h
  obtain ⟨d1, d2⟩ := drop_cons e0
  have far : ∀ b, b ≠ g → ((((w2.setCell ⟨g, L1.length * 4, none⟩ (.int .i64 (f r.x).o)).setCell ⟨g, L1.length * 4 + 1, none⟩ (.string (f r.x).s)).setCell ⟨g, L1.length * 4 + 2, none⟩ (.int .i64 (f r.x).n)).setCell ⟨g, L1.length * 4 + 3, none⟩ (.slice p m' c)).heap[b]? = w2.heap[b]? := fun b hb => by
    rw [set_far hb, set_far hb, set_far hb, set_far hb]
  have hr2 : Rw4 w2 g (L1 ++ r :: L0) := row.keep (hb.block g hg2)
  refine ⟨?_, ?_, ?_, ?_, ?_, ?_, ?_, ?_⟩
  · rw [List.map_append, e1, List.length_append, show ([⟨f r.x, p, m', c⟩] : List Rw).length = 1 from rfl, take_one d1]; simp
  · rw [List.length_append]; exact d2
  · have := hr2.put (f r.x) p m' c
    rw [List.append_assoc]
    exact this
  · intro q hq
    rcases List.mem_append.1 hq with hq | hq
    · exact Kin.map (by simp only [World.size_setCell]; exact hb.size) (fun b hG hlt => ⟨hG, (far b hG.2).trans (hb.block b hlt)⟩) _ (k1 q hq)
    · rw [List.mem_singleton.1 hq]
      exact Kin.map (by simp only [World.size_setCell]; exact Nat.le_refl _) (fun b hG hlt => by
        have hne : b ≠ g := by rcases hG with h | h <;> omega
        exact ⟨⟨hG.imp id (fun h => by omega), hne⟩, far b hne⟩) _ hk
  · intro q hq
    exact Kin.map (by simp only [World.size_setCell]; exact hb.size) (fun b hG hlt => ⟨hG, (far b (by have : b < n0 := hG; omega)).trans (hb.block b hlt)⟩) _ (k0 q (List.mem_cons_of_mem _ hq))
  · intro k
    rw [World.frozen?_setCell, World.frozen?_setCell, World.frozen?_setCell, World.frozen?_setCell]
    exact (hb.frozen (p := ⟨g, k, none⟩) hg2).trans (fz k)
  · simp only [World.size_setCell]
    exact ⟨hg1, Nat.lt_of_lt_of_le hg2 hb.size⟩
  · refine bx.low ?_
    exact below_set3 (below_set3 (below_set3 (below_set3 (hb.mono (by have := bx.hz; omega)) hg1 _) hg1 _) hg1 _) hg1 _
theorem Lp.done {f : Ex → Ex} {n0 g m cap : Nat} {l : List Ex} {w wr : World} {o : Int} {s : ByteArray} {n : Int} {L1 : List Rw} (h : Lp f n0 g m cap l w wr o s n L1 []) (hl : l.length = m) (hL : L1.length = m) (hm : m ≤ 1000000) : Kin (Fr n0 (w.heap.size + 2)) wr (.mk o s n (l.map f)) (some ⟨g, 0, none⟩) m := by
  obtain ⟨e1, e0, row, k1, k0, fz, ⟨hg1, hg2⟩, bx⟩ := h
  rw [hL, List.take_of_length_le (by rw [hl]; exact Nat.le_refl _)] at e1
  rw [List.append_nil] at row
  have := row.kin (G := Fr n0 (w.heap.size + 2)) (.inr hg1) hg2 (by rw [hL]; omega) (fun r hr => (k1 r hr).mono fun b hb _ => hb.1) o s n
  rwa [e1, hL] at this
set_option maxRecDepth 100000 in
theorem change_clone (f : Ex → Ex) (n0 : Nat) (o : Int) (s : ByteArray) (n : Int) (l : List Ex) (p : Option Addr) (m c : Nat) (w : World) (h : Kin (Lo n0) w (.mk o s n l) p m) (hn : n0 ≤ w.heap.size) (hm : m ≤ 1000000)
    (hc : ∀ x ∈ l, ∀ (W : World), Below w.heap.size w W → ∀ (q : Option Addr) (j c' : Nat), Kin (Lo n0) W x q j → Calls Try.prog 43 #[.agg #[.int .i64 x.o, .string x.s, .int .i64 x.n, .slice q j c']] W (GivesF n0 (f x) W)) :
    Calls Try.prog 44 #[.agg #[.int .i64 o, .string s, .int .i64 n, .slice p m c], .func (.func 43) #[] #[]] w (GivesF n0 (.mk o s n (l.map f)) w) := by
  have HCL := Lib.hid (fun W (hb : Below w.heap.size w W) => clone_rows l p m c n0 W (Kin.any (Kin.below (hb.mono hn) h)) (Nat.le_trans hn hb.size) hm)
  have HC := Lib.hid hc
  have HN := Lib.hid hn
  have HM := Lib.hid hm
  have HL := Lib.hid h.len.1
  clear hc hm h
  go_enter Try.func44, Try.ntmps44
  go_wp2_with fail
  refine (HCL.out _ (by (repeat (first | (with_reducible exact Below.refl _ _) | (with_reducible assumption) | (with_reducible apply bl_alloc) | (with_reducible apply bl_drewN) | (with_reducible apply bl_drew) | (with_reducible refine bl_set ?_ (by first | (simp; done) | (simp; omega)) _) | (with_reducible refine bl_call ?_ (by assumption)))))).mono ?_
  rintro e w1 ⟨v, rfl, hb1, hv⟩
  have HB1 := Lib.hid ((Bx2.new (w := w) (o := o) (s := s) (n := n) (p := p) (m := m) (c := c)).low (hb1.mono (by simp)))
  have HZ1 : w.heap.size + 2 ≤ w1.heap.size := HB1.out.hz
  have a3 := HB1.out.h0.2.2.2
  have f3 := HB1.out.f0 3
  rcases hv with ⟨rfl, p', c', rfl⟩ | ⟨g, cap, L, rfl, hgl, hgs, hL, hrow, hfz, hkin⟩
  · have HB2 := Lib.hid (HB1.out.kids p' 0 c')
    clear hb1
    go_wp2_with fail
    go_loopw [14] (fun i wr => i = .int .i64 0 ∧ Hid (Bx2 w wr o s n p' 0 c')) (fun i _ => 0)
    case atStart => exact ⟨rfl, HB2⟩
    case round =>
      obtain ⟨rfl, HB⟩ := hrel
      have hl0 : l = [] := List.length_eq_zero_iff.1 HL.out
      have HL0 := Lib.hid hl0
      obtain ⟨b0, b1, b2, b3⟩ := HB.out.h0
      obtain ⟨q0, q1, q2, q3⟩ := HB.out.h2
      have r0 := HB.out.f2 0
      have r1 := HB.out.f2 1
      have r2 := HB.out.f2 2
      have r3 := HB.out.f2 3
      clear hl0 a3 f3
      go_wp2_with fail
      (try simp only [Exit.inBlock, Exit.then])
      obtain ⟨s0, s1, s2, s3⟩ := set4 (⟨q0, q1, q2, q3⟩ : box4 wr (w.heap.size + 1) 0 mE 0 none 0 0) o s n p' 0 c'
      have hB := below4 HB.out.hb (g := w.heap.size + 1) (by omega) (.int .i64 o) (.string s) (.int .i64 n) (.slice p' 0 c')
      exact bodyPost_ret (v := .agg #[.int .i64 o, .string s, .int .i64 n, .slice p' 0 c']) (by simp [results, Try.results44, go_sem, s0, s1, s2, s3]) rfl ⟨_, _, _, rfl, by rw [HL0.out]; exact Kin.zero, hB⟩
  · have hg2 : w.heap.size + 2 ≤ g := Nat.le_trans (by simp) hgl
    have far : ∀ b, b ≠ w.heap.size → (w1.setCell ⟨w.heap.size, 3, none⟩ (.slice (some ⟨g, 0, none⟩) m cap)).heap[b]? = w1.heap[b]? := fun b hb => set_far hb
    have HLP : Hid (Lp f n0 g m cap l w (w1.setCell ⟨w.heap.size, 3, none⟩ (.slice (some ⟨g, 0, none⟩) m cap)) o s n [] L) := Lib.hid
      ⟨rfl, hL, by rw [List.nil_append]; exact hrow.keep (far g (by omega)), fun r hr => (by cases hr), fun r hr => Kin.map (by simp) (fun b hG _ => ⟨hG, far b (by have : b < n0 := hG; omega)⟩) _ (hkin r hr), fun k => by rw [World.frozen?_setCell]; exact hfz k, ⟨hg2, by simpa using hgs⟩, HB1.out.kids _ _ _⟩
    clear hb1 hL hrow hfz hkin far hgl hgs
    go_wp2_with fail
    go_loopw [14] (fun i wr => ∃ L1 L0 : List Rw, L1.length ≤ m ∧ i = .int .i64 (L1.length : Nat) ∧ Hid (Lp f n0 g m cap l w wr o s n L1 L0)) (fun i _ => m - (intOf i).toNat)
    case atStart => exact ⟨[], L, Nat.zero_le _, rfl, HLP⟩
    case round =>
      obtain ⟨L1, L0, hk, rfl, HP⟩ := hrel
      have hlen0 : L0.length + L1.length = m := by
        have h1 := congrArg List.length HP.out.e0
        rw [List.length_map, List.length_drop, HL.out] at h1
        omega
      obtain ⟨K, hK⟩ : ∃ K, L1.length = K := ⟨_, rfl⟩
      have HK := Lib.hid hK
      rw [hK] at hk hlen0 ⊢
      clear hK
      have k0 : (0 : Int) ≤ (K : Int) := by omega
      obtain ⟨b0, b1, b2, b3⟩ := HP.out.bx.h0
      rcases Nat.lt_or_ge K m with h | h
      · have k1 : (K : Int) < (m : Int) := by omega
        cases L0 with
        | nil => simp at hlen0; omega
        | cons r L0 =>
          obtain ⟨d1, d2⟩ := drop_cons HP.out.e0
          obtain ⟨e0, e1, e2, e3⟩ := HP.out.row.mid
          rw [HK.out] at e0 e1 e2 e3 d1
          have hmem : r.x ∈ l := List.mem_of_getElem? d1
          have hgb := HP.out.hg.2
          have hzr := HP.out.bx.hz
          have hlt0 : w.heap.size < wr.heap.size := by omega
          have hm6 : (m : Int) ≤ 1000000 := by have := HM.out; omega
          have HI1 := Lib.hid (fun W (hb : Below wr.heap.size wr W) => HC.out r.x hmem W (HP.out.bx.hb.trans (hb.mono (by omega))) r.p r.m r.c (Kin.map hb.size (fun b hG hlt => ⟨hG, hb.block b hlt⟩) _ (HP.out.k0 r List.mem_cons_self)))
          clear d1 d2 hmem
          go_wp2_with fail
          go_region_with (go_at_call 43; refine (HI1.out _ (by (repeat (first | (with_reducible exact Below.refl _ _) | (with_reducible assumption) | (with_reducible apply bl_alloc) | (with_reducible apply bl_drewN) | (with_reducible apply bl_drew) | (with_reducible refine bl_set ?_ (by first | (simp; done) | (simp; omega)) _) | (with_reducible refine bl_call ?_ (by assumption)))))).mono ?_; rintro e w2 ⟨p', m', c6, rfl, hk', hb2⟩
                          have hBw : Below wr.heap.size wr w2 := by (repeat (first | (with_reducible exact Below.refl _ _) | (with_reducible assumption) | (with_reducible apply bl_alloc) | (with_reducible apply bl_drewN) | (with_reducible apply bl_drew) | (with_reducible refine bl_set ?_ (by first | (simp; done) | (simp; omega)) _) | (with_reducible refine bl_call ?_ (by assumption))))
                          obtain ⟨y0, y1, y2, y3⟩ := HP.out.bx.h0.on hBw
                          obtain ⟨z0, z1, z2, z3⟩ : cell4 w2 g (K * 4) r.x r.p r.m r.c := cell4.on hBw hgb ⟨e0, e1, e2, e3⟩
                          have u0 := (frz4.on hBw hgb HP.out.fz) (K * 4)
                          have u1 := (frz4.on hBw hgb HP.out.fz) (K * 4 + 1)
                          have u2 := (frz4.on hBw hgb HP.out.fz) (K * 4 + 2)
                          have u3 := (frz4.on hBw hgb HP.out.fz) (K * 4 + 3))
          all_goals
            have HST := Lib.hid (HP.out.step HN.out (c := c6) (by first | (simp; done) | exact Nat.le_succ _) hk' hBw)
            rw [HK.out] at HST
            clear hk' hBw y0 y1 y2 y3 z0 z1 z2 z3 u0 u1 u2 u3 hb2
            go_wp2_with fail
            go_roundw
            case rel => exact ⟨L1 ++ [⟨f r.x, p', m', c6⟩], L0, by rw [List.length_append, HK.out]; simp; omega, by rw [List.length_append, HK.out]; simp, HST⟩
            case measure => simp [intOf]; omega
      · obtain rfl : m = K := by omega
        have hL0 : L0 = [] := List.length_eq_zero_iff.1 (by omega)
        subst hL0
        have HKF := Lib.hid (HP.out.done HL.out HK.out HM.out)
        obtain ⟨q0, q1, q2, q3⟩ := HP.out.bx.h2
        have r0 := HP.out.bx.f2 0
        have r1 := HP.out.bx.f2 1
        have r2 := HP.out.bx.f2 2
        have r3 := HP.out.bx.f2 3
        have hn := HN.out
        go_wp2_with fail
        (try simp only [Exit.inBlock, Exit.then])
        obtain ⟨s0, s1, s2, s3⟩ := set4 (⟨q0, q1, q2, q3⟩ : box4 wr (w.heap.size + 1) 0 mE 0 none 0 0) o s n (some ⟨g, 0, none⟩) m cap
        have hB := below4 HP.out.bx.hb (g := w.heap.size + 1) (by omega) (.int .i64 o) (.string s) (.int .i64 n) (.slice (some ⟨g, 0, none⟩) m cap)
        have hK4 := kin_set (g := w.heap.size + 1) (k := 3) (kin_set (g := w.heap.size + 1) (k := 2) (kin_set (g := w.heap.size + 1) (k := 1) (kin_set (g := w.heap.size + 1) (k := 0) HKF.out (by omega) (by omega) (.int .i64 o)) (by omega) (by omega) (.string s)) (by omega) (by omega) (.int .i64 n)) (by omega) (by omega) (.slice (some ⟨g, 0, none⟩) m cap)
        exact bodyPost_ret (v := .agg #[.int .i64 o, .string s, .int .i64 n, .slice (some ⟨g, 0, none⟩) m cap]) (by simp [results, Try.results44, go_sem, s0, s1, s2, s3]) rfl ⟨_, _, _, rfl, hK4.mono fun b hb _ => hb.imp id (fun h => by omega), hB⟩
set_option maxRecDepth 100000 in
theorem change_rep (f : Ex → Ex) (n0 : Nat) (o : Int) (s : ByteArray) (n : Int) (l : List Ex) (p : Option Addr) (m c : Nat) (w : World) (B1 B2 : Nat) (h : Kin (Lo n0) w (.mk o s n l) p m) (hn : n0 ≤ w.heap.size) (hm : m ≤ 1000000)
    (hc : ∀ x ∈ l, ∀ (W : World), Below w.heap.size w W → ∀ (q : Option Addr) (j c' : Nat), Kin (Lo n0) W x q j → Calls Try.prog 45 #[.agg #[.int .i64 x.o, .string x.s, .int .i64 x.n, .slice q j c'], .pointer (some ⟨B1, 0, none⟩), .pointer (some ⟨B2, 0, none⟩)] W (GivesF n0 (f x) W)) :
    Calls Try.prog 44 #[.agg #[.int .i64 o, .string s, .int .i64 n, .slice p m c], .func (.func 45) #[] #[.pointer (some ⟨B1, 0, none⟩), .pointer (some ⟨B2, 0, none⟩)]] w (GivesF n0 (.mk o s n (l.map f)) w) := by
  have HCL := Lib.hid (fun W (hb : Below w.heap.size w W) => clone_rows l p m c n0 W (Kin.any (Kin.below (hb.mono hn) h)) (Nat.le_trans hn hb.size) hm)
  have HC := Lib.hid hc
  have HN := Lib.hid hn
  have HM := Lib.hid hm
  have HL := Lib.hid h.len.1
  clear hc hm h
  go_enter Try.func44, Try.ntmps44
  go_wp2_with fail
  refine (HCL.out _ (by (repeat (first | (with_reducible exact Below.refl _ _) | (with_reducible assumption) | (with_reducible apply bl_alloc) | (with_reducible apply bl_drewN) | (with_reducible apply bl_drew) | (with_reducible refine bl_set ?_ (by first | (simp; done) | (simp; omega)) _) | (with_reducible refine bl_call ?_ (by assumption)))))).mono ?_
  rintro e w1 ⟨v, rfl, hb1, hv⟩
  have HB1 := Lib.hid ((Bx2.new (w := w) (o := o) (s := s) (n := n) (p := p) (m := m) (c := c)).low (hb1.mono (by simp)))
  have HZ1 : w.heap.size + 2 ≤ w1.heap.size := HB1.out.hz
  have a3 := HB1.out.h0.2.2.2
  have f3 := HB1.out.f0 3
  rcases hv with ⟨rfl, p', c', rfl⟩ | ⟨g, cap, L, rfl, hgl, hgs, hL, hrow, hfz, hkin⟩
  · have HB2 := Lib.hid (HB1.out.kids p' 0 c')
    clear hb1
    go_wp2_with fail
    go_loopw [14] (fun i wr => i = .int .i64 0 ∧ Hid (Bx2 w wr o s n p' 0 c')) (fun i _ => 0)
    case atStart => exact ⟨rfl, HB2⟩
    case round =>
      obtain ⟨rfl, HB⟩ := hrel
      have hl0 : l = [] := List.length_eq_zero_iff.1 HL.out
      have HL0 := Lib.hid hl0
      obtain ⟨b0, b1, b2, b3⟩ := HB.out.h0
      obtain ⟨q0, q1, q2, q3⟩ := HB.out.h2
      have r0 := HB.out.f2 0
      have r1 := HB.out.f2 1
      have r2 := HB.out.f2 2
      have r3 := HB.out.f2 3
      clear hl0 a3 f3
      go_wp2_with fail
      (try simp only [Exit.inBlock, Exit.then])
      obtain ⟨s0, s1, s2, s3⟩ := set4 (⟨q0, q1, q2, q3⟩ : box4 wr (w.heap.size + 1) 0 mE 0 none 0 0) o s n p' 0 c'
      have hB := below4 HB.out.hb (g := w.heap.size + 1) (by omega) (.int .i64 o) (.string s) (.int .i64 n) (.slice p' 0 c')
      exact bodyPost_ret (v := .agg #[.int .i64 o, .string s, .int .i64 n, .slice p' 0 c']) (by simp [results, Try.results44, go_sem, s0, s1, s2, s3]) rfl ⟨_, _, _, rfl, by rw [HL0.out]; exact Kin.zero, hB⟩
  · have hg2 : w.heap.size + 2 ≤ g := Nat.le_trans (by simp) hgl
    have far : ∀ b, b ≠ w.heap.size → (w1.setCell ⟨w.heap.size, 3, none⟩ (.slice (some ⟨g, 0, none⟩) m cap)).heap[b]? = w1.heap[b]? := fun b hb => set_far hb
    have HLP : Hid (Lp f n0 g m cap l w (w1.setCell ⟨w.heap.size, 3, none⟩ (.slice (some ⟨g, 0, none⟩) m cap)) o s n [] L) := Lib.hid
      ⟨rfl, hL, by rw [List.nil_append]; exact hrow.keep (far g (by omega)), fun r hr => (by cases hr), fun r hr => Kin.map (by simp) (fun b hG _ => ⟨hG, far b (by have : b < n0 := hG; omega)⟩) _ (hkin r hr), fun k => by rw [World.frozen?_setCell]; exact hfz k, ⟨hg2, by simpa using hgs⟩, HB1.out.kids _ _ _⟩
    clear hb1 hL hrow hfz hkin far hgl hgs
    go_wp2_with fail
    go_loopw [14] (fun i wr => ∃ L1 L0 : List Rw, L1.length ≤ m ∧ i = .int .i64 (L1.length : Nat) ∧ Hid (Lp f n0 g m cap l w wr o s n L1 L0)) (fun i _ => m - (intOf i).toNat)
    case atStart => exact ⟨[], L, Nat.zero_le _, rfl, HLP⟩
    case round =>
      obtain ⟨L1, L0, hk, rfl, HP⟩ := hrel
      have hlen0 : L0.length + L1.length = m := by
        have h1 := congrArg List.length HP.out.e0
        rw [List.length_map, List.length_drop, HL.out] at h1
        omega
      obtain ⟨K, hK⟩ : ∃ K, L1.length = K := ⟨_, rfl⟩
      have HK := Lib.hid hK
      rw [hK] at hk hlen0 ⊢
      clear hK
      have k0 : (0 : Int) ≤ (K : Int) := by omega
      obtain ⟨b0, b1, b2, b3⟩ := HP.out.bx.h0
      rcases Nat.lt_or_ge K m with h | h
      · have k1 : (K : Int) < (m : Int) := by omega
        cases L0 with
        | nil => simp at hlen0; omega
        | cons r L0 =>
          obtain ⟨d1, d2⟩ := drop_cons HP.out.e0
          obtain ⟨e0, e1, e2, e3⟩ := HP.out.row.mid
          rw [HK.out] at e0 e1 e2 e3 d1
          have hmem : r.x ∈ l := List.mem_of_getElem? d1
          have hgb := HP.out.hg.2
          have hzr := HP.out.bx.hz
          have hlt0 : w.heap.size < wr.heap.size := by omega
          have hm6 : (m : Int) ≤ 1000000 := by have := HM.out; omega
          have HI1 := Lib.hid (fun W (hb : Below wr.heap.size wr W) => HC.out r.x hmem W (HP.out.bx.hb.trans (hb.mono (by omega))) r.p r.m r.c (Kin.map hb.size (fun b hG hlt => ⟨hG, hb.block b hlt⟩) _ (HP.out.k0 r List.mem_cons_self)))
          clear d1 d2 hmem
          go_wp2_with fail
          go_region_with (go_at_call 45; refine (HI1.out _ (by (repeat (first | (with_reducible exact Below.refl _ _) | (with_reducible assumption) | (with_reducible apply bl_alloc) | (with_reducible apply bl_drewN) | (with_reducible apply bl_drew) | (with_reducible refine bl_set ?_ (by first | (simp; done) | (simp; omega)) _) | (with_reducible refine bl_call ?_ (by assumption)))))).mono ?_; rintro e w2 ⟨p', m', c6, rfl, hk', hb2⟩
                          have hBw : Below wr.heap.size wr w2 := by (repeat (first | (with_reducible exact Below.refl _ _) | (with_reducible assumption) | (with_reducible apply bl_alloc) | (with_reducible apply bl_drewN) | (with_reducible apply bl_drew) | (with_reducible refine bl_set ?_ (by first | (simp; done) | (simp; omega)) _) | (with_reducible refine bl_call ?_ (by assumption))))
                          obtain ⟨y0, y1, y2, y3⟩ := HP.out.bx.h0.on hBw
                          obtain ⟨z0, z1, z2, z3⟩ : cell4 w2 g (K * 4) r.x r.p r.m r.c := cell4.on hBw hgb ⟨e0, e1, e2, e3⟩
                          have u0 := (frz4.on hBw hgb HP.out.fz) (K * 4)
                          have u1 := (frz4.on hBw hgb HP.out.fz) (K * 4 + 1)
                          have u2 := (frz4.on hBw hgb HP.out.fz) (K * 4 + 2)
                          have u3 := (frz4.on hBw hgb HP.out.fz) (K * 4 + 3))
          all_goals
            have HST := Lib.hid (HP.out.step HN.out (c := c6) (by first | (simp; done) | exact Nat.le_succ _) hk' hBw)
            rw [HK.out] at HST
            clear hk' hBw y0 y1 y2 y3 z0 z1 z2 z3 u0 u1 u2 u3 hb2
            go_wp2_with fail
            go_roundw
            case rel => exact ⟨L1 ++ [⟨f r.x, p', m', c6⟩], L0, by rw [List.length_append, HK.out]; simp; omega, by rw [List.length_append, HK.out]; simp, HST⟩
            case measure => simp [intOf]; omega
      · obtain rfl : m = K := by omega
        have hL0 : L0 = [] := List.length_eq_zero_iff.1 (by omega)
        subst hL0
        have HKF := Lib.hid (HP.out.done HL.out HK.out HM.out)
        obtain ⟨q0, q1, q2, q3⟩ := HP.out.bx.h2
        have r0 := HP.out.bx.f2 0
        have r1 := HP.out.bx.f2 1
        have r2 := HP.out.bx.f2 2
        have r3 := HP.out.bx.f2 3
        have hn := HN.out
        go_wp2_with fail
        (try simp only [Exit.inBlock, Exit.then])
        obtain ⟨s0, s1, s2, s3⟩ := set4 (⟨q0, q1, q2, q3⟩ : box4 wr (w.heap.size + 1) 0 mE 0 none 0 0) o s n (some ⟨g, 0, none⟩) m cap
        have hB := below4 HP.out.bx.hb (g := w.heap.size + 1) (by omega) (.int .i64 o) (.string s) (.int .i64 n) (.slice (some ⟨g, 0, none⟩) m cap)
        have hK4 := kin_set (g := w.heap.size + 1) (k := 3) (kin_set (g := w.heap.size + 1) (k := 2) (kin_set (g := w.heap.size + 1) (k := 1) (kin_set (g := w.heap.size + 1) (k := 0) HKF.out (by omega) (by omega) (.int .i64 o)) (by omega) (by omega) (.string s)) (by omega) (by omega) (.int .i64 n)) (by omega) (by omega) (.slice (some ⟨g, 0, none⟩) m cap)
        exact bodyPost_ret (v := .agg #[.int .i64 o, .string s, .int .i64 n, .slice (some ⟨g, 0, none⟩) m cap]) (by simp [results, Try.results44, go_sem, s0, s1, s2, s3]) rfl ⟨_, _, _, rfl, hK4.mono fun b hb _ => hb.imp id (fun h => by omega), hB⟩
end Go.Proofs.Ytfkenbdfakjeoaa.Ex
