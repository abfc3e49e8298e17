/-
  The contract of the reference's Replace.
-/
import Derived.Test.YtfkenbdfakjeoaaERepB
import Derived.Deep.RegionLaw
namespace Go.Proofs.Ytfkenbdfakjeoaa.Ex
open Go.RowKit
open Go.Proofs.Ytfkenbdfakjeoaa.Na (bs bs_inj chk)
set_option maxHeartbeats 4000000
set_option linter.unusedVariables false
theorem news_at {w : World} {b : Nat} {x : Ex} {p : Option Addr} {m c : Nat} (h : cell4 w b 0 x p m c) {j : Nat} {u : Value} (hu : (flatK [⟨x, p, m, c⟩])[j]? = some u) : w.cell? ((⟨b, 0, none⟩ : Addr).add j) = some u := by
  have hj : j < 4 := by
    have := (List.getElem?_eq_some_iff.1 hu).1
    rwa [flatK_len] at this
  have h2 := flatK_get (l := [⟨x, p, m, c⟩]) (i := 0) (r := j) (by simp) hj
  rw [Nat.zero_mul, Nat.zero_add, hu] at h2
  rw [add_off, cell4_get h hj]
  exact h2.symm
theorem own_snoc {lo : Nat} {w : World} {v : Value} {L : List Rw} {r : Rw} (h : w.ownsRow lo 25 4 v (L.length + 1) (flatK L ++ flatK [r])) : OwnK lo w v (L ++ [r]) := by
  show w.ownsRow lo 25 4 v (L ++ [r]).length (flatK (L ++ [r]))
  rw [List.length_append, flatK_app]
  exact h
theorem own_where {v : Value} {g H n c : Nat} (h : v.ownBlock = some g ∨ g = H) : (Value.slice (some ⟨g, 0, none⟩) n c).ownBlock = v.ownBlock ∨ (Value.slice (some ⟨g, 0, none⟩) n c).ownBlock = some H := h.imp (fun e => e.symm) (fun e => by rw [e]; rfl)
theorem set_far {W : World} {g k b : Nat} {v : Value} (h : b ≠ g) : (W.setCell ⟨g, k, none⟩ v).heap[b]? = W.heap[b]? := by
  simp [World.setCell, Array.getElem?_modify, Ne.symm h]
theorem box4_far {w : World} {g g' k : Nat} {v : Value} {o : Int} {s : ByteArray} {n : Int} {p : Option Addr} {m c : Nat} (h : box4 w g o s n p m c) (hg : g ≠ g') : box4 (w.setCell ⟨g', k, none⟩ v) g o s n p m c := by
  obtain ⟨h0, h1, h2, h3⟩ := h
  have hb := set_far (W := w) (g := g') (k := k) (v := v) hg
  exact ⟨(World.cell?_of_block (a := ⟨g, 0, none⟩) hb).trans h0, (World.cell?_of_block (a := ⟨g, 1, none⟩) hb).trans h1, (World.cell?_of_block (a := ⟨g, 2, none⟩) hb).trans h2, (World.cell?_of_block (a := ⟨g, 3, none⟩) hb).trans h3⟩
theorem below_set3 {n₀ g k : Nat} {a W : World} (h : Below n₀ a W) (hg : n₀ ≤ g) (v : Value) : Below n₀ a (W.setCell ⟨g, k, none⟩ v) := h.setCell (p := ⟨g, k, none⟩) hg v
def frz4 (w : World) (g : Nat) : Prop := ∀ k, w.frozen? ⟨g, k, none⟩ = false
theorem frz4.on {w w2 : World} {g : Nat} (hb : Below w.heap.size w w2) (hg : g < w.heap.size) (h : frz4 w g) : frz4 w2 g := fun k => (hb.frozen (p := ⟨g, k, none⟩) hg).trans (h k)
/-- The three blocks that a call made, and its bound. -/
structure Bx3 (w wr : World) (o : Int) (s : ByteArray) (n : Int) (p : Option Addr) (m c : Nat) (y : Ex) (p2 : Option Addr) (m2 c2 : Nat) : Prop where
  h0 : box4 wr w.heap.size o s n p m c
  h1 : box4 wr (w.heap.size + 1) y.o y.s y.n p2 m2 c2
  h2 : box4 wr (w.heap.size + 1 + 1) 0 mE 0 none 0 0
  f0 : frz4 wr w.heap.size
  f2 : frz4 wr (w.heap.size + 1 + 1)
  hb : Below w.heap.size w wr
  hz : w.heap.size + 3 ≤ wr.heap.size
section
variable {w wr w2 : World} {o : Int} {s : ByteArray} {n : Int} {p : Option Addr} {m c : Nat} {y : Ex} {p2 : Option Addr} {m2 c2 : Nat}
theorem Bx3.on (h : Bx3 w wr o s n p m c y p2 m2 c2) (hb : Below wr.heap.size wr w2) : Bx3 w w2 o s n p m c y p2 m2 c2 := by
  have hz := h.hz
  exact ⟨h.h0.on hb, h.h1.on hb, h.h2.on hb, h.f0.on hb (by omega), h.f2.on hb (by omega), h.hb.trans (hb.mono (by omega)), Nat.le_trans h.hz hb.size⟩
theorem box4.low {w w2 : World} {g B : Nat} {o : Int} {s : ByteArray} {n : Int} {p : Option Addr} {m c : Nat} (hb : Below B w w2) (hg : g < B) (h : box4 w g o s n p m c) : box4 w2 g o s n p m c := by
  obtain ⟨h0, h1, h2, h3⟩ := h
  exact ⟨(hb.cell (p := ⟨g, 0, none⟩) hg).trans h0, (hb.cell (p := ⟨g, 1, none⟩) hg).trans h1, (hb.cell (p := ⟨g, 2, none⟩) hg).trans h2, (hb.cell (p := ⟨g, 3, none⟩) hg).trans h3⟩
theorem Bx3.low (h : Bx3 w wr o s n p m c y p2 m2 c2) (hb : Below (w.heap.size + 3) wr w2) : Bx3 w w2 o s n p m c y p2 m2 c2 :=
  ⟨h.h0.low hb (by omega), h.h1.low hb (by omega), h.h2.low hb (by omega), fun k => (hb.frozen (p := ⟨w.heap.size, k, none⟩) (show w.heap.size < w.heap.size + 3 by omega)).trans (h.f0 k), fun k => (hb.frozen (p := ⟨w.heap.size + 1 + 1, k, none⟩) (show w.heap.size + 1 + 1 < w.heap.size + 3 by omega)).trans (h.f2 k), h.hb.trans (hb.mono (by omega)), Nat.le_trans h.hz hb.size⟩
theorem kin_gv {n0 lo : Nat} {wr w2 : World} {v : Value} {L : List Rw} (ho : OwnK lo wr v L) (hn : n0 ≤ lo) (hlo : lo ≤ wr.heap.size) {x : Ex} {p : Option Addr} {m : Nat} (hk : Kin (Fr n0 wr.heap.size) w2 x p m) : Kin (Gv n0 lo v) w2 x p m :=
  hk.mono fun b hb _ => ⟨hb.imp id (Nat.le_trans hlo), fun e => by
    obtain ⟨h1, h2⟩ := OwnK.lt ho e.symm
    rcases hb with hb | hb <;> omega⟩
/-- A store into a block that is not of the set. -/
theorem kin_set {n0 lo g k : Nat} {W : World} {x : Ex} {p : Option Addr} {m : Nat} (hk : Kin (Fr n0 lo) W x p m) (h1 : n0 ≤ g) (h2 : g < lo) (v : Value) : Kin (Fr n0 lo) (W.setCell ⟨g, k, none⟩ v) x p m :=
  Kin.map (by simp) (fun b hb _ => ⟨hb, set_far (by rcases hb with hb | hb <;> omega)⟩) x hk
theorem Bx3.new : Bx3 w (((w.alloc (.cells #[.int .i64 o, .string s, .int .i64 n, .slice p m c] 25)).alloc (.cells #[.int .i64 y.o, .string y.s, .int .i64 y.n, .slice p2 m2 c2] 25)).alloc (.cells #[.int .i64 0, .string mE, .int .i64 0, .slice none 0 0] 25)) o s n p m c y p2 m2 c2 := by
  obtain ⟨w1, hw1⟩ : ∃ w1, w.alloc (.cells #[.int .i64 o, .string s, .int .i64 n, .slice p m c] 25) = w1 := ⟨_, rfl⟩
  have hz1 : w1.heap.size = w.heap.size + 1 := by rw [← hw1]; simp
  have hb1 : Below w.heap.size w w1 := by rw [← hw1]; (repeat (first | (with_reducible exact Below.refl _ _) | (with_reducible assumption) | (with_reducible apply bl_alloc) | (with_reducible apply bl_drewN) | (with_reducible apply bl_drew) | (with_reducible refine bl_set ?_ (by first | (simp; done) | (simp; omega)) _) | (with_reducible refine bl_call ?_ (by assumption))))
  have h1 := box_new (w := w) (o := o) (s := s) (n := n) (p := p) (m := m) (c := c) (t := 25)
  have f1 : frz4 (w.alloc (.cells #[.int .i64 o, .string s, .int .i64 n, .slice p m c] 25)) w.heap.size := fun k => frz_new k
  obtain ⟨w2, hw2⟩ : ∃ w2, w1.alloc (.cells #[.int .i64 y.o, .string y.s, .int .i64 y.n, .slice p2 m2 c2] 25) = w2 := ⟨_, rfl⟩
  have hz2 : w2.heap.size = w.heap.size + 2 := by rw [← hw2]; simp [hz1]
  have hb2 : Below w1.heap.size w1 w2 := by rw [← hw2]; (repeat (first | (with_reducible exact Below.refl _ _) | (with_reducible assumption) | (with_reducible apply bl_alloc) | (with_reducible apply bl_drewN) | (with_reducible apply bl_drew) | (with_reducible refine bl_set ?_ (by first | (simp; done) | (simp; omega)) _) | (with_reducible refine bl_call ?_ (by assumption))))
  have h2 := box_new (w := w1) (o := y.o) (s := y.s) (n := y.n) (p := p2) (m := m2) (c := c2) (t := 25)
  obtain ⟨w3, hw3⟩ : ∃ w3, w2.alloc (.cells #[.int .i64 0, .string mE, .int .i64 0, .slice none 0 0] 25) = w3 := ⟨_, rfl⟩
  have hz3 : w3.heap.size = w.heap.size + 3 := by rw [← hw3]; simp [hz2]
  have hb3 : Below w2.heap.size w2 w3 := by rw [← hw3]; (repeat (first | (with_reducible exact Below.refl _ _) | (with_reducible assumption) | (with_reducible apply bl_alloc) | (with_reducible apply bl_drewN) | (with_reducible apply bl_drew) | (with_reducible refine bl_set ?_ (by first | (simp; done) | (simp; omega)) _) | (with_reducible refine bl_call ?_ (by assumption))))
  have h3 := box_new (w := w2) (o := 0) (s := mE) (n := 0) (p := none) (m := 0) (c := 0) (t := 25)
  have f3 : frz4 (w2.alloc (.cells #[.int .i64 0, .string mE, .int .i64 0, .slice none 0 0] 25)) w2.heap.size := fun k => frz_new k
  rw [hw1] at h1 f1
  rw [hw2] at h2
  rw [hw3] at h3 f3
  rw [hw1, hw2, hw3]
  rw [hz1] at h2
  rw [hz2] at h3 f3
  exact ⟨(h1.on hb2).on hb3, h2.on hb3, h3, (f1.on hb2 (by omega)).on hb3 (by omega), f3, hb1.trans ((hb2.mono (by omega)).trans (hb3.mono (by omega))), by omega⟩
end
set_option maxRecDepth 100000 in
theorem rrep_any (nm : ByteArray) (y : Ex) (p2 : Option Addr) (m2 c2 : Nat) (e : Ex) : ∀ (n0 : Nat) (p : Option Addr) (m c : Nat) (w : World), Kin (Lo n0) w e p m → Kin (Lo n0) w y p2 m2 → n0 ≤ w.heap.size → cnt e ≤ 1000000 → Calls Try.prog 26 #[.agg #[.int .i64 e.o, .string e.s, .int .i64 e.n, .slice p m c], .string nm, .agg #[.int .i64 y.o, .string y.s, .int .i64 y.n, .slice p2 m2 c2]] w (GivesF n0 (rep nm y e) w) := by
  induction e using Ex.ind with
  | h o s n l ih =>
    intro n0 p m c w h hy hn hc
    rw [cnt_one] at hc
    have HH := Lib.hid h
    have HY := Lib.hid hy
    have HI := Lib.hid ih
    obtain ⟨hl, hm⟩ := h.len
    have HL := Lib.hid hl
    have HC := Lib.hid hc
    have HN := Lib.hid hn
    change Calls Try.prog 26 #[.agg #[.int .i64 o, .string s, .int .i64 n, .slice p m c], .string nm, .agg #[.int .i64 y.o, .string y.s, .int .i64 y.n, .slice p2 m2 c2]] w (GivesF n0 (rep nm y (.mk o s n l)) w)
    clear ih h hl hc hy hn
    rcases hit_cases nm o s with ⟨h1, h2, h3⟩ | hx
    · have t1 : (o == 3) = true := beq_iff_eq.2 h1
      have t2 := eq_yes h2
      rw [rep_yes h3]
      clear h1 h2 h3
      go_enter Try.func26, Try.ntmps26
      go_wp2_with fail
      (try simp only [Exit.inBlock, Exit.then])
      exact bodyPost_ret (v := .agg #[.int .i64 y.o, .string y.s, .int .i64 y.n, .slice p2 m2 c2]) (by simp [results, Try.results26, go_sem]) rfl ⟨_, _, _, rfl, (Kin.below (show Below n0 w _ from Below.mono (by (repeat (first | (with_reducible exact Below.refl _ _) | (with_reducible assumption) | (with_reducible apply bl_alloc) | (with_reducible apply bl_drewN) | (with_reducible apply bl_drew) | (with_reducible refine bl_set ?_ (by first | (simp; done) | (simp; omega)) _) | (with_reducible refine bl_call ?_ (by assumption))))) HN.out) HY.out).mono fun b hb _ => .inl hb, by (repeat (first | (with_reducible exact Below.refl _ _) | (with_reducible assumption) | (with_reducible apply bl_alloc) | (with_reducible apply bl_drewN) | (with_reducible apply bl_drew) | (with_reducible refine bl_set ?_ (by first | (simp; done) | (simp; omega)) _) | (with_reducible refine bl_call ?_ (by assumption))))⟩
    obtain ⟨i0, hi0, hi1, hi2, hi3⟩ := parts_of2 ex_info
    have tt : ((o == 3) = true ∧ (s.toList == nm.toList) = false) ∨ (o == 3) = false := by
      rcases hx with ⟨h1, h2, h3⟩ | ⟨h1, h3⟩
      · exact .inl ⟨beq_iff_eq.2 h1, eq_no h2⟩
      · exact .inr (beq_eq_false_iff_ne.2 h1)
    rw [rep_no (by rcases hx with ⟨h1, h2, h3⟩ | ⟨h1, h3⟩ <;> exact h3)]
    clear hx
    rcases tt with ⟨t1, t2⟩ | t1
    all_goals
      go_enter Try.func26, Try.ntmps26
      go_wp2_with fail
      go_loopw [7, 8] (fun v i wr => ∃ (k : Nat) (L : List Rw), k ≤ m ∧ i = .int .i64 (k : Nat) ∧ Hid (L.map Rw.x = repL nm y (l.take k) ∧ Inv n0 (w.heap.size + 3) wr v L) ∧ Hid (Bx3 w wr o s n p m c y p2 m2 c2)) (fun v i _ => m - (intOf i).toNat)
      case atStart => exact ⟨0, [], Nat.zero_le _, rfl, Lib.hid ⟨by rw [List.take_zero]; rfl, Inv.nil⟩, Lib.hid Bx3.new⟩
      case round =>
        obtain ⟨k, L, hk, rfl, HV, HB⟩ := hrel
        obtain ⟨b0, b1, b2, b3⟩ := HB.out.h0
        obtain ⟨d0, d1, d2, d3⟩ := HB.out.h1
        have k0 : (0 : Int) ≤ (k : Int) := by omega
        rcases Nat.lt_or_ge k m with h | h
        · have k1 : (k : Int) < (m : Int) := by omega
          obtain ⟨b, o', rfl, hG, hbs, hcell⟩ := HH.out.kids (by omega)
          have hkl : k < l.length := by rw [HL.out]; omega
          obtain ⟨q, j, c', hc4, hkin⟩ := hcell.out k hkl
          have hmem : l[k] ∈ l := List.getElem_mem hkl
          have hgx : l[k]? = some l[k] := List.getElem?_eq_getElem hkl
          obtain ⟨x, hx⟩ : ∃ x, l[k] = x := ⟨_, rfl⟩
          rw [hx] at hc4 hkin hmem hgx
          obtain ⟨e0, e1, e2, e3⟩ := hc4.keep (HB.out.hb.block b hbs)
          have HX := Lib.hid hgx
          have hle := HB.out.hb.size
          have HI1 := Lib.hid (fun W (hb : Below wr.heap.size wr W) => HI.out x hmem n0 q j c' W (Kin.below ((HB.out.hb.mono HN.out).trans (hb.mono (Nat.le_trans HN.out hle))) hkin) (Kin.below ((HB.out.hb.mono HN.out).trans (hb.mono (Nat.le_trans HN.out hle))) HY.out) (Nat.le_trans HN.out (Nat.le_trans hle hb.size)) (cnt_cap k hgx HC.out).2)
          have hLk : L.length ≤ 1000000 := by
            have h1 := congrArg List.length HV.out.1
            rw [List.length_map, repL_len, List.length_take] at h1
            have h2 := len_cntL l
            have h3 := HC.out
            omega
          have hzr := HB.out.hz
          clear hcell hc4 hkin hx hmem hgx hkl hle
          go_wp2_with fail
          go_region_law (first
            | (refine step_append_lies _ rfl (.tmp 26) (.tmp 35) 23 rfl (w.heap.size + 3) 25 i0 _ 4 56 Try.underlying23 hi0 hi1 hi2 hi3 rfl (by omega) u7 L.length (flatK L) (by simp [Act.eval]) (OwnK.below HV2.out.1 (by (repeat (first | (with_reducible exact Below.refl _ _) | (with_reducible assumption) | (with_reducible apply bl_alloc) | (with_reducible apply bl_drewN) | (with_reducible apply bl_drew) | (with_reducible refine bl_set ?_ (by first | (simp; done) | (simp; omega)) _) | (with_reducible refine bl_call ?_ (by assumption)))))) ⟨w2.heap.size, 0, none⟩ 1 1 (flatK [⟨rep nm y x, p', m', c6⟩]) (by simp [Act.eval]) rfl (fun j u hu => news_at HNEW.out hu) (flatK_one _) (by omega) (by unfold maxLen; omega) (by omega) (by simp; omega) _ rfl ?_; intro g cap w4 hown hgrow hat hlt)
            | (go_simp; go_at_call 26; refine (HI1.out _ (by (repeat (first | (with_reducible exact Below.refl _ _) | (with_reducible assumption) | (with_reducible apply bl_alloc) | (with_reducible apply bl_drewN) | (with_reducible apply bl_drew) | (with_reducible refine bl_set ?_ (by first | (simp; done) | (simp; omega)) _) | (with_reducible refine bl_call ?_ (by assumption)))))).mono ?_; rintro e w2 ⟨p', m', c6, rfl, hk', hb2⟩
               have HK2 := Lib.hid (kin_gv (n0 := n0) HV.out.2.1 (Nat.le_trans HN.out (by omega)) hzr hk')
               have HV2 := Lib.hid (HV.out.2.below (show Below wr.heap.size wr w2 by (repeat (first | (with_reducible exact Below.refl _ _) | (with_reducible assumption) | (with_reducible apply bl_alloc) | (with_reducible apply bl_drewN) | (with_reducible apply bl_drew) | (with_reducible refine bl_set ?_ (by first | (simp; done) | (simp; omega)) _) | (with_reducible refine bl_call ?_ (by assumption))))))
               have hz2 : w.heap.size + 3 ≤ w2.heap.size := Nat.le_trans hzr (show Below wr.heap.size wr w2 by (repeat (first | (with_reducible exact Below.refl _ _) | (with_reducible assumption) | (with_reducible apply bl_alloc) | (with_reducible apply bl_drewN) | (with_reducible apply bl_drew) | (with_reducible refine bl_set ?_ (by first | (simp; done) | (simp; omega)) _) | (with_reducible refine bl_call ?_ (by assumption))))).size
               have HNEW := Lib.hid (new4 (w := w2) (x := rep nm y x) (p := p') (m := m') (c := c6) (t := 25))))
          all_goals
            have HST := Lib.hid (Inv.step (r := ⟨rep nm y x, p', m', c6⟩) (HV2.out.below (by (repeat (first | (with_reducible exact Below.refl _ _) | (with_reducible assumption) | (with_reducible apply bl_alloc) | (with_reducible apply bl_drewN) | (with_reducible apply bl_drew) | (with_reducible refine bl_set ?_ (by first | (simp; done) | (simp; omega)) _) | (with_reducible refine bl_call ?_ (by assumption)))))) (Kin.map (Nat.le_of_lt (by simp)) (fun b hb hlt => ⟨hb, Below.heap_alloc _ _ b hlt⟩) _ HK2.out) (own_snoc hown) hgrow (own_where hat))
            go_wp2_with fail
            go_roundw
            case rel =>
              have hBL : Below (w.heap.size + 3) wr w4 := Below.grown (a := wr) (show Below (w.heap.size + 3) wr _ from Below.mono (by (repeat (first | (with_reducible exact Below.refl _ _) | (with_reducible assumption) | (with_reducible apply bl_alloc) | (with_reducible apply bl_drewN) | (with_reducible apply bl_drew) | (with_reducible refine bl_set ?_ (by first | (simp; done) | (simp; omega)) _) | (with_reducible refine bl_call ?_ (by assumption))))) hzr) hgrow (by simp; omega) fun j ej => (OwnK.lt HV.out.2.1 ej).1
              exact ⟨k + 1, L ++ [⟨rep nm y x, p', m', c6⟩], by omega, by go_num, Lib.hid ⟨by rw [List.map_append, HV.out.1, repL_take HX.out]; rfl, HST.out⟩, Lib.hid (HB.out.low hBL)⟩
            case measure => simp [intOf]; omega
        · obtain rfl : m = k := by omega
          have HT : Hid (l.take m = l) := Lib.hid (List.take_of_length_le (by rw [HL.out]; exact Nat.le_refl _))
          rw [HT.out] at HV
          obtain ⟨p3, c3, rfl, hmade⟩ := HV.out.2.made
          have hlen : L.length = m := by
            have h1 := congrArg List.length HV.out.1
            rw [List.length_map, repL_len, HL.out] at h1
            exact h1
          rw [hlen] at hmade ⊢
          have HK := Lib.hid (hmade o s n)
          rw [HV.out.1] at HK
          have g0 := HB.out.f0 3
          have r0 := HB.out.f2 0
          have r1 := HB.out.f2 1
          have r2 := HB.out.f2 2
          have r3 := HB.out.f2 3
          obtain ⟨q0, q1, q2, q3⟩ := HB.out.h2
          clear hmade hlen
          go_wp2_with fail
          (try simp only [Exit.inBlock, Exit.then])
          obtain ⟨s0, s1, s2, s3⟩ := set4 (box4_far (k := 3) (v := .slice p3 m c3) (g' := w.heap.size) ⟨q0, q1, q2, q3⟩ (by omega)) o s n p3 m c3
          have hn := HN.out
          have hB := below4 (below_set3 (k := 3) HB.out.hb (Nat.le_refl _) (.slice p3 m c3)) (g := w.heap.size + 1 + 1) (by omega) (.int .i64 o) (.string s) (.int .i64 n) (.slice p3 m c3)
          have hK := kin_set (g := w.heap.size + 1 + 1) (k := 3) (kin_set (g := w.heap.size + 1 + 1) (k := 2) (kin_set (g := w.heap.size + 1 + 1) (k := 1) (kin_set (g := w.heap.size + 1 + 1) (k := 0) (kin_set (g := w.heap.size) (k := 3) HK.out (by omega) (by omega) (.slice p3 m c3)) (by omega) (by omega) (.int .i64 o)) (by omega) (by omega) (.string s)) (by omega) (by omega) (.int .i64 n)) (by omega) (by omega) (.slice p3 m c3)
          exact bodyPost_ret (v := .agg #[.int .i64 o, .string s, .int .i64 n, .slice p3 m c3]) (by simp [results, Try.results26, go_sem, s0, s1, s2, s3]) rfl ⟨_, _, _, rfl, hK.mono fun b hb _ => hb.imp id (fun h => by omega), hB⟩
end Go.Proofs.Ytfkenbdfakjeoaa.Ex
