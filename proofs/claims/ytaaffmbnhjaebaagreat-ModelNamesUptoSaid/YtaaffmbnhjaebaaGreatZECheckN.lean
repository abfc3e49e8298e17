/-
  Parts of this proof: The contract of checkNode. The contracts of check, Check and CheckCode. The contracts of usage, of checkUsed at its four types, of checkArgs and of the library's cmp.Or. The contracts of the closures that declare a name and check what stands behind it.
-/
import Derived.Test.YtaaffmbnhjaebaaGreatZQIdx
import Derived.Test.YtaaffmbnhjaebaaGreatZQScp
namespace Go.Proofs.YtaaffmbnhjaebaaGreat.Ex
open Go.RowKit
open Go.Proofs.YtaaffmbnhjaebaaGreat.Na (bs chk)
set_option maxHeartbeats 2000000
set_option linter.unusedVariables false
theorem nd_bad {c : Bool} {o n : Int} {s : List UInt8} {m : Nat} (h : badF c o s n m = true) : nd c o s n m = 1 := by unfold nd; rw [if_pos h]
theorem nd_one {c : Bool} {o n : Int} {s : List UInt8} {m : Nat} (h : known c o = false) : nd c o s n m = 1 := nd_bad (by unfold badF; rw [h]; simp)
theorem nd_two {c : Bool} {o n : Int} {s : List UInt8} {m : Nat} (h : known c o = true) (g : ¬ (m : Int) = usK o) : nd c o s n m = 1 := nd_bad (by unfold badF; rw [kids_ari h, decide_eq_false g]; simp)
theorem nd_three {c : Bool} {o n : Int} {s : List UInt8} {m : Nat} (h : known c o = true) (g : usN c o = false) (g2 : ¬ s = []) : nd c o s n m = 1 := nd_bad (by unfold badF; rw [← us_named h, g, decide_eq_false g2]; simp)
theorem nd_four {c : Bool} {o n : Int} {s : List UInt8} {m : Nat} (h : known c o = true) (g : usB c o = false) (g2 : ¬ n = 0) : nd c o s n m = 1 := nd_bad (by unfold badF; rw [← us_numbered h, g, decide_eq_false g2]; simp)
theorem nd_fair {c : Bool} {o n : Int} {s : List UInt8} {m : Nat} (h : known c o = true) (h1 : (m : Int) = usK o) (h2 : usN c o = true ∨ s = []) (h3 : usB c o = true ∨ n = 0) : nd c o s n m = if rgV o n = false then 2 else if usN c o = true then chk s else 0 := by
 have hf : badF c o s n m = false := by
  unfold badF
  rw [h, ← us_named h, ← us_numbered h, kids_ari h, decide_eq_true h1]
  rcases h2 with h2 | h2 <;> rcases h3 with h3 | h3 <;> simp [h2, h3]
 unfold nd
 rw [if_neg (by rw [hf]; decide), rg_bad hf, us_named h]
 cases badR c o n <;> simp
theorem emp_no {s : ByteArray} (h : ¬ bs s = []) : s.toList.isEmpty = false := by
 rw [Lib.toList_data]
 show (bs s).isEmpty = false
 cases g : bs s with
 | nil => exact absurd g h
 | cons x t => rfl
theorem emp_yes {s : ByteArray} (h : bs s = []) : s.toList.isEmpty = true := by
 rw [Lib.toList_data]
 show (bs s).isEmpty = true
 rw [h]; rfl
theorem check_gives {s : ByteArray} {x : Int} (h : chk (bs s) = x) (hs : s.size ≤ 9223372036854775807) (w : World) : Calls Tryz.prog 27 #[.string s] w (Gives (.int .i64 x) w) := by rw [← h]; exact Na.check_any s w hs
theorem usage_gives {c : Bool} {o K : Int} {a b kn : Bool} (h1 : usK o = K) (h2 : usN c o = a) (h3 : usB c o = b) (h4 : known c o = kn) (w : World) : Calls Tryz.prog 195 #[.int .i64 o, .bool c] w (Gives (.tuple #[.agg #[.int .i64 K, .bool a, .bool b], .bool kn]) w) := by
 rw [← h1, ← h2, ← h3, ← h4]
 exact usage_any c o w
theorem range_gives {o n : Int} {v : Bool} (h : rgV o n = v) (s : ByteArray) (p : Option Addr) (m c : Nat) (w : World) : Calls Tryz.prog 196 #[.agg #[.int .i64 o, .string s, .int .i64 n, .slice p m c]] w (Gives (.bool v) w) := by
 rw [← h]
 exact range_any o s n p m c w
theorem zECheckN_0 {p : Prop} (h : p := by
 go_enter Tryz.func190, Tryz.ntmps190
 go_wp2_with fail
 refine (HU.out _).mono ?_
 rintro e w1 ⟨rfl, hb1⟩
 have q1 : w.heap.size < w1.heap.size := by have := hb1.size; simp at this; omega
 have cc1 := (hb1.cell (p := ⟨w.heap.size, 1, none⟩) (by simp)).trans box_new.2.1
 have cc0 := (hb1.cell (p := ⟨w.heap.size, 0, none⟩) (by simp)).trans box_new.1
 have cc2 := (hb1.cell (p := ⟨w.heap.size, 2, none⟩) (by simp)).trans box_new.2.2.1
 have cc3 := (hb1.cell (p := ⟨w.heap.size, 3, none⟩) (by simp)).trans box_new.2.2.2
 go_wp2_with fail
 go_ret
 exact ⟨rfl, bl⟩
 ) : p := h
theorem zECheckN_1 {p : Prop} (h : p := by
 go_enter Tryz.func190, Tryz.ntmps190
 go_wp2_with fail
 refine (HU.out _).mono ?_
 rintro e w1 ⟨rfl, hb1⟩
 have q1 : w.heap.size < w1.heap.size := by have := hb1.size; simp at this; omega
 have cc1 := (hb1.cell (p := ⟨w.heap.size, 1, none⟩) (by simp)).trans box_new.2.1
 have cc0 := (hb1.cell (p := ⟨w.heap.size, 0, none⟩) (by simp)).trans box_new.1
 have cc2 := (hb1.cell (p := ⟨w.heap.size, 2, none⟩) (by simp)).trans box_new.2.2.1
 have cc3 := (hb1.cell (p := ⟨w.heap.size, 3, none⟩) (by simp)).trans box_new.2.2.2
 go_wp2_with fail
 refine (HR.out _).mono ?_
 rintro e w2 ⟨rfl, hb2⟩
 go_wp2_with fail
 go_ret
 exact ⟨rfl, bl⟩
 ) : p := h
theorem zECheckN_2 {p : Prop} (h : p := by
 clear hK ha hb hk h3 h4 key hv hx
 cases v with
 | false =>
  exact zECheckN_1
 | true =>
  go_enter Tryz.func190, Tryz.ntmps190
  go_wp2_with fail
  refine (HU.out _).mono ?_
  rintro e w1 ⟨rfl, hb1⟩
  have q1 : w.heap.size < w1.heap.size := by have := hb1.size; simp at this; omega
  have cc1 := (hb1.cell (p := ⟨w.heap.size, 1, none⟩) (by simp)).trans box_new.2.1
  have cc0 := (hb1.cell (p := ⟨w.heap.size, 0, none⟩) (by simp)).trans box_new.1
  have cc2 := (hb1.cell (p := ⟨w.heap.size, 2, none⟩) (by simp)).trans box_new.2.2.1
  have cc3 := (hb1.cell (p := ⟨w.heap.size, 3, none⟩) (by simp)).trans box_new.2.2.2
  go_wp2_with fail
  refine (HR.out _).mono ?_
  rintro e w2 ⟨rfl, hb2⟩
  have q2 : w1.heap.size < w2.heap.size := by have := hb2.size; simp at this; omega
  have dd1 : w2.cell? ⟨w1.heap.size, 1, none⟩ = some (.bool true) := (hb2.cell (by simp)).trans (by simp)
  have dd2 : w2.cell? ⟨w.heap.size, 1, none⟩ = some (.string s) := (hb2.cell (by simp; omega)).trans ((((Below.refl _ w1).alloc (Nat.le_refl _) _).cell (by simp; omega)).trans cc1)
  go_wp2_with fail
  refine (HC.out _).mono ?_
  rintro e w3 ⟨rfl, hb3⟩
  go_wp2_with fail
  go_ret
  exact ⟨rfl, bl⟩
 ) : p := h
theorem zECheckN_3 {p : Prop} (h : p := by
 clear hK ha hb hk h3 h4 key hv hx
 cases v with
 | false =>
  exact zECheckN_1
 | true =>
  go_enter Tryz.func190, Tryz.ntmps190
  go_wp2_with fail
  refine (HU.out _).mono ?_
  rintro e w1 ⟨rfl, hb1⟩
  have q1 : w.heap.size < w1.heap.size := by have := hb1.size; simp at this; omega
  have cc1 := (hb1.cell (p := ⟨w.heap.size, 1, none⟩) (by simp)).trans box_new.2.1
  have cc0 := (hb1.cell (p := ⟨w.heap.size, 0, none⟩) (by simp)).trans box_new.1
  have cc2 := (hb1.cell (p := ⟨w.heap.size, 2, none⟩) (by simp)).trans box_new.2.2.1
  have cc3 := (hb1.cell (p := ⟨w.heap.size, 3, none⟩) (by simp)).trans box_new.2.2.2
  go_wp2_with fail
  refine (HR.out _).mono ?_
  rintro e w2 ⟨rfl, hb2⟩
  have q2 : w1.heap.size < w2.heap.size := by have := hb2.size; simp at this; omega
  have dd1 : w2.cell? ⟨w1.heap.size, 1, none⟩ = some (.bool false) := (hb2.cell (by simp)).trans (by simp)
  go_wp2_with fail
  go_ret
  exact ⟨rfl, bl⟩
 ) : p := h
set_option maxRecDepth 100000 in
theorem cn_any (c : Bool) (o : Int) (s : ByteArray) (n : Int) (p : Option Addr) (m c' : Nat) (w : World) (hs : s.size ≤ 140737488355328) : Calls Tryz.prog 190 #[.agg #[.int .i64 o, .string s, .int .i64 n, .slice p m c'], .bool c] w (Gives (.int .i64 (nd c o (bs s) n m)) w) := by
 obtain ⟨K, hK⟩ : ∃ K, usK o = K := ⟨_, rfl⟩
 obtain ⟨a, ha⟩ : ∃ a, usN c o = a := ⟨_, rfl⟩
 obtain ⟨b, hb⟩ : ∃ b, usB c o = b := ⟨_, rfl⟩
 obtain ⟨kn, hk⟩ : ∃ kn, known c o = kn := ⟨_, rfl⟩
 have HU := Lib.hid (fun W => usage_gives hK ha hb hk W)
 cases kn with
 | false =>
  rw [nd_one hk]
  clear hK ha hb hk
  exact zECheckN_0
 | true =>
  by_cases h1 : (m : Int) = K
  · subst h1
    have t1 : ((m : Int) == (m : Int)) = true := beq_self_eq_true _
    have key : ∀ (aa : a = true ∨ bs s = []) (bb : b = true ∨ n = 0), nd c o (bs s) n m = if rgV o n = false then 2 else if usN c o = true then chk (bs s) else 0 := fun aa bb => nd_fair hk hK.symm (by rw [ha]; exact aa) (by rw [hb]; exact bb)
    by_cases h3 : a = false ∧ ¬ bs s = []
    · rw [nd_three hk (by rw [ha]; exact h3.1) h3.2]
      obtain ⟨rfl, h3⟩ := h3
      have t3 := emp_no h3
      clear hK ha hb hk h3 key
      exact zECheckN_0
    · by_cases h4 : b = false ∧ ¬ n = 0
      · rw [nd_four hk (by rw [hb]; exact h4.1) h4.2]
        obtain ⟨rfl, h4⟩ := h4
        have t4 : (n == 0) = false := beq_eq_false_iff_ne.2 h4
        cases a with
        | true =>
         clear hK ha hb hk h3 h4 key
         exact zECheckN_0
        | false =>
         have t3 := emp_yes (s := s) (Classical.byContradiction fun h => h3 ⟨rfl, h⟩)
         clear hK ha hb hk h3 h4 key
         exact zECheckN_0
      · rw [key (by cases a with | true => exact .inl rfl | false => exact .inr (Classical.byContradiction fun h => h3 ⟨rfl, h⟩)) (by cases b with | true => exact .inl rfl | false => exact .inr (Classical.byContradiction fun h => h4 ⟨rfl, h⟩)), ha]
        obtain ⟨v, hv⟩ : ∃ v, rgV o n = v := ⟨_, rfl⟩
        have HR := Lib.hid (fun W => range_gives hv s p m c' W)
        have HC := Lib.hid (fun W => check_gives (s := s) rfl (by omega) W)
        obtain ⟨x, hx⟩ : ∃ x, chk (bs s) = x := ⟨_, rfl⟩
        rw [hx] at HC ⊢
        rw [hv]
        cases a with
        | true =>
         cases b with
         | true =>
          exact zECheckN_2
         | false =>
          obtain rfl : n = 0 := Classical.byContradiction fun h => h4 ⟨rfl, h⟩
          exact zECheckN_2
        | false =>
         have t3 := emp_yes (s := s) (Classical.byContradiction fun h => h3 ⟨rfl, h⟩)
         cases b with
         | true =>
          exact zECheckN_3
         | false =>
          obtain rfl : n = 0 := Classical.byContradiction fun h => h4 ⟨rfl, h⟩
          exact zECheckN_3
  · rw [nd_two hk (by rw [hK]; exact h1)]
    have t1 : ((m : Int) == K) = false := beq_eq_false_iff_ne.2 h1
    have t2 : ((m : Int) != K) = true := bne_iff_ne.2 h1
    clear hK ha hb hk h1
    exact zECheckN_0
end Go.Proofs.YtaaffmbnhjaebaaGreat.Ex
namespace Go.Proofs.YtaaffmbnhjaebaaGreat.Ex
open Go.RowKit Go.Shelf
open Go.Proofs.YtaaffmbnhjaebaaGreat.Na (bs)
attribute [local go_sem] Oper.semAt_some
set_option maxHeartbeats 4000000
set_option linter.unusedVariables false
theorem depth_gives {e : Ex} {x : Nat} (h : dep e = x) (p : Option Addr) (m c : Nat) (w : World) (hi : In w e p m) (hc : cnt e ≤ 1000000) : Calls Tryz.prog 188 #[.agg #[.int .i64 e.o, .string e.s, .int .i64 e.n, .slice p m c]] w (Gives (.int .i64 (x : Nat)) w) := by rw [← h]; exact depth_any e p m c w hi hc
theorem more_gives {e : Ex} {b : Bool} (h : decide (60 < cnt e) = b) (p : Option Addr) (m c : Nat) (w : World) (hi : In w e p m) (hs : Sz e) (hc : cnt e ≤ 1000000) : Calls Tryz.prog 187 #[.agg #[.int .i64 e.o, .string e.s, .int .i64 e.n, .slice p m c], .int .i64 60] w (Gives (.bool b) w) := by rw [← h]; exact more_any e p m c w hi hs hc
theorem cn_gives {c : Bool} {o n v : Int} {s : ByteArray} {m : Nat} (h : nd c o (bs s) n m = v) (p : Option Addr) (c' : Nat) (w : World) (hs : s.size ≤ 140737488355328) : Calls Tryz.prog 190 #[.agg #[.int .i64 o, .string s, .int .i64 n, .slice p m c'], .bool c] w (Gives (.int .i64 v) w) := by rw [← h]; exact cn_any c o s n p m c' w hs
theorem box4.own {β : Type} (g : Nat) (o : Int) (s : ByteArray) (n : Int) (p : Option Addr) (m c : Nat) : Own (fun (_ : β) W => box4 W g o s n p m c) := fun _ A B row hs hg hr => ⟨cell_kept hs.1 hg hr, cell_kept hs.2.1 hg hr, cell_kept hs.2.2.1 hg hr, cell_kept hs.2.2.2 hg hr⟩
theorem keeps_below {B : Nat} {W W' : World} (h : Below W.heap.size W W') : KeepsFrom B W W' := ⟨h.size, fun k o _ hk _ => (h.block k (Array.getElem?_eq_some_iff.1 hk).1).trans hk⟩
theorem bad_snoc {c : Bool} {l : List Ex} {x : Ex} (h : bad c l = 0) : bad c (l ++ [x]) = ndE c x := by
 rw [bad_app_yes h]
 by_cases g : ndE c x = 0
 · rw [bad_yes g, g]; rfl
 · rw [bad_no g]
def St (w wr : World) (cc : Bool) (o : Int) (s : ByteArray) (nn : Int) (p : Option Addr) (m c : Nat) : Prop :=
 box4 wr w.heap.size o s nn p m c ∧ wr.cell? ⟨w.heap.size + 1, 0, none⟩ = some (.bool cc) ∧ (wr.cell? ⟨w.heap.size + 1 + 1, 0, none⟩ = some (.int .i64 0) ∧ wr.frozen? ⟨w.heap.size + 1 + 1, 0, none⟩ = false) ∧ Hid (Below w.heap.size w wr) ∧ w.heap.size + 3 ≤ wr.heap.size
section
variable {w wr w2 : World} {cc : Bool} {o : Int} {s : ByteArray} {nn : Int} {p : Option Addr} {m c : Nat}
theorem St.on (h : St w wr cc o s nn p m c) (hb : Below wr.heap.size wr w2) : St w w2 cc o s nn p m c := by
 obtain ⟨h1, h2, ⟨h3, h4⟩, h5, h6⟩ := h
 exact ⟨h1.on hb, (hb.cell (p := ⟨w.heap.size + 1, 0, none⟩) (show w.heap.size + 1 < wr.heap.size by omega)).trans h2, ⟨(hb.cell (p := ⟨w.heap.size + 1 + 1, 0, none⟩) (show w.heap.size + 1 + 1 < wr.heap.size by omega)).trans h3, (hb.frozen (p := ⟨w.heap.size + 1 + 1, 0, none⟩) (show w.heap.size + 1 + 1 < wr.heap.size by omega)).trans h4⟩, Lib.hid (h5.out.trans (hb.mono (by omega))), Nat.le_trans h6 hb.size⟩
theorem St.new : St w (((w.alloc (.cells #[.int .i64 o, .string s, .int .i64 nn, .slice p m c] 171)).alloc (.cells #[.bool cc] 4)).alloc (.cells #[.int .i64 0] 29)) cc o s nn p m c := by
 obtain ⟨w1, hw1⟩ : ∃ w1, w.alloc (.cells #[.int .i64 o, .string s, .int .i64 nn, .slice p m c] 171) = w1 := ⟨_, rfl⟩
 have hz1 : w1.heap.size = w.heap.size + 1 := by rw [← hw1]; simp
 have hb1 : Below w.heap.size w w1 := by rw [← hw1]; exact bl
 have h1 := box_new (w := w) (o := o) (s := s) (n := nn) (p := p) (m := m) (c := c) (t := 171)
 obtain ⟨w2, hw2⟩ : ∃ w2, w1.alloc (.cells #[.bool cc] 4) = w2 := ⟨_, rfl⟩
 have hz2 : w2.heap.size = w.heap.size + 2 := by rw [← hw2]; simp [hz1]
 have hb2 : Below w1.heap.size w1 w2 := by rw [← hw2]; exact bl
 have h2 := cell_new w1 (.bool cc) 4
 rw [hw2] at h2
 obtain ⟨w3, hw3⟩ : ∃ w3, w2.alloc (.cells #[.int .i64 0] 29) = w3 := ⟨_, rfl⟩
 have hz3 : w3.heap.size = w.heap.size + 3 := by rw [← hw3]; simp [hz2]
 have hb3 : Below w2.heap.size w2 w3 := by rw [← hw3]; exact bl
 have h3 := cell_new w2 (.int .i64 0) 29
 rw [hw3] at h3
 rw [hw1] at h1
 rw [hw1, hw2, hw3]
 rw [hz1] at h2
 rw [hz2] at h3
 exact ⟨(h1.on hb2).on hb3, (hb3.cell (p := ⟨w.heap.size + 1, 0, none⟩) (show w.heap.size + 1 < w2.heap.size by omega)).trans h2.1, h3, Lib.hid (hb1.trans ((hb2.mono (by omega)).trans (hb3.mono (by omega)))), by omega⟩
end
set_option maxRecDepth 100000 in
theorem chkx_any (cc : Bool) (e : Ex) (p : Option Addr) (m c : Nat) (w : World) (h : In w e p m) (hs : Sz e) (hc : cnt e ≤ 1000000) : Calls Tryz.prog 183 #[.agg #[.int .i64 e.o, .string e.s, .int .i64 e.n, .slice p m c], .bool cc] w (Gives (.int .i64 (chkE cc e)) w) := by
 by_cases h6 : 60 < cnt e
 · have HM := Lib.hid (fun W hi => more_gives (decide_eq_true h6) p m c W hi hs hc)
   have HH := Lib.hid h
   rw [show chkE cc e = 6 by unfold chkE; rw [if_pos h6]]
   obtain ⟨o, s, nn, kl⟩ := e
   simp only [Ex.o, Ex.s, Ex.n] at HM ⊢
   clear h hs hc h6
   go_enter Tryz.func183, Tryz.ntmps183
   go_wp2_with fail
   refine (HM.out _ (HH.out.on bl)).mono ?_
   rintro e w1 ⟨rfl, hb1⟩
   have HST := Lib.hid (St.new.on hb1)
   have hr := HST.out.2.2.1.1
   have hf := HST.out.2.2.1.2
   clear hb1
   go_wp2_with fail
   (try simp only [Exit.inBlock, Exit.then])
   have HBB := HST.out.2.2.2.1.out
   have e1 : (w1.setCell ⟨w.heap.size + 1 + 1, 0, none⟩ (.int .i64 6)).cell? ⟨w.heap.size + 1 + 1, 0, none⟩ = some (.int .i64 6) := World.cell?_setCell_same' _ _ _ (by rw [hr]; rfl)
   exact bodyPost_ret (v := .int .i64 6) (by simp [results, Tryz.f183, go_sem, e1]) rfl ⟨rfl, below_set HBB (by omega) _⟩
 have HM := Lib.hid (fun W hi => more_gives (decide_eq_false h6) p m c W hi hs hc)
 have HD := Lib.hid (fun W hi => depth_gives (e := e) rfl p m c W hi hc)
 by_cases h12 : 12 < dep e
 · have HH := Lib.hid h
   rw [show chkE cc e = 11 by unfold chkE; rw [if_neg h6, if_pos h12]]
   obtain ⟨D, hD⟩ : ∃ D, dep e = D := ⟨_, rfl⟩
   rw [hD] at HD h12
   have d1 : (12 : Int) < (D : Int) := by omega
   have d2 : decide ((12 : Int) < (D : Int)) = true := decide_eq_true d1
   obtain ⟨o, s, nn, kl⟩ := e
   simp only [Ex.o, Ex.s, Ex.n] at HM HD ⊢
   clear h hs hc h6 hD h12
   go_enter Tryz.func183, Tryz.ntmps183
   go_wp2_with fail
   refine (HM.out _ (HH.out.on bl)).mono ?_
   rintro e w1 ⟨rfl, hb1⟩
   have HST := Lib.hid (St.new.on hb1)
   obtain ⟨x0, x1, x2, x3⟩ := HST.out.1
   clear hb1
   go_wp2_with fail
   refine (HD.out _ (HH.out.on HST.out.2.2.2.1.out)).mono ?_
   rintro e w2 ⟨rfl, hb2⟩
   have HST2 := Lib.hid (HST.out.on hb2)
   have hr := HST2.out.2.2.1.1
   have hf := HST2.out.2.2.1.2
   clear hb2
   go_wp2_with fail
   (try simp only [Exit.inBlock, Exit.then])
   have HBB := HST2.out.2.2.2.1.out
   have e1 : (w2.setCell ⟨w.heap.size + 1 + 1, 0, none⟩ (.int .i64 11)).cell? ⟨w.heap.size + 1 + 1, 0, none⟩ = some (.int .i64 11) := World.cell?_setCell_same' _ _ _ (by rw [hr]; rfl)
   exact bodyPost_ret (v := .int .i64 11) (by simp [results, Tryz.f183, go_sem, e1]) rfl ⟨rfl, below_set HBB (by omega) _⟩
 have HH := Lib.hid h
 have HS := Lib.hid hs
 have HC := Lib.hid hc
 rw [show chkE cc e = bad cc (pre e) by unfold chkE; rw [if_neg h6, if_neg h12]]
 obtain ⟨D, hD⟩ : ∃ D, dep e = D := ⟨_, rfl⟩
 rw [hD] at HD h12
 have d1 : (D : Int) ≤ 12 := by omega
 have d2 : decide ((12 : Int) < (D : Int)) = false := decide_eq_false (by omega)
 obtain ⟨o, s, nn, kl⟩ := e
 simp only [Ex.o, Ex.s, Ex.n] at HM HD ⊢
 clear h hs hc h6 hD h12
 refine (callsIn_wide (n := 3)).1 ?_
 refine callsIn_of_wp_marks Tryz.func183 rfl trivial ?_ rfl
 simp only [Tryz.ntmps183, List.size_toArray, List.length_cons, List.length_nil, Nat.reduceAdd, Nat.reduceSub, Array.replicate_succ, Array.replicate_zero, List.push_toArray, List.append_toArray, List.nil_append, List.cons_append]
 gi_wp2_with fail
 refine ⟨trivial, ?_⟩
 refine (callsIn_wide.2 (HM.out _ (HH.out.on bl))).mono ?_
 rintro e w1 ⟨rfl, hb1⟩
 have HST := Lib.hid (St.new.on hb1)
 obtain ⟨x0, x1, x2, x3⟩ := HST.out.1
 clear hb1
 gi_wp2_with fail
 refine ⟨trivial, ?_⟩
 refine (callsIn_wide.2 (HD.out _ (HH.out.on HST.out.2.2.2.1.out))).mono ?_
 rintro e w2 ⟨rfl, hb2⟩
 have HST2 := Lib.hid (HST.out.on hb2)
 obtain ⟨y0, y1, y2, y3⟩ := HST2.out.1
 clear hb2 x0 x1 x2 x3
 gi_wp2_with fail
 refine ⟨trivial, ?_⟩
 refine (nodes_in Fence.wide _ trivial rfl _ _ _ _ _ _ _).mono ?_
 rintro e w3 ⟨rfl, hw3⟩
 have hb3 : Below w2.heap.size w2 w3 := by rw [hw3]; exact bl
 have hx3 : box4 w3 w2.heap.size o s nn p m c := by rw [hw3]; exact box_new
 have hz3 : w3.heap.size = w2.heap.size + 1 := by rw [hw3]; simp
 have HST3 := HST2.out.on hb3
 clear hw3
 gi_wp2
 have hs2 := HST2.out.2.2.2.2
 have HBB := HST3.2.2.2.1
 refine wpIn_rangeFunc_ownH rfl (by omega) (gf := 193) (lb := #[.pointer (some ⟨w2.heap.size, 0, none⟩)]) rfl trivial (enters_of Tryz.func193 (by kernel_rfl) rfl)
  (nodes_stops Fence.wide rfl trivial trivial rfl _ w2.heap.size w.heap.size w3.heap.size (.mk o s nn kl) p m c w3 hx3 (HH.out.below HBB.out) HS.out (by omega) (Nat.le_refl _)) (fun h k => h.trans k) (Kp.put (by omega)) (Below.refl _ _) (fun _ => rfl)
  (fun ps W => (W.cell? ⟨w.heap.size + 1, 0, none⟩ = some (.bool cc) ∧ W.cell? ⟨w.heap.size + 1 + 1, 0, none⟩ = some (.int .i64 0) ∧ W.frozen? ⟨w.heap.size + 1 + 1, 0, none⟩ = false ∧ bad cc (ps.map Nd.x) = 0 ∧ w3.heap.size ≤ W.heap.size) ∧ Below w.heap.size w W)
  (fun c' ps W => (c' = .ret ∧ ∃ v : Int, ¬ v = 0 ∧ bad cc (ps.map Nd.x) = v ∧ W.cell? ⟨w.heap.size + 1 + 1, 0, none⟩ = some (.int .i64 v)) ∧ Below w.heap.size w W)
  (OwnFrom.and (Own.from (fun s A B row hs hg hr => ⟨cell_kept hs.1 hg hr, cell_kept hs.2.1 hg hr, (frozen_kept hs.2.1 hg hr).trans hs.2.2.1, hs.2.2.2.1, Nat.le_trans hs.2.2.2.2 hg.size⟩) _) (ownFrom_below (Nat.le_refl _) (by omega)))
  (fun c' => OwnFrom.and (Own.from (fun s A B row hs hg hr => ⟨hs.1, let ⟨v, h1, h2, h3⟩ := hs.2; ⟨v, h1, h2, cell_kept h3 hg hr⟩⟩) _) (ownFrom_below (Nat.le_refl _) (by omega)))
  ⟨⟨HST3.2.1, HST3.2.2.1.1, HST3.2.2.1.2, rfl, Nat.le_refl _⟩, HBB.out⟩
  (fun x a' W => ∃ Bx, w3.heap.size ≤ Bx ∧ box4 W Bx x.x.o x.x.s x.x.n x.p x.m x.c ∧ a' = { tmps := #[.agg #[.int .i64 o, .string s, .int .i64 nn, .slice p m c], .bool cc, .pointer (some ⟨w.heap.size, 0, none⟩), .pointer (some ⟨w.heap.size + 1, 0, none⟩), .pointer (some ⟨w.heap.size + 1 + 1, 0, none⟩), .pointer (some ⟨Bx, 0, none⟩), undef, .agg #[.int .i64 o, .string s, .int .i64 nn, .slice p m c], .bool false, .agg #[.int .i64 o, .string s, .int .i64 nn, .slice p m c], .int .i64 (D : Nat), .bool false, .agg #[.int .i64 o, .string s, .int .i64 nn, .slice p m c], .func (.func 193) #[] #[.pointer (some ⟨w2.heap.size, 0, none⟩)], .agg #[.int .i64 x.x.o, .string x.x.s, .int .i64 x.x.n, .slice x.p x.m x.c], undef, undef, undef, undef, undef, undef], defers := [] })
  (fun x a' _ A B row hs hg hr => let ⟨Bx, h1, h2, h3⟩ := hs; ⟨Bx, h1, box4.own (β := Unit) _ _ _ _ _ _ _ () A B row h2 hg (fun r e => (hr r e).2), h3⟩) ?assign ?body ?done ?stop
 case assign =>
  intro l ps x W K hi hK
  simp only [encN]
  gi_wp2
  have hbW : Below W.heap.size W (W.alloc (.cells #[.int .i64 x.x.o, .string x.x.s, .int .i64 x.x.n, .slice x.p x.m x.c] 171)) := bl
  have hle := hi.2.size
  refine hK _ _ (keeps_below hbW) (Kp.of_below hbW hle) ?_ ⟨W.heap.size, ?_, box_new, ?_⟩
  · exact ⟨⟨cell_alloc_on _ hi.1.1, cell_alloc_on _ hi.1.2.1, frozen_alloc_on _ hi.1.2.1 hi.1.2.2.1, hi.1.2.2.2.1, Nat.le_trans hi.1.2.2.2.2 hbW.size⟩, hi.2.trans (hbW.mono hle)⟩
  · exact hi.1.2.2.2.2
  · simp [go_sem]
 case body =>
  rintro l ps x a' W hl ⟨r, hr⟩ ⟨⟨h1, h2, h3, h4, h5⟩, hB⟩ ⟨Bx, hBx, ⟨b0, b1, b2, b3⟩, rfl⟩ hlt
  obtain ⟨v, hv⟩ : ∃ v, nd cc x.x.o (bs x.x.s) x.x.n x.m = v := ⟨_, rfl⟩
  have HN := Lib.hid (cn_gives hv x.p x.c W x.hs)
  have hndx : ndE cc x.x = v := by unfold ndE; rw [x.hl]; exact hv
  have HSN := Lib.hid (show bad cc ((ps ++ [x]).map Nd.x) = v by rw [List.map_append]; exact (bad_snoc h4).trans hndx)
  have H4 := Lib.hid h4
  have H5 := Lib.hid h5
  have HBW := Lib.hid hB
  clear hv hndx h4 h5 hB hlt hr
  gi_wp2_with fail
  refine ⟨trivial, ?_⟩
  refine (CallsIn.inRound l (callsIn_wide.2 HN.out)).mono ?_
  rintro e w4 ⟨rfl, hb4⟩
  have g1 := (hb4.cell (p := ⟨w.heap.size + 1, 0, none⟩) (block_lt h1)).trans h1
  have g2 := (hb4.cell (p := ⟨w.heap.size + 1 + 1, 0, none⟩) (block_lt h2)).trans h2
  have g3 := (hb4.frozen (p := ⟨w.heap.size + 1 + 1, 0, none⟩) (block_lt h2)).trans h3
  have HB4 := Lib.hid hb4
  clear hb4 h1 h2 h3 b0 b1 b2 b3
  by_cases hv0 : v = 0
  · subst hv0
    gi_wp2
    exact ⟨keeps_below HB4.out, Kp.of_below HB4.out HBW.out.size, ⟨g1, g2, g3, HSN.out, Nat.le_trans H5.out HB4.out.size⟩, HBW.out.trans (HB4.out.mono HBW.out.size)⟩
  · have t0 : (v == 0) = false := beq_eq_false_iff_ne.2 hv0
    gi_wp2
    refine ⟨(keeps_below HB4.out).trans ((KeepsOthers.setCell _ _ _).from _), ⟨rfl, v, hv0, HSN.out, ?_⟩, below_set (HBW.out.trans (HB4.out.mono HBW.out.size)) (by omega) _⟩
    exact World.cell?_setCell_same' _ _ _ (by rw [g2]; rfl)
 case done =>
  rintro D' ys W hD hys ⟨⟨h1, h2, h3, h4, h5⟩, hB⟩ hK
  have HV := Lib.hid (show bad cc (pre (.mk o s nn kl)) = 0 by rw [← hys]; exact h4)
  gi_wp2
  have hK' := (KeepsOthers.setCell W ⟨w.heap.size + 1 + 1, 0, none⟩ (.int .i64 0)).same D' _ hK rfl
  refine ⟨by simp, .inl ⟨_, _, rfl, run_takeDeferred hK', ?_⟩⟩
  have hc5 := cell_kept (World.cell?_setCell_same' W ⟨w.heap.size + 1 + 1, 0, none⟩ (.int .i64 0) (by rw [h2]; rfl)) (grownBy_putObj' _ D' (.deferred none)) (fun r e => by cases e; exact ⟨_, hK', rfl⟩)
  refine ⟨.int .i64 0, ?_, by rw [HV.out], (below_set hB (by omega) _).trans (belowK_b (w := w) (Nat.le_refl _) _ D' _ _ (by omega) hK' rfl rfl)⟩
  simp [results, Tryz.f183, go_sem, hc5]
 case stop =>
  rintro D' c' ps W hD hps ⟨⟨rfl, v, hv0, hbv, hr⟩, hB⟩ hK
  have HV := Lib.hid (show bad cc (pre (.mk o s nn kl)) = v by
   obtain ⟨r, hr⟩ := hps
   rw [← hr, bad_app_no (by rw [hbv]; exact hv0), hbv])
  gi_wp2
  refine ⟨by simp, .inl ⟨_, _, rfl, run_takeDeferred hK, ?_⟩⟩
  have hc5 := cell_kept hr (grownBy_putObj' _ D' (.deferred none)) (fun r e => by cases e; exact ⟨_, hK, rfl⟩)
  refine ⟨.int .i64 v, ?_, by rw [HV.out], hB.trans (belowK_b (w := w) (Nat.le_refl _) W D' _ _ (by omega) hK rfl rfl)⟩
  simp [results, Tryz.f183, go_sem, hc5]
theorem check_any (e : Ex) (p : Option Addr) (m c : Nat) (w : World) (h : In w e p m) (hs : Sz e) (hc : cnt e ≤ 1000000) : Calls Tryz.prog 175 #[.agg #[.int .i64 e.o, .string e.s, .int .i64 e.n, .slice p m c]] w (Gives (.int .i64 (chkE false e)) w) := by
 have H := Lib.hid (fun W hi => chkx_any false e p m c W hi hs hc)
 have HH := Lib.hid h
 obtain ⟨v, hv⟩ : ∃ v, chkE false e = v := ⟨_, rfl⟩
 rw [hv] at H ⊢
 obtain ⟨o, s, nn, kl⟩ := e
 simp only [Ex.o, Ex.s, Ex.n] at H ⊢
 clear h hs hc hv
 go_enter Tryz.func175, Tryz.ntmps175
 go_wp2_with fail
 refine (H.out _ (HH.out.on bl)).mono ?_
 rintro e w1 ⟨rfl, hb1⟩
 go_wp2_with fail
 go_ret
 exact ⟨rfl, bl⟩
end Go.Proofs.YtaaffmbnhjaebaaGreat.Ex
namespace Go.Proofs.YtaaffmbnhjaebaaGreat.Sm
open Go.RowKit
open Go.Proofs.YtaaffmbnhjaebaaGreat.Ex (Ex In Sz Gives chkE ret_int)
attribute [local go_sem] cs0 cs1 cs2 cs3 cs4 cs5 cs6 cs7 cs8 cs9 cs10 cs11 cs12 cs13 cs14 cs15 cs16 cs17 cs18 cs19 cs20
set_option maxHeartbeats 2000000
set_option linter.unusedVariables false
abbrev usV (o : Int) : Value := .agg #[.bool (uN o), .bool (uO o), .bool (uE o), .bool (uF o), .bool (uA o), .bool (uD o), .bool (uG o), .bool (uB o), .bool (uL o)]
theorem op_cases (o : Int) : (o = 1 ∨ o = 2 ∨ o = 3 ∨ o = 4 ∨ o = 5 ∨ o = 6 ∨ o = 7 ∨ o = 8 ∨ o = 9 ∨ o = 10 ∨ o = 11 ∨ o = 12 ∨ o = 13 ∨ o = 14 ∨ o = 15 ∨ o = 16 ∨ o = 17 ∨ o = 18) ∨ (o < 1 ∨ 18 < o) := by omega
set_option maxRecDepth 100000 in
theorem usage_any (o : Int) (w : World) : Calls Tryz.prog 171 #[.int .i64 o] w (Gives (.tuple #[usV o, .bool (kn o)]) w) := by
 rcases op_cases o with h | h
 · rcases h with rfl | rfl | rfl | rfl | rfl | rfl | rfl | rfl | rfl | rfl | rfl | rfl | rfl | rfl | rfl | rfl | rfl | rfl
   all_goals
    go_enter Tryz.func171, Tryz.ntmps171
    go_wp2_with fail
    exact bodyPost_ret (v := .tuple #[usV _, .bool (kn _)]) (by simp [results, Tryz.results171, go_sem, usV, uN, uO, uE, uF, uA, uD, uG, uB, uL, kn]) rfl ⟨rfl, bl⟩
 · have hk : kn o = false := by unfold kn; rcases h with h | h <;> simp <;> omega
   have e0 : usV o = .agg #[.bool false, .bool false, .bool false, .bool false, .bool false, .bool false, .bool false, .bool false, .bool false] := by
    have a1 : uN o = false := by unfold uN; exact decide_eq_false (by omega)
    have a2 : uO o = false := by unfold uO; exact decide_eq_false (by omega)
    have a3 : uE o = false := by unfold uE; exact decide_eq_false (by omega)
    have a4 : uF o = false := by unfold uF; exact decide_eq_false (by omega)
    have a5 : uA o = false := by unfold uA; exact decide_eq_false (by omega)
    have a6 : uD o = false := by unfold uD; exact decide_eq_false (by omega)
    have a7 : uG o = false := by unfold uG; exact decide_eq_false (by omega)
    have a8 : uB o = false := by unfold uB; exact decide_eq_false (by omega)
    have a9 : uL o = false := by unfold uL; exact decide_eq_false (by omega)
    show Value.agg _ = _
    rw [a1, a2, a3, a4, a5, a6, a7, a8, a9]
   rw [hk, e0]
   have u1 : (o == 1) = false := beq_eq_false_iff_ne.2 (by omega)
   have u2 : (o == 2) = false := beq_eq_false_iff_ne.2 (by omega)
   have u3 : (o == 3) = false := beq_eq_false_iff_ne.2 (by omega)
   have u4 : (o == 4) = false := beq_eq_false_iff_ne.2 (by omega)
   have u5 : (o == 5) = false := beq_eq_false_iff_ne.2 (by omega)
   have u6 : (o == 6) = false := beq_eq_false_iff_ne.2 (by omega)
   have u7 : (o == 7) = false := beq_eq_false_iff_ne.2 (by omega)
   have u8 : (o == 8) = false := beq_eq_false_iff_ne.2 (by omega)
   have u9 : (o == 9) = false := beq_eq_false_iff_ne.2 (by omega)
   have u10 : (o == 10) = false := beq_eq_false_iff_ne.2 (by omega)
   have u11 : (o == 11) = false := beq_eq_false_iff_ne.2 (by omega)
   have u12 : (o == 12) = false := beq_eq_false_iff_ne.2 (by omega)
   have u13 : (o == 13) = false := beq_eq_false_iff_ne.2 (by omega)
   have u14 : (o == 14) = false := beq_eq_false_iff_ne.2 (by omega)
   have u15 : (o == 15) = false := beq_eq_false_iff_ne.2 (by omega)
   have u16 : (o == 16) = false := beq_eq_false_iff_ne.2 (by omega)
   have u17 : (o == 17) = false := beq_eq_false_iff_ne.2 (by omega)
   have u18 : (o == 18) = false := beq_eq_false_iff_ne.2 (by omega)
   clear h hk e0
   go_enter Tryz.func171, Tryz.ntmps171
   go_wp2_with fail
   exact bodyPost_ret (v := .tuple #[.agg #[.bool false, .bool false, .bool false, .bool false, .bool false, .bool false, .bool false, .bool false, .bool false], .bool false]) (by simp [results, Tryz.results171, go_sem]) rfl ⟨rfl, bl⟩
theorem zPUsage_0 {p : Prop} (h : p := by
 go_wp2_with fail
 refine ((C).out _ bl).mono ?_
 rintro e w1 ⟨rfl, hb1⟩
 go_wp2_with fail
 go_ret
 exact ⟨rfl, bl⟩
 ) : p := h
set_option maxRecDepth 100000 in
theorem usedS_any (u : Bool) (s : ByteArray) (v : Int) (w : World) (C : Hid (u = true → ∀ W, Below w.heap.size w W → Calls Tryz.prog 27 #[.string s] W (Gives (.int .i64 v) W))) : Calls Tryz.prog 173 #[.bool u, .func (.func 27) #[] #[], .string s] w (Gives (.int .i64 (onE u v)) w) := by
 cases u with
 | false =>
  clear C
  go_enter Tryz.func173, Tryz.ntmps173
  go_wp2_with fail
  go_ret
  exact ⟨rfl, bl⟩
 | true =>
  replace C := Lib.hid ((C).out rfl)
  go_enter Tryz.func173, Tryz.ntmps173
  exact zPUsage_0
set_option maxRecDepth 100000 in
theorem usedE_any (u : Bool) (e : Ex) (p : Option Addr) (m c : Nat) (v : Int) (w : World) (C : Hid (u = true → ∀ W, Below w.heap.size w W → Calls Tryz.prog 175 #[.agg #[.int .i64 e.o, .string e.s, .int .i64 e.n, .slice p m c]] W (Gives (.int .i64 v) W))) : Calls Tryz.prog 174 #[.bool u, .func (.func 175) #[] #[], .agg #[.int .i64 e.o, .string e.s, .int .i64 e.n, .slice p m c]] w (Gives (.int .i64 (onE u v)) w) := by
 cases u with
 | false =>
  clear C
  go_enter Tryz.func174, Tryz.ntmps174
  go_wp2_with fail
  go_ret
  exact ⟨rfl, bl⟩
 | true =>
  replace C := Lib.hid ((C).out rfl)
  go_enter Tryz.func174, Tryz.ntmps174
  exact zPUsage_0
set_option maxRecDepth 100000 in
theorem usedA_any (u : Bool) (p : Option Addr) (m c : Nat) (v : Int) (w : World) (C : Hid (u = true → ∀ W, Below w.heap.size w W → Calls Tryz.prog 177 #[.slice p m c] W (Gives (.int .i64 v) W))) : Calls Tryz.prog 176 #[.bool u, .func (.func 177) #[] #[], .slice p m c] w (Gives (.int .i64 (onE u v)) w) := by
 cases u with
 | false =>
  clear C
  go_enter Tryz.func176, Tryz.ntmps176
  go_wp2_with fail
  go_ret
  exact ⟨rfl, bl⟩
 | true =>
  replace C := Lib.hid ((C).out rfl)
  go_enter Tryz.func176, Tryz.ntmps176
  exact zPUsage_0
set_option maxRecDepth 100000 in
theorem usedD_any (u : Bool) (x : St) (P : Pl) (v : Int) (w : World) (C : Hid (u = true → ∀ W, Below w.heap.size w W → Calls Tryz.prog 149 #[.agg #[.int .i64 x.di.op, .int .i64 x.di.a, .int .i64 x.di.b, .int .i64 x.di.n, .slice P.vp P.vm P.vc, .slice P.wp P.wm P.wc]] W (Gives (.int .i64 v) W))) : Calls Tryz.prog 178 #[.bool u, .func (.func 149) #[] #[], .agg #[.int .i64 x.di.op, .int .i64 x.di.a, .int .i64 x.di.b, .int .i64 x.di.n, .slice P.vp P.vm P.vc, .slice P.wp P.wm P.wc]] w (Gives (.int .i64 (onE u v)) w) := by
 cases u with
 | false =>
  clear C
  go_enter Tryz.func178, Tryz.ntmps178
  go_wp2_with fail
  go_ret
  exact ⟨rfl, bl⟩
 | true =>
  replace C := Lib.hid ((C).out rfl)
  go_enter Tryz.func178, Tryz.ntmps178
  exact zPUsage_0
def orL : List Int → Int
 | [] => 0
 | x :: t => orE x (orL t)
theorem orL_app : ∀ a b : List Int, orL (a ++ b) = orE (orL a) (orL b)
 | [], b => orE_yes.symm
 | x :: t, b => by rw [List.cons_append, orL, orL, orL_app t b, orE_assoc]
set_option maxRecDepth 100000 in
theorem or_any (l : List Int) (b n c : Nat) (w : World) (hl : l.length = n) (hn : n ≤ 1000000) (hc : Hid (∀ i, (h : i < l.length) → w.cell? ⟨b, i, none⟩ = some (.int .i64 l[i]))) : Calls Tryz.prog 26 #[.slice (some ⟨b, 0, none⟩) n c] w fun e w' => e = .returned (.int .i64 (orL l)) ∧ w = w' := by
 have HL := Lib.hid hl
 clear hl
 go_enter Tryz.func26, Tryz.ntmps26
 go_wp2_with fail
 go_loop [8] (fun i => ∃ k : Nat, k ≤ n ∧ i = .int .i64 k ∧ Hid (orL (l.take k) = 0)) (fun i => n - (intOf i).toNat)
 case atStart => exact ⟨0, Nat.zero_le _, rfl, Lib.hid rfl⟩
 case round =>
  obtain ⟨k, hk, rfl, HA⟩ := hrel
  rcases Nat.lt_or_ge k n with h | h
  · have hkl : k < l.length := by rw [HL.out]; exact h
    have e1 := hc.out k hkl
    have e0 : w.cell? ⟨b, 0 + k, none⟩ = some (.int .i64 l[k]) := by rw [Nat.zero_add]; exact e1
    have c1 : (0 : Int) ≤ (k : Int) := by omega
    have c2 : (k : Int) < (n : Int) := by omega
    have hgx : l[k]? = some l[k] := List.getElem?_eq_getElem hkl
    obtain ⟨x, hx⟩ : ∃ x, l[k] = x := ⟨_, rfl⟩
    rw [hx] at e1 e0 hgx
    by_cases hz : x = 0
    · have H : Hid (orL (l.take (k + 1)) = 0) := Lib.hid (by rw [Ex.take_one hgx, orL_app, HA.out, orE_yes, hz]; rfl)
      subst hz
      clear hgx hx hkl
      go_wp2_with fail
      go_round
      case rel => exact ⟨k + 1, by omega, by go_num, H⟩
      case measure => simp [intOf]; omega
    · have hz2 : (x != 0) = true := by rw [bne_iff_ne]; exact hz
      have H : Hid (orL l = x) := Lib.hid (by
       have h2 := orL_app (l.take (k + 1)) (l.drop (k + 1))
       rw [List.take_append_drop, Ex.take_one hgx, orL_app, HA.out, orE_yes] at h2
       rw [h2]
       show orE (orE x 0) _ = x
       rw [orE_right, orE_no hz])
      clear hgx hx hkl hz
      go_wp2_with fail
      go_ret
      exact ⟨ret_int H.out.symm, rfl⟩
  · obtain rfl : n = k := by omega
    have H : Hid (orL l = 0) := Lib.hid (by have h1 := HA.out; rwa [List.take_of_length_le (by rw [HL.out]; exact Nat.le_refl _)] at h1)
    go_wp2_with fail
    go_ret
    exact ⟨ret_int H.out.symm, rfl⟩
theorem xcheck_gives {e : Ex} {v : Int} (h : chkE false e = v) (p : Option Addr) (m c : Nat) (w : World) (hi : In w e p m) (hs : Sz e) (hc : Ex.cnt e ≤ 1000000) : Calls Tryz.prog 175 #[.agg #[.int .i64 e.o, .string e.s, .int .i64 e.n, .slice p m c]] w (Gives (.int .i64 v) w) := by rw [← h]; exact Ex.check_any e p m c w hi hs hc
set_option maxRecDepth 100000 in
theorem args_check (l : List Ex) (p : Option Addr) (m c : Nat) (w : World) (h : In w (.mk 0 nE 0 l) p m) (hs : ∀ y ∈ l, Sz y ∧ Ex.cnt y ≤ 1000000) : Calls Tryz.prog 177 #[.slice p m c] w (Gives (.int .i64 (argE l)) w) := by
 have HH := Lib.hid h
 have HS := Lib.hid hs
 obtain ⟨hl, hm⟩ := h.len
 have HL := Lib.hid hl
 clear h hs hl
 by_cases h6 : 6 < m
 · rw [show argE l = 6 by unfold argE; rw [HL.out, if_pos h6]]
   have t1 : decide ((6 : Int) < (m : Int)) = true := decide_eq_true (by omega)
   have t2 : (6 : Int) < (m : Int) := by omega
   go_enter Tryz.func177, Tryz.ntmps177
   go_wp2_with fail
   go_ret
   exact ⟨rfl, bl⟩
 rw [show argE l = badA l by unfold argE; rw [HL.out, if_neg h6]]
 have t1 : decide ((6 : Int) < (m : Int)) = false := decide_eq_false (by omega)
 have t2 : (m : Int) ≤ 6 := by omega
 go_enter Tryz.func177, Tryz.ntmps177
 go_wp2_with fail
 go_loopw [11] (fun i wr => ∃ k : Nat, k ≤ m ∧ Hid (badA (l.take k) = 0) ∧ i = .int .i64 (k : Nat) ∧ Hid (Below w.heap.size w wr)) (fun i _ => m - (intOf i).toNat)
 case atStart => exact ⟨0, Nat.zero_le _, Lib.hid rfl, rfl, Lib.hid bl⟩
 case round =>
  obtain ⟨k, hk, HT0, rfl, HW⟩ := hrel
  have k0 : (0 : Int) ≤ (k : Int) := by omega
  rcases Nat.lt_or_ge k m with h | h
  · have k1 : (k : Int) < (m : Int) := by omega
    obtain ⟨b, o', rfl, -, hG, hcell⟩ := HH.out.kids (by omega)
    have hkl : k < l.length := by rw [HL.out]; omega
    obtain ⟨q, j, c', hc4, hkin⟩ := hcell.out k hkl
    have hmem : l[k] ∈ l := List.getElem_mem hkl
    have hgx : l[k]? = some l[k] := List.getElem?_eq_getElem hkl
    obtain ⟨x, hx⟩ : ∃ x, l[k] = x := ⟨_, rfl⟩
    rw [hx] at hc4 hkin hmem hgx
    obtain ⟨e0, e1, e2, e3⟩ := hc4.on HW.out hG
    have hbr : b < wr.heap.size := Nat.lt_of_lt_of_le hG HW.out.size
    have HKIN := Lib.hid hkin
    obtain ⟨v, hv⟩ : ∃ v, chkE false x = v := ⟨_, rfl⟩
    have HC := Lib.hid (fun W hi => xcheck_gives hv q j c' W hi (HS.out x hmem).1 (HS.out x hmem).2)
    have HTK := Lib.hid (badA_take hgx)
    have HST := Lib.hid (fun (h1 : ¬ chkE false x = 0) => badA_stop hgx HT0.out h1)
    have HV := Lib.hid hv
    clear hcell hc4 hkin hx hmem hgx hkl hv
    go_wp2_with fail
    refine (HC.out _ (HKIN.out.on (by have HBB := HW.out; exact bl))).mono ?_
    rintro e w2 ⟨rfl, hb2⟩
    have HW2 : Hid (Below w.heap.size w w2) := Lib.hid (by have HBB := HW.out; exact bl)
    clear hb2 HC
    by_cases hz : v = 0
    · have HR : Hid (badA (l.take (k + 1)) = 0) := Lib.hid (by rw [HTK.out, HT0.out, orE_yes, HV.out, hz])
      subst hz
      go_wp2_with fail
      go_roundw
      case rel => exact ⟨k + 1, by omega, HR, by go_num, HW2⟩
      case measure => simp [intOf]; omega
    · have HR : Hid (badA l = v) := Lib.hid (by rw [HST.out (by rw [HV.out]; exact hz), HV.out])
      have z1 : (v != 0) = true := bne_iff_ne.2 hz
      clear hz
      go_wp2_with fail
      go_ret
      exact ⟨by rw [HR.out]; rfl, HW2.out⟩
  · obtain rfl : m = k := by omega
    have HR : Hid (badA l = 0) := Lib.hid (by have h1 := HT0.out; rwa [List.take_of_length_le (by rw [HL.out]; exact Nat.le_refl _)] at h1)
    go_wp2_with fail
    go_ret
    exact ⟨by rw [HR.out]; rfl, HW.out⟩
end Go.Proofs.YtaaffmbnhjaebaaGreat.Sm
namespace Go.Proofs.YtaaffmbnhjaebaaGreat.Md
open Go.RowKit Go.Maps
open Go.Proofs.YtaaffmbnhjaebaaGreat.Sm (orE orE_right orL or_any)
open Go.Proofs.YtaaffmbnhjaebaaGreat.Ex (Gives block_lt)
attribute [local go_sem] cSto0 cBlt0 cRou0 cRes0 cSte0 cLw0
set_option maxHeartbeats 4000000
set_option linter.unusedVariables false
theorem cells2 (w : World) (t : TypeId) (r1 r2 : Int) : ∀ i, (h : i < [r1, r2].length) → (w.alloc (.cells #[.int .i64 r1, .int .i64 r2] t)).cell? ⟨w.heap.size, i, none⟩ = some (.int .i64 [r1, r2][i]) := by
 intro i h
 rw [World.cell?_alloc_mark]
 match i, h with
 | 0, _ => rfl
 | 1, _ => rfl
theorem orL2 (a b : Int) : orL [a, b] = orE a b := by unfold orL orL orL; rw [orE_right]
theorem cell_but {b : Nat} {w w2 : World} (h : But b w w2) {g : Nat} {o : Nat} {v : Value} (hc : w.cell? ⟨g, o, none⟩ = some v) (hg : g ≠ b) : w2.cell? ⟨g, o, none⟩ = some v :=
 (World.cell?_of_block (w := w) (a := ⟨g, o, none⟩) (h.block g (block_lt hc) hg)).trans hc
theorem zQClo_1 {p : Prop} (h : p := by assumption) : p := h
theorem zQClo_0 {p : Prop} (h : p := by ((repeat (first | (with_reducible exact But.refl _ _) | (with_reducible assumption) | (with_reducible apply But.alloc) | (with_reducible apply But.drewN) | (with_reducible apply But.drew) | (with_reducible refine But.trans ?_ zQClo_1) | (with_reducible refine But.then ?_ zQClo_1))); done)) : p := h
set_option maxRecDepth 100000 in
theorem clo_Sto (x : Sto) (b B1 : Nat) (acc : List ByteArray) (w : World) (hS : Scp b acc w) (hn : acc.length ≤ 100000) (hx : x.nm.size ≤ 9223372036854775807) (hv : w.cell? ⟨B1, 0, none⟩ = some (.map (some b))) (hB : B1 ≠ b)
 (tv : Int) (CT : Hid (∀ W, But b w W → Calls Tryz.prog 104 #[.agg (cSto x)] W (Gives (.int .i64 tv) W))) :
 Calls Tryz.prog 103 #[.agg (cSto x), .pointer (some ⟨B1, 0, none⟩)] w (Step b (orE (decE acc x.nm) tv, accS acc x.nm) w) := by
 have HS := Lib.hid hS
 have HLT := Lib.hid hS.lt
 have HV := Lib.hid hv
 obtain ⟨acc2, h2⟩ : ∃ a, accS acc x.nm = a := ⟨_, rfl⟩
 obtain ⟨v, hd⟩ : ∃ v, decE acc x.nm = v := ⟨_, rfl⟩
 rw [h2, hd]
 have CD := Lib.hid (fun W (hW : Scp b acc W) => declare_at hd h2 W hW hn hx)
 obtain ⟨kk, hkk⟩ : ∃ n : Nat, 3 = n := ⟨_, rfl⟩
 have hsz : ∀ w, (sizeOf 95).run Tryz.prog w = .ok kk w := fun w => by rw [Tryz.sizeOf95, hkk]
 have HKK := Lib.hid hkk
 have FK : Hid (∀ W, But b (w.alloc (.cells (cSto x) 95)) W → W.cell? ⟨B1, 0, none⟩ = some (.map (some b)) ∧ W.cell? ⟨w.heap.size, 0, none⟩ = some (.string x.nm) ∧ (loadCellsFrom ⟨w.heap.size, 0, none⟩ 0 kk #[]).run Tryz.prog W = .ok (cSto x) W) := Lib.hid fun W hb => by
  have q := Box.new.but hb (show w.heap.size ≠ b by have := HLT.out; omega)
  exact ⟨cell_but hb ((World.cell?_alloc_lt _ _ _ (block_lt HV.out)).trans HV.out) hB, q.get (cSto0 x), q.cell.ldN HKK.out⟩
 clear hS hd h2 hv hkk
 go_enter Tryz.func103, Tryz.ntmps103
 go_wp2_with fail
 go_region_held3 (fun W => W.cell? ⟨B1, 0, none⟩ = some (.map (some b)) ∧ W.cell? ⟨w.heap.size, 0, none⟩ = some (.string x.nm) ∧ (loadCellsFrom ⟨w.heap.size, 0, none⟩ 0 kk #[]).run Tryz.prog W = .ok (cSto x) W) (first | (refine FK.out _ ?_; ((repeat (first | (with_reducible exact But.refl _ _) | (with_reducible assumption) | (with_reducible apply But.alloc) | (with_reducible apply But.drewN) | (with_reducible apply But.drew) | (with_reducible refine But.trans ?_ zQClo_1) | (with_reducible refine But.then ?_ zQClo_1))); done)) | (go_keep; done)) (first
  | (have t := hb3; go_at_call 26; refine (or_any [v, tv] _ 2 2 _ rfl (by omega) (Lib.hid (cells2 _ _ _ _))).mono ?_; rintro e w9 ⟨rfl, rfl⟩)
  | (have t := hb2; go_at_call 104; refine (CT.out _ zQClo_0).mono ?_; rintro e w3 ⟨rfl, hb3⟩)
  | (go_at_call 54; refine (CD.out _ (HS.out.on bl)).mono ?_; rintro e w2 ⟨rfl, hs2, hb2⟩))
 all_goals
  have HB3 := Lib.hid hb3
  go_wp2_with fail
  go_ret
  exact ⟨by rw [← orL2]; rfl, hs2.on bl, by ((repeat (first | (with_reducible exact But.refl _ _) | (with_reducible assumption) | (with_reducible apply But.alloc) | (with_reducible apply But.drewN) | (with_reducible apply But.drew) | (with_reducible refine But.trans ?_ zQClo_1) | (with_reducible refine But.then ?_ zQClo_1))); done)⟩
set_option maxRecDepth 100000 in
theorem clo_Blt (x : Blt) (b B1 : Nat) (acc : List ByteArray) (w : World) (hS : Scp b acc w) (hn : acc.length ≤ 100000) (hx : x.nm.size ≤ 9223372036854775807) (hv : w.cell? ⟨B1, 0, none⟩ = some (.map (some b))) (hB : B1 ≠ b)
 (tv : Int) (CT : Hid (∀ W, But b w W → Calls Tryz.prog 107 #[.agg (cBlt x)] W (Gives (.int .i64 tv) W))) :
 Calls Tryz.prog 106 #[.agg (cBlt x), .pointer (some ⟨B1, 0, none⟩)] w (Step b (orE (decE acc x.nm) tv, accS acc x.nm) w) := by
 have HS := Lib.hid hS
 have HLT := Lib.hid hS.lt
 have HV := Lib.hid hv
 obtain ⟨acc2, h2⟩ : ∃ a, accS acc x.nm = a := ⟨_, rfl⟩
 obtain ⟨v, hd⟩ : ∃ v, decE acc x.nm = v := ⟨_, rfl⟩
 rw [h2, hd]
 have CD := Lib.hid (fun W (hW : Scp b acc W) => declare_at hd h2 W hW hn hx)
 obtain ⟨kk, hkk⟩ : ∃ n : Nat, 3 = n := ⟨_, rfl⟩
 have hsz : ∀ w, (sizeOf 97).run Tryz.prog w = .ok kk w := fun w => by rw [Tryz.sizeOf97, hkk]
 have HKK := Lib.hid hkk
 have FK : Hid (∀ W, But b (w.alloc (.cells (cBlt x) 97)) W → W.cell? ⟨B1, 0, none⟩ = some (.map (some b)) ∧ W.cell? ⟨w.heap.size, 0, none⟩ = some (.string x.nm) ∧ (loadCellsFrom ⟨w.heap.size, 0, none⟩ 0 kk #[]).run Tryz.prog W = .ok (cBlt x) W) := Lib.hid fun W hb => by
  have q := Box.new.but hb (show w.heap.size ≠ b by have := HLT.out; omega)
  exact ⟨cell_but hb ((World.cell?_alloc_lt _ _ _ (block_lt HV.out)).trans HV.out) hB, q.get (cBlt0 x), q.cell.ldN HKK.out⟩
 clear hS hd h2 hv hkk
 go_enter Tryz.func106, Tryz.ntmps106
 go_wp2_with fail
 go_region_held3 (fun W => W.cell? ⟨B1, 0, none⟩ = some (.map (some b)) ∧ W.cell? ⟨w.heap.size, 0, none⟩ = some (.string x.nm) ∧ (loadCellsFrom ⟨w.heap.size, 0, none⟩ 0 kk #[]).run Tryz.prog W = .ok (cBlt x) W) (first | (refine FK.out _ ?_; ((repeat (first | (with_reducible exact But.refl _ _) | (with_reducible assumption) | (with_reducible apply But.alloc) | (with_reducible apply But.drewN) | (with_reducible apply But.drew) | (with_reducible refine But.trans ?_ zQClo_1) | (with_reducible refine But.then ?_ zQClo_1))); done)) | (go_keep; done)) (first
  | (have t := hb3; go_at_call 26; refine (or_any [v, tv] _ 2 2 _ rfl (by omega) (Lib.hid (cells2 _ _ _ _))).mono ?_; rintro e w9 ⟨rfl, rfl⟩)
  | (have t := hb2; go_at_call 107; refine (CT.out _ zQClo_0).mono ?_; rintro e w3 ⟨rfl, hb3⟩)
  | (go_at_call 54; refine (CD.out _ (HS.out.on bl)).mono ?_; rintro e w2 ⟨rfl, hs2, hb2⟩))
 all_goals
  have HB3 := Lib.hid hb3
  go_wp2_with fail
  go_ret
  exact ⟨by rw [← orL2]; rfl, hs2.on bl, by ((repeat (first | (with_reducible exact But.refl _ _) | (with_reducible assumption) | (with_reducible apply But.alloc) | (with_reducible apply But.drewN) | (with_reducible apply But.drew) | (with_reducible refine But.trans ?_ zQClo_1) | (with_reducible refine But.then ?_ zQClo_1))); done)⟩
set_option maxRecDepth 100000 in
theorem clo_Rou (x : Rou) (P : PRou) (b B1 : Nat) (acc : List ByteArray) (w : World) (hS : Scp b acc w) (hn : acc.length ≤ 100000) (hx : x.nm.size ≤ 9223372036854775807) (hv : w.cell? ⟨B1, 0, none⟩ = some (.map (some b))) (hB : B1 ≠ b)
 (tv : Int) (CT : Hid (∀ W, But b w W → Calls Tryz.prog 111 #[.agg (cRou x P)] W (Gives (.int .i64 tv) W))) :
 Calls Tryz.prog 110 #[.agg (cRou x P), .pointer (some ⟨B1, 0, none⟩)] w (Step b (orE (decE acc x.nm) tv, accS acc x.nm) w) := by
 have HS := Lib.hid hS
 have HLT := Lib.hid hS.lt
 have HV := Lib.hid hv
 obtain ⟨acc2, h2⟩ : ∃ a, accS acc x.nm = a := ⟨_, rfl⟩
 obtain ⟨v, hd⟩ : ∃ v, decE acc x.nm = v := ⟨_, rfl⟩
 rw [h2, hd]
 have CD := Lib.hid (fun W (hW : Scp b acc W) => declare_at hd h2 W hW hn hx)
 obtain ⟨kk, hkk⟩ : ∃ n : Nat, 4 = n := ⟨_, rfl⟩
 have hsz : ∀ w, (sizeOf 79).run Tryz.prog w = .ok kk w := fun w => by rw [Tryz.sizeOf79, hkk]
 have HKK := Lib.hid hkk
 have FK : Hid (∀ W, But b (w.alloc (.cells (cRou x P) 79)) W → W.cell? ⟨B1, 0, none⟩ = some (.map (some b)) ∧ W.cell? ⟨w.heap.size, 0, none⟩ = some (.string x.nm) ∧ (loadCellsFrom ⟨w.heap.size, 0, none⟩ 0 kk #[]).run Tryz.prog W = .ok (cRou x P) W) := Lib.hid fun W hb => by
  have q := Box.new.but hb (show w.heap.size ≠ b by have := HLT.out; omega)
  exact ⟨cell_but hb ((World.cell?_alloc_lt _ _ _ (block_lt HV.out)).trans HV.out) hB, q.get (cRou0 x P), q.cell.ldN HKK.out⟩
 clear hS hd h2 hv hkk
 go_enter Tryz.func110, Tryz.ntmps110
 go_wp2_with fail
 go_region_held3 (fun W => W.cell? ⟨B1, 0, none⟩ = some (.map (some b)) ∧ W.cell? ⟨w.heap.size, 0, none⟩ = some (.string x.nm) ∧ (loadCellsFrom ⟨w.heap.size, 0, none⟩ 0 kk #[]).run Tryz.prog W = .ok (cRou x P) W) (first | (refine FK.out _ ?_; ((repeat (first | (with_reducible exact But.refl _ _) | (with_reducible assumption) | (with_reducible apply But.alloc) | (with_reducible apply But.drewN) | (with_reducible apply But.drew) | (with_reducible refine But.trans ?_ zQClo_1) | (with_reducible refine But.then ?_ zQClo_1))); done)) | (go_keep; done)) (first
  | (have t := hb3; go_at_call 26; refine (or_any [v, tv] _ 2 2 _ rfl (by omega) (Lib.hid (cells2 _ _ _ _))).mono ?_; rintro e w9 ⟨rfl, rfl⟩)
  | (have t := hb2; go_at_call 111; refine (CT.out _ zQClo_0).mono ?_; rintro e w3 ⟨rfl, hb3⟩)
  | (go_at_call 54; refine (CD.out _ (HS.out.on bl)).mono ?_; rintro e w2 ⟨rfl, hs2, hb2⟩))
 all_goals
  have HB3 := Lib.hid hb3
  go_wp2_with fail
  go_ret
  exact ⟨by rw [← orL2]; rfl, hs2.on bl, by ((repeat (first | (with_reducible exact But.refl _ _) | (with_reducible assumption) | (with_reducible apply But.alloc) | (with_reducible apply But.drewN) | (with_reducible apply But.drew) | (with_reducible refine But.trans ?_ zQClo_1) | (with_reducible refine But.then ?_ zQClo_1))); done)⟩
set_option maxRecDepth 100000 in
theorem clo_Ste (x : Ste) (P : PSte) (b B1 : Nat) (acc : List ByteArray) (w : World) (hS : Scp b acc w) (hn : acc.length ≤ 100000) (hx : x.nm.size ≤ 9223372036854775807) (hv : w.cell? ⟨B1, 0, none⟩ = some (.map (some b))) (hB : B1 ≠ b)
 (tv : Int) (CT : Hid (∀ W, But b w W → Calls Tryz.prog 59 #[.agg (cSte x P)] W (Gives (.int .i64 tv) W))) :
 Calls Tryz.prog 58 #[.agg (cSte x P), .pointer (some ⟨B1, 0, none⟩)] w (Step b (orE (decE acc x.nm) tv, accS acc x.nm) w) := by
 have HS := Lib.hid hS
 have HLT := Lib.hid hS.lt
 have HV := Lib.hid hv
 obtain ⟨acc2, h2⟩ : ∃ a, accS acc x.nm = a := ⟨_, rfl⟩
 obtain ⟨v, hd⟩ : ∃ v, decE acc x.nm = v := ⟨_, rfl⟩
 rw [h2, hd]
 have CD := Lib.hid (fun W (hW : Scp b acc W) => declare_at hd h2 W hW hn hx)
 obtain ⟨kk, hkk⟩ : ∃ n : Nat, 13 = n := ⟨_, rfl⟩
 have hsz : ∀ w, (sizeOf 42).run Tryz.prog w = .ok kk w := fun w => by rw [Tryz.sizeOf42, hkk]
 have HKK := Lib.hid hkk
 have FK : Hid (∀ W, But b (w.alloc (.cells (cSte x P) 42)) W → W.cell? ⟨B1, 0, none⟩ = some (.map (some b)) ∧ W.cell? ⟨w.heap.size, 0, none⟩ = some (.string x.nm) ∧ (loadCellsFrom ⟨w.heap.size, 0, none⟩ 0 kk #[]).run Tryz.prog W = .ok (cSte x P) W) := Lib.hid fun W hb => by
  have q := Box.new.but hb (show w.heap.size ≠ b by have := HLT.out; omega)
  exact ⟨cell_but hb ((World.cell?_alloc_lt _ _ _ (block_lt HV.out)).trans HV.out) hB, q.get (cSte0 x P), q.cell.ldN HKK.out⟩
 clear hS hd h2 hv hkk
 go_enter Tryz.func58, Tryz.ntmps58
 go_wp2_with fail
 go_region_held3 (fun W => W.cell? ⟨B1, 0, none⟩ = some (.map (some b)) ∧ W.cell? ⟨w.heap.size, 0, none⟩ = some (.string x.nm) ∧ (loadCellsFrom ⟨w.heap.size, 0, none⟩ 0 kk #[]).run Tryz.prog W = .ok (cSte x P) W) (first | (refine FK.out _ ?_; ((repeat (first | (with_reducible exact But.refl _ _) | (with_reducible assumption) | (with_reducible apply But.alloc) | (with_reducible apply But.drewN) | (with_reducible apply But.drew) | (with_reducible refine But.trans ?_ zQClo_1) | (with_reducible refine But.then ?_ zQClo_1))); done)) | (go_keep; done)) (first
  | (have t := hb3; go_at_call 26; refine (or_any [v, tv] _ 2 2 _ rfl (by omega) (Lib.hid (cells2 _ _ _ _))).mono ?_; rintro e w9 ⟨rfl, rfl⟩)
  | (have t := hb2; go_at_call 59; refine (CT.out _ zQClo_0).mono ?_; rintro e w3 ⟨rfl, hb3⟩)
  | (go_at_call 54; refine (CD.out _ (HS.out.on bl)).mono ?_; rintro e w2 ⟨rfl, hs2, hb2⟩))
 all_goals
  have HB3 := Lib.hid hb3
  go_wp2_with fail
  go_ret
  exact ⟨by rw [← orL2]; rfl, hs2.on bl, by ((repeat (first | (with_reducible exact But.refl _ _) | (with_reducible assumption) | (with_reducible apply But.alloc) | (with_reducible apply But.drewN) | (with_reducible apply But.drew) | (with_reducible refine But.trans ?_ zQClo_1) | (with_reducible refine But.then ?_ zQClo_1))); done)⟩
set_option maxRecDepth 100000 in
theorem clo_Res (x : Res) (P : PRes) (b B1 : Nat) (acc : List ByteArray) (w : World) (hS : Scp b acc w) (hn : acc.length ≤ 100000) (hx : x.nm.size ≤ 9223372036854775807) (hv : w.cell? ⟨B1, 0, none⟩ = some (.map (some b))) (hB : B1 ≠ b) (B2 : Nat) (sp : Option Addr) (sm sc : Nat) (hu : w.cell? ⟨B2, 6, none⟩ = some (.slice sp sm sc)) (hB2 : B2 ≠ b)
 (tv : Int) (CT : Hid (∀ W, But b w W → Calls Tryz.prog 101 #[.agg (cRes x P), .slice sp sm sc] W (Gives (.int .i64 tv) W))) :
 Calls Tryz.prog 100 #[.agg (cRes x P), .pointer (some ⟨B1, 0, none⟩), .pointer (some ⟨B2, 0, none⟩)] w (Step b (orE (decE acc x.nm) tv, accS acc x.nm) w) := by
 have HS := Lib.hid hS
 have HLT := Lib.hid hS.lt
 have HV := Lib.hid hv
 have HU := Lib.hid hu
 obtain ⟨acc2, h2⟩ : ∃ a, accS acc x.nm = a := ⟨_, rfl⟩
 obtain ⟨v, hd⟩ : ∃ v, decE acc x.nm = v := ⟨_, rfl⟩
 rw [h2, hd]
 have CD := Lib.hid (fun W (hW : Scp b acc W) => declare_at hd h2 W hW hn hx)
 obtain ⟨kk, hkk⟩ : ∃ n : Nat, 17 = n := ⟨_, rfl⟩
 have hsz : ∀ w, (sizeOf 92).run Tryz.prog w = .ok kk w := fun w => by rw [Tryz.sizeOf92, hkk]
 have HKK := Lib.hid hkk
 have FK : Hid (∀ W, But b (w.alloc (.cells (cRes x P) 92)) W → W.cell? ⟨B1, 0, none⟩ = some (.map (some b)) ∧ W.cell? ⟨w.heap.size, 0, none⟩ = some (.string x.nm) ∧ (loadCellsFrom ⟨w.heap.size, 0, none⟩ 0 kk #[]).run Tryz.prog W = .ok (cRes x P) W ∧ W.cell? ⟨B2, 6, none⟩ = some (.slice sp sm sc)) := Lib.hid fun W hb => by
  have q := Box.new.but hb (show w.heap.size ≠ b by have := HLT.out; omega)
  exact ⟨cell_but hb ((World.cell?_alloc_lt _ _ _ (block_lt HV.out)).trans HV.out) hB, q.get (cRes0 x P), q.cell.ldN HKK.out, cell_but hb ((World.cell?_alloc_lt _ _ _ (block_lt HU.out)).trans HU.out) hB2⟩
 clear hS hd h2 hv hkk hu
 go_enter Tryz.func100, Tryz.ntmps100
 go_wp2_with fail
 go_region_held3 (fun W => W.cell? ⟨B1, 0, none⟩ = some (.map (some b)) ∧ W.cell? ⟨w.heap.size, 0, none⟩ = some (.string x.nm) ∧ (loadCellsFrom ⟨w.heap.size, 0, none⟩ 0 kk #[]).run Tryz.prog W = .ok (cRes x P) W ∧ W.cell? ⟨B2, 6, none⟩ = some (.slice sp sm sc)) (first | (refine FK.out _ ?_; ((repeat (first | (with_reducible exact But.refl _ _) | (with_reducible assumption) | (with_reducible apply But.alloc) | (with_reducible apply But.drewN) | (with_reducible apply But.drew) | (with_reducible refine But.trans ?_ zQClo_1) | (with_reducible refine But.then ?_ zQClo_1))); done)) | (go_keep; done)) (first
  | (have t := hb3; go_at_call 26; refine (or_any [v, tv] _ 2 2 _ rfl (by omega) (Lib.hid (cells2 _ _ _ _))).mono ?_; rintro e w9 ⟨rfl, rfl⟩)
  | (have t := hb2; go_at_call 101; refine (CT.out _ zQClo_0).mono ?_; rintro e w3 ⟨rfl, hb3⟩)
  | (go_at_call 54; refine (CD.out _ (HS.out.on bl)).mono ?_; rintro e w2 ⟨rfl, hs2, hb2⟩))
 all_goals
  have HB3 := Lib.hid hb3
  go_wp2_with fail
  go_ret
  exact ⟨by rw [← orL2]; rfl, hs2.on bl, by ((repeat (first | (with_reducible exact But.refl _ _) | (with_reducible assumption) | (with_reducible apply But.alloc) | (with_reducible apply But.drewN) | (with_reducible apply But.drew) | (with_reducible refine But.trans ?_ zQClo_1) | (with_reducible refine But.then ?_ zQClo_1))); done)⟩
set_option maxRecDepth 100000 in
theorem clo_Lw (x : Lw) (P : PLw) (b B1 : Nat) (acc : List ByteArray) (w : World) (hS : Scp b acc w) (hn : acc.length ≤ 100000) (hx : x.nm.size ≤ 9223372036854775807) (hv : w.cell? ⟨B1, 0, none⟩ = some (.map (some b))) (hB : B1 ≠ b) (B2 : Nat) (d : Array Value) (hds : d.size = 13) (hu : Box w B2 42 d) (hB2 : B2 ≠ b)
 (tv : Int) (CT : Hid (∀ W, But b w W → Calls Tryz.prog 140 #[.agg d, .agg (cLw x P)] W (Gives (.int .i64 tv) W))) :
 Calls Tryz.prog 139 #[.agg (cLw x P), .pointer (some ⟨B1, 0, none⟩), .pointer (some ⟨B2, 0, none⟩)] w (Step b (orE (decE acc x.nm) tv, accS acc x.nm) w) := by
 have HS := Lib.hid hS
 have HLT := Lib.hid hS.lt
 have HV := Lib.hid hv
 have HU := Lib.hid hu
 obtain ⟨k2, hk2⟩ : ∃ n : Nat, 13 = n := ⟨_, rfl⟩
 have hsz2 : ∀ w, (sizeOf 42).run Tryz.prog w = .ok k2 w := fun w => by rw [Tryz.sizeOf42, hk2]
 have HK2 := Lib.hid (show d.size = k2 from hds.trans hk2)
 obtain ⟨acc2, h2⟩ : ∃ a, accS acc x.nm = a := ⟨_, rfl⟩
 obtain ⟨v, hd⟩ : ∃ v, decE acc x.nm = v := ⟨_, rfl⟩
 rw [h2, hd]
 have CD := Lib.hid (fun W (hW : Scp b acc W) => declare_at hd h2 W hW hn hx)
 obtain ⟨kk, hkk⟩ : ∃ n : Nat, 3 = n := ⟨_, rfl⟩
 have hsz : ∀ w, (sizeOf 57).run Tryz.prog w = .ok kk w := fun w => by rw [Tryz.sizeOf57, hkk]
 have HKK := Lib.hid hkk
 have FK : Hid (∀ W, But b (w.alloc (.cells (cLw x P) 57)) W → W.cell? ⟨B1, 0, none⟩ = some (.map (some b)) ∧ W.cell? ⟨w.heap.size, 0, none⟩ = some (.string x.nm) ∧ (loadCellsFrom ⟨w.heap.size, 0, none⟩ 0 kk #[]).run Tryz.prog W = .ok (cLw x P) W ∧ (loadCellsFrom ⟨B2, 0, none⟩ 0 k2 #[]).run Tryz.prog W = .ok d W) := Lib.hid fun W hb => by
  have q := Box.new.but hb (show w.heap.size ≠ b by have := HLT.out; omega)
  exact ⟨cell_but hb ((World.cell?_alloc_lt _ _ _ (block_lt HV.out)).trans HV.out) hB, q.get (cLw0 x P), q.cell.ldN HKK.out, ((HU.out.on (show Below w.heap.size w _ by exact bl)).but hb hB2).cell.ldN HK2.out⟩
 clear hS hd h2 hv hkk hu hk2 hds
 go_enter Tryz.func139, Tryz.ntmps139
 go_wp2_with fail
 go_region_held3 (fun W => W.cell? ⟨B1, 0, none⟩ = some (.map (some b)) ∧ W.cell? ⟨w.heap.size, 0, none⟩ = some (.string x.nm) ∧ (loadCellsFrom ⟨w.heap.size, 0, none⟩ 0 kk #[]).run Tryz.prog W = .ok (cLw x P) W ∧ (loadCellsFrom ⟨B2, 0, none⟩ 0 k2 #[]).run Tryz.prog W = .ok d W) (first | (refine FK.out _ ?_; ((repeat (first | (with_reducible exact But.refl _ _) | (with_reducible assumption) | (with_reducible apply But.alloc) | (with_reducible apply But.drewN) | (with_reducible apply But.drew) | (with_reducible refine But.trans ?_ zQClo_1) | (with_reducible refine But.then ?_ zQClo_1))); done)) | (go_keep; done)) (first
  | (have t := hb3; go_at_call 26; refine (or_any [v, tv] _ 2 2 _ rfl (by omega) (Lib.hid (cells2 _ _ _ _))).mono ?_; rintro e w9 ⟨rfl, rfl⟩)
  | (have t := hb2; go_at_call 140; refine (CT.out _ zQClo_0).mono ?_; rintro e w3 ⟨rfl, hb3⟩)
  | (go_at_call 54; refine (CD.out _ (HS.out.on bl)).mono ?_; rintro e w2 ⟨rfl, hs2, hb2⟩))
 all_goals
  have HB3 := Lib.hid hb3
  go_wp2_with fail
  go_ret
  exact ⟨by rw [← orL2]; rfl, hs2.on bl, by ((repeat (first | (with_reducible exact But.refl _ _) | (with_reducible assumption) | (with_reducible apply But.alloc) | (with_reducible apply But.drewN) | (with_reducible apply But.drew) | (with_reducible refine But.trans ?_ zQClo_1) | (with_reducible refine But.then ?_ zQClo_1))); done)⟩
end Go.Proofs.YtaaffmbnhjaebaaGreat.Md
