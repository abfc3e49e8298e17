/-
  awake answers yes in every world.
-/
import Derived.Test.YtilnojcbebchdaaDoorLxText
import Derived.Test.YtilnojcbebchdaaDoorLxTok
namespace Go.Proofs.YtilnojcbebchdaaDoor.Lx
open Go.RowKit
set_option maxHeartbeats 4000000
set_option linter.unusedVariables false
set_option linter.unusedSimpArgs false
theorem toks_lit {w : World} {l : List Tk} {cs : Array Value} (h : (flat l).toArray = cs) (hl : l.length ≤ 9223372036854775807) : Toks (w.alloc (.cells cs 31)) (some ⟨w.heap.size, 0, none⟩) l.length l := by
  subst h
  refine ⟨rfl, hl, .inr ⟨_, _, rfl, by simp, Lib.hid fun i hi => cell4_of fun r hr => ?_⟩⟩
  rw [World.cell?_alloc_mark, Nat.zero_add, List.getElem?_toArray]
  exact flat_get hi hr
theorem tokens_at {s : ByteArray} {l : List Tk} {n : Nat} {x : Int} (h : tokL (bs s) = l ∧ tokN (bs s) = n ∧ tokE (bs s) = x) (hs : s.size ≤ 9223372036854775807) (w : World) (hE : Env w) : Calls Tryd.prog 11 #[.string s] w (Tokd w l n x) := by
  obtain ⟨rfl, rfl, rfl⟩ := h
  exact tokens_any s w hs hE
theorem text_at {p : Option Addr} {n c : Nat} {l : List Tk} {V : Value} (h : txtV l = V) (w : World) (hT : Toks w p n l) (hF : ∀ x ∈ l, x.t.size ≤ 140737488355328 ∧ x.l ≤ 9223372036854775807) (hE : Env w) : Calls Tryd.prog 16 #[.slice p n c] w (Gives V w) := by rw [← h]; exact text_any w hT hF hE
theorem lines_at {p : Option Addr} {n c : Nat} {l : List Tk} {k : Nat} (h : linL l = k) (w : World) (hT : Toks w p n l) (hF : Fits l) : Calls Tryd.prog 15 #[.slice p n c] w (Gives (.int .i64 (k : Int)) w) := by rw [← h]; exact lines_any w hT hF
def exA : List Tk := [⟨1, ⟨#[120]⟩, 0, 1⟩, ⟨3, ⟨#[60, 61]⟩, 0, 1⟩, ⟨2, ⟨#[]⟩, 10, 1⟩, ⟨4, ⟨#[]⟩, 0, 1⟩, ⟨0, ⟨#[]⟩, 0, 1⟩]
def exB : List Tk := [⟨1, ⟨#[97]⟩, 0, 2⟩, ⟨4, ⟨#[]⟩, 0, 2⟩, ⟨0, ⟨#[]⟩, 0, 3⟩]
theorem ex_a : tokL (bs ⟨#[120, 60, 61, 49, 48, 32, 35, 32, 115, 109, 97, 108, 108]⟩) = exA ∧ tokN (bs ⟨#[120, 60, 61, 49, 48, 32, 35, 32, 115, 109, 97, 108, 108]⟩) = 0 ∧ tokE (bs ⟨#[120, 60, 61, 49, 48, 32, 35, 32, 115, 109, 97, 108, 108]⟩) = 0 := ⟨by kernel_rfl, by kernel_rfl, by kernel_rfl⟩
theorem ex_b : tokL (bs ⟨#[97, 10, 98, 32, 33, 32, 99]⟩) = [] ∧ tokN (bs ⟨#[97, 10, 98, 32, 33, 32, 99]⟩) = 2 ∧ tokE (bs ⟨#[97, 10, 98, 32, 33, 32, 99]⟩) = 8 := ⟨by kernel_rfl, by kernel_rfl, by kernel_rfl⟩
theorem ex_n : numO (bs ⟨#[49, 48]⟩) = some 10 := by kernel_rfl
theorem ex_t : txtV exB = .tuple #[.string ⟨#[10, 97, 10]⟩, .int .i64 0] := by kernel_rfl
theorem ex_l : linL exA = 1 := by kernel_rfl
theorem ex_c : chkL [] = 8 := by kernel_rfl
theorem ex_fit : Fits exA := by
  intro x hx
  simp only [exA, List.mem_cons, List.not_mem_nil, or_false] at hx
  rcases hx with rfl | rfl | rfl | rfl | rfl <;> decide
theorem ex_fit2 : ∀ x ∈ exB, x.t.size ≤ 140737488355328 ∧ x.l ≤ 9223372036854775807 := by
  intro x hx
  simp only [exB, List.mem_cons, List.not_mem_nil, or_false] at hx
  rcases hx with rfl | rfl | rfl <;> decide
set_option maxRecDepth 100000 in
theorem awake_any (w : World) (hE : Env w) : Calls Tryd.prog 10 #[] w (Gives (.bool true) w) := by
  have HE := Lib.hid hE
  clear hE
  go_enter Tryd.func10, Tryd.ntmps10
  go_wp2_with fail
  refine (tokens_at ex_a (by decide) w HE.out).mono ?_
  rintro e w1 ⟨v1, rfl, ho1, hb1⟩
  obtain ⟨p, c, rfl, hT1, hc, hp⟩ := own_toks ho1
  clear ho1
  obtain ⟨g, rfl⟩ : ∃ g, p = some ⟨g, 0, none⟩ := by
    rcases hp with ⟨rfl, rfl⟩ | ⟨g, rfl, -⟩
    · exact absurd hc (by decide)
    · exact ⟨g, rfl⟩
  have hT1 : Toks w1 (some ⟨g, 0, none⟩) 5 exA := hT1
  rw [show exA.length = 5 from rfl]
  clear hp hc
  go_wp2_with fail
  refine (tokens_at ex_b (by decide) w1 (HE.out.below hb1)).mono ?_
  rintro e w2 ⟨v2, rfl, -, hb2⟩
  have HB2 : Hid (Below w.heap.size w w2) := Lib.hid (by (repeat (first | (with_reducible exact Below.refl _ _) | (with_reducible assumption) | (with_reducible apply bl_alloc) | (with_reducible apply bl_drewN) | (with_reducible apply bl_drew) | (with_reducible refine bl_set ?_ (by first | (simp; done) | (simp; omega)) _) | (with_reducible refine bl_call ?_ (by assumption)))))
  have hT2 := hT1.on hb2
  clear hT1 hb2 hb1
  go_wp2_with fail
  refine (number_yes ex_n w2 (HE.out.below HB2.out)).mono ?_
  rintro e w3 ⟨rfl, hb3⟩
  have HB3 : Hid (Below w.heap.size w w3) := Lib.hid (by have HBB := HB2.out; (repeat (first | (with_reducible exact Below.refl _ _) | (with_reducible assumption) | (with_reducible apply bl_alloc) | (with_reducible apply bl_drewN) | (with_reducible apply bl_drew) | (with_reducible refine bl_set ?_ (by first | (simp; done) | (simp; omega)) _) | (with_reducible refine bl_call ?_ (by assumption)))))
  have hT3 := hT2.on hb3
  clear hT2 hb3 HB2
  go_wp2_with fail
  have A1 : Toks (w3.alloc (.cells #[.int .i64 1, .string ⟨#[97]⟩, .int .i64 0, .int .i64 2, .int .i64 4, .string ⟨#[]⟩, .int .i64 0, .int .i64 2, .int .i64 0, .string ⟨#[]⟩, .int .i64 0, .int .i64 3] 31)) (some ⟨w3.heap.size, 0, none⟩) 3 exB := toks_lit (l := exB) rfl (by decide)
  have HB4 : Hid (Below w.heap.size w (w3.alloc (.cells #[.int .i64 1, .string ⟨#[97]⟩, .int .i64 0, .int .i64 2, .int .i64 4, .string ⟨#[]⟩, .int .i64 0, .int .i64 2, .int .i64 0, .string ⟨#[]⟩, .int .i64 0, .int .i64 3] 31))) := Lib.hid (by have HBB := HB3.out; (repeat (first | (with_reducible exact Below.refl _ _) | (with_reducible assumption) | (with_reducible apply bl_alloc) | (with_reducible apply bl_drewN) | (with_reducible apply bl_drew) | (with_reducible refine bl_set ?_ (by first | (simp; done) | (simp; omega)) _) | (with_reducible refine bl_call ?_ (by assumption)))))
  have hT4 := hT3.alloc (o := .cells #[.int .i64 1, .string ⟨#[97]⟩, .int .i64 0, .int .i64 2, .int .i64 4, .string ⟨#[]⟩, .int .i64 0, .int .i64 2, .int .i64 0, .string ⟨#[]⟩, .int .i64 0, .int .i64 3] 31)
  refine (text_at (c := 3) ex_t _ A1 ex_fit2 (HE.out.below HB4.out)).mono ?_
  rintro e w5 ⟨rfl, hb5⟩
  have HB5 : Hid (Below w.heap.size w w5) := Lib.hid (by have HBB := HB4.out; (repeat (first | (with_reducible exact Below.refl _ _) | (with_reducible assumption) | (with_reducible apply bl_alloc) | (with_reducible apply bl_drewN) | (with_reducible apply bl_drew) | (with_reducible refine bl_set ?_ (by first | (simp; done) | (simp; omega)) _) | (with_reducible refine bl_call ?_ (by assumption)))))
  have hT5 := hT4.on hb5
  clear A1 hT3 hT4 hb5 HB4 HB3
  obtain ⟨-, -, h0 | ⟨b, o, hbo, hb, hcell⟩⟩ := id hT5
  · cases h0
  cases hbo
  obtain ⟨r1, r2, r3, r4⟩ := hcell.out 1 (by decide)
  obtain ⟨s1, s2, s3, s4⟩ := hcell.out 2 (by decide)
  have a1 : w5.cell? ⟨g, 4, none⟩ = some (.int .i64 3) := r1
  have a2 : w5.cell? ⟨g, 5, none⟩ = some (.string ⟨#[60, 61]⟩) := r2
  have a3 : w5.cell? ⟨g, 6, none⟩ = some (.int .i64 0) := r3
  have a4 : w5.cell? ⟨g, 7, none⟩ = some (.int .i64 1) := r4
  have b1 : w5.cell? ⟨g, 8, none⟩ = some (.int .i64 2) := s1
  have b2 : w5.cell? ⟨g, 9, none⟩ = some (.string ⟨#[]⟩) := s2
  have b3 : w5.cell? ⟨g, 10, none⟩ = some (.int .i64 10) := s3
  have b4 : w5.cell? ⟨g, 11, none⟩ = some (.int .i64 1) := s4
  clear hcell r1 r2 r3 r4 s1 s2 s3 s4
  go_wp2_with fail
  refine (lines_at ex_l w5 hT5 ex_fit).mono ?_
  rintro e w6 ⟨rfl, hb6⟩
  have HB6 : Hid (Below w.heap.size w w6) := Lib.hid (by have HBB := HB5.out; (repeat (first | (with_reducible exact Below.refl _ _) | (with_reducible assumption) | (with_reducible apply bl_alloc) | (with_reducible apply bl_drewN) | (with_reducible apply bl_drew) | (with_reducible refine bl_set ?_ (by first | (simp; done) | (simp; omega)) _) | (with_reducible refine bl_call ?_ (by assumption)))))
  clear hb6 hT5 HB5
  go_wp2_with fail
  refine (check_at ex_c w6 Toks.nil (fun _ h => by cases h)).mono ?_
  rintro e w7 ⟨rfl, hb7⟩
  go_wp2_with fail
  go_ret
  exact ⟨rfl, by have HBB := HB6.out; (repeat (first | (with_reducible exact Below.refl _ _) | (with_reducible assumption) | (with_reducible apply bl_alloc) | (with_reducible apply bl_drewN) | (with_reducible apply bl_drew) | (with_reducible refine bl_set ?_ (by first | (simp; done) | (simp; omega)) _) | (with_reducible refine bl_call ?_ (by assumption))))⟩
end Go.Proofs.YtilnojcbebchdaaDoor.Lx
