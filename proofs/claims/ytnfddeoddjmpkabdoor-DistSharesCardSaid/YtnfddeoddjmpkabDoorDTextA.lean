/-
  The contracts of Text, of the package and of the reference.
-/
import Derived.Test.YtnfddeoddjmpkabDoorDPhrase
namespace Go.Proofs.YtnfddeoddjmpkabDoor.Di
open Go.RowKit
set_option maxHeartbeats 4000000
def wConst : ByteArray := ⟨#[99, 111, 110, 115, 116]⟩
def wUni : ByteArray := ⟨#[117, 110, 105, 102, 111, 114, 109]⟩
def wSum : ByteArray := ⟨#[115, 117, 109]⟩
def wGeom : ByteArray := ⟨#[103, 101, 111, 109]⟩
/-- The text of an accepted distribution. -/
def txtA (op a b n : Int) (lv : Nat) (V W : Nat → Int) : ByteArray :=
  if op = 1 then wConst ++ (sp ++ num a) else if op = 2 then wUni ++ (sp ++ num a) ++ (sp ++ num b) else if op = 3 then tbt V W lv
  else if op = 4 then wSum ++ (sp ++ num n) ++ (sp ++ num a) ++ (sp ++ num b) else wGeom ++ (sp ++ num a) ++ (sp ++ num b)
def txtD (E op a b n : Int) (lv : Nat) (V W : Nat → Int) : ByteArray := if E = 0 then txtA op a b n lv V W else ⟨#[]⟩
def N1 (a : Int) (_ : Nat) : Int := a
def N2 (a b : Int) (i : Nat) : Int := if i = 0 then a else b
def N3 (a b d : Int) (i : Nat) : Int := if i = 0 then a else if i = 1 then b else d
theorem cells1 (w : World) (a : Int) (t : TypeId) : ∀ i, i < 1 → (w.alloc (.cells #[.int .i64 a] t)).cell? ⟨w.heap.size, 0 + i, none⟩ = some (.int .i64 (N1 a i)) := by
  intro i hi; obtain rfl : i = 0 := by omega
  simp [N1]
theorem cells2 (w : World) (a b : Int) (t : TypeId) : ∀ i, i < 2 → (w.alloc (.cells #[.int .i64 a, .int .i64 b] t)).cell? ⟨w.heap.size, 0 + i, none⟩ = some (.int .i64 (N2 a b i)) := by
  intro i hi
  have h : i = 0 ∨ i = 1 := by omega
  rcases h with rfl | rfl <;> simp [N2]
theorem cells3 (w : World) (a b d : Int) (t : TypeId) : ∀ i, i < 3 → (w.alloc (.cells #[.int .i64 a, .int .i64 b, .int .i64 d] t)).cell? ⟨w.heap.size, 0 + i, none⟩ = some (.int .i64 (N3 a b d i)) := by
  intro i hi
  have h : i = 0 ∨ i = 1 ∨ i = 2 := by omega
  rcases h with rfl | rfl | rfl <;> simp [N3]
def i64B (x : Int) : Prop := -9223372036854775808 ≤ x ∧ x ≤ 9223372036854775807
theorem phrase1 (word : ByteArray) (hwd : word.size ≤ 10) (a : Int) (ha : i64B a) (t : TypeId) (w : World) (hE : Env w) : Calls Tryd.prog 58 #[.string word, .slice (some ⟨w.heap.size, 0, none⟩) 1 1] (w.alloc (.cells #[.int .i64 a] t)) (Gives (.string (word ++ (sp ++ num a))) (w.alloc (.cells #[.int .i64 a] t))) :=
  phrase_any word hwd w.heap.size 0 1 1 (N1 a) (by decide) _ hE.alloc (by simp) (Lib.hid (cells1 w a t)) (Lib.hid fun _ _ => ha)
theorem phrase2 (word : ByteArray) (hwd : word.size ≤ 10) (a b : Int) (ha : i64B a) (hb : i64B b) (t : TypeId) (w : World) (hE : Env w) : Calls Tryd.prog 58 #[.string word, .slice (some ⟨w.heap.size, 0, none⟩) 2 2] (w.alloc (.cells #[.int .i64 a, .int .i64 b] t)) (Gives (.string (word ++ (sp ++ num a) ++ (sp ++ num b))) (w.alloc (.cells #[.int .i64 a, .int .i64 b] t))) :=
  phrase_any word hwd w.heap.size 0 2 2 (N2 a b) (by decide) _ hE.alloc (by simp) (Lib.hid (cells2 w a b t)) (Lib.hid fun i _ => by unfold N2; split; exact ha; exact hb)
theorem phrase3 (word : ByteArray) (hwd : word.size ≤ 10) (a b d : Int) (ha : i64B a) (hb : i64B b) (hd : i64B d) (t : TypeId) (w : World) (hE : Env w) : Calls Tryd.prog 58 #[.string word, .slice (some ⟨w.heap.size, 0, none⟩) 3 3] (w.alloc (.cells #[.int .i64 a, .int .i64 b, .int .i64 d] t)) (Gives (.string (word ++ (sp ++ num a) ++ (sp ++ num b) ++ (sp ++ num d))) (w.alloc (.cells #[.int .i64 a, .int .i64 b, .int .i64 d] t))) :=
  phrase_any word hwd w.heap.size 0 3 3 (N3 a b d) (by decide) _ hE.alloc (by simp) (Lib.hid (cells3 w a b d t)) (Lib.hid fun i _ => by unfold N3; split; exact ha; split; exact hb; exact hd)
theorem text_no (op a b n : Int) (p : Option Addr) (lv c : Nat) (q : Option Addr) (lw f : Nat) (E : Int) (hE : (E != 0) = true) (w : World) (CH : Hid (∀ w2, Below w.heap.size w w2 → Calls Tryd.prog 10 #[.agg #[.int .i64 op, .int .i64 a, .int .i64 b, .int .i64 n, .slice p lv c, .slice q lw f]] w2 (Gives (.int .i64 E) w2))) : Calls Tryd.prog 35 #[.agg #[.int .i64 op, .int .i64 a, .int .i64 b, .int .i64 n, .slice p lv c, .slice q lw f]] w (Gives (.string ⟨#[]⟩) w) := by
  go_enter Tryd.func35, Tryd.ntmps35
  go_wp2_with fail
  refine (CH.out _ (by (repeat (first | (with_reducible exact Below.refl _ _) | (with_reducible assumption) | (with_reducible apply bl_alloc) | (with_reducible apply bl_drewN) | (with_reducible apply bl_drew) | (with_reducible refine bl_set ?_ (by first | (simp; done) | (simp; omega)) _) | (with_reducible refine bl_call ?_ (by assumption)))))).mono ?_
  rintro e w1 ⟨rfl, hb1⟩
  have D1 := six.on hb1 six.new
  obtain ⟨d0, d1, d2, d3, d4, d5, d6⟩ := D1
  have D1 : six _ _ _ _ _ _ _ _ := ⟨d0, d1, d2, d3, d4, d5, d6⟩
  go_wp2_with fail
  go_ret
  exact ⟨rfl, by (repeat (first | (with_reducible exact Below.refl _ _) | (with_reducible assumption) | (with_reducible apply bl_alloc) | (with_reducible apply bl_drewN) | (with_reducible apply bl_drew) | (with_reducible refine bl_set ?_ (by first | (simp; done) | (simp; omega)) _) | (with_reducible refine bl_call ?_ (by assumption))))⟩
theorem text1 (a b n : Int) (p : Option Addr) (lv c : Nat) (q : Option Addr) (lw f : Nat) (ha : i64B a) (w : World) (hE : Env w) (CH : Hid (∀ w2, Below w.heap.size w w2 → Calls Tryd.prog 10 #[.agg #[.int .i64 1, .int .i64 a, .int .i64 b, .int .i64 n, .slice p lv c, .slice q lw f]] w2 (Gives (.int .i64 0) w2))) : Calls Tryd.prog 35 #[.agg #[.int .i64 1, .int .i64 a, .int .i64 b, .int .i64 n, .slice p lv c, .slice q lw f]] w (Gives (.string (wConst ++ (sp ++ num a))) w) := by
  have P := Lib.hid fun (w2 : World) (hb : Below w.heap.size w w2) => phrase1 wConst (by decide) a ha 3 w2 (hE.below hb)
  go_enter Tryd.func35, Tryd.ntmps35
  go_wp2_with fail
  refine (CH.out _ (by (repeat (first | (with_reducible exact Below.refl _ _) | (with_reducible assumption) | (with_reducible apply bl_alloc) | (with_reducible apply bl_drewN) | (with_reducible apply bl_drew) | (with_reducible refine bl_set ?_ (by first | (simp; done) | (simp; omega)) _) | (with_reducible refine bl_call ?_ (by assumption)))))).mono ?_
  rintro e w1 ⟨rfl, hb1⟩
  have D1 := six.on hb1 six.new
  obtain ⟨d0, d1, d2, d3, d4, d5, d6⟩ := D1
  have D1 : six _ _ _ _ _ _ _ _ := ⟨d0, d1, d2, d3, d4, d5, d6⟩
  go_wp2_with fail
  refine (P.out w1 (by (repeat (first | (with_reducible exact Below.refl _ _) | (with_reducible assumption) | (with_reducible apply bl_alloc) | (with_reducible apply bl_drewN) | (with_reducible apply bl_drew) | (with_reducible refine bl_set ?_ (by first | (simp; done) | (simp; omega)) _) | (with_reducible refine bl_call ?_ (by assumption)))))).mono ?_
  rintro e w2 ⟨rfl, hb2⟩
  go_wp2_with fail
  go_ret
  exact ⟨rfl, by (repeat (first | (with_reducible exact Below.refl _ _) | (with_reducible assumption) | (with_reducible apply bl_alloc) | (with_reducible apply bl_drewN) | (with_reducible apply bl_drew) | (with_reducible refine bl_set ?_ (by first | (simp; done) | (simp; omega)) _) | (with_reducible refine bl_call ?_ (by assumption))))⟩
theorem text2 (a b n : Int) (p : Option Addr) (lv c : Nat) (q : Option Addr) (lw f : Nat) (ha : i64B a) (hb' : i64B b) (w : World) (hE : Env w) (CH : Hid (∀ w2, Below w.heap.size w w2 → Calls Tryd.prog 10 #[.agg #[.int .i64 2, .int .i64 a, .int .i64 b, .int .i64 n, .slice p lv c, .slice q lw f]] w2 (Gives (.int .i64 0) w2))) : Calls Tryd.prog 35 #[.agg #[.int .i64 2, .int .i64 a, .int .i64 b, .int .i64 n, .slice p lv c, .slice q lw f]] w (Gives (.string (wUni ++ (sp ++ num a) ++ (sp ++ num b))) w) := by
  have P := Lib.hid fun (w2 : World) (hb : Below w.heap.size w w2) => phrase2 wUni (by decide) a b ha hb' 3 w2 (hE.below hb)
  go_enter Tryd.func35, Tryd.ntmps35
  go_wp2_with fail
  refine (CH.out _ (by (repeat (first | (with_reducible exact Below.refl _ _) | (with_reducible assumption) | (with_reducible apply bl_alloc) | (with_reducible apply bl_drewN) | (with_reducible apply bl_drew) | (with_reducible refine bl_set ?_ (by first | (simp; done) | (simp; omega)) _) | (with_reducible refine bl_call ?_ (by assumption)))))).mono ?_
  rintro e w1 ⟨rfl, hb1⟩
  have D1 := six.on hb1 six.new
  obtain ⟨d0, d1, d2, d3, d4, d5, d6⟩ := D1
  have D1 : six _ _ _ _ _ _ _ _ := ⟨d0, d1, d2, d3, d4, d5, d6⟩
  go_wp2_with fail
  refine (P.out w1 (by (repeat (first | (with_reducible exact Below.refl _ _) | (with_reducible assumption) | (with_reducible apply bl_alloc) | (with_reducible apply bl_drewN) | (with_reducible apply bl_drew) | (with_reducible refine bl_set ?_ (by first | (simp; done) | (simp; omega)) _) | (with_reducible refine bl_call ?_ (by assumption)))))).mono ?_
  rintro e w2 ⟨rfl, hb2⟩
  go_wp2_with fail
  go_ret
  exact ⟨rfl, by (repeat (first | (with_reducible exact Below.refl _ _) | (with_reducible assumption) | (with_reducible apply bl_alloc) | (with_reducible apply bl_drewN) | (with_reducible apply bl_drew) | (with_reducible refine bl_set ?_ (by first | (simp; done) | (simp; omega)) _) | (with_reducible refine bl_call ?_ (by assumption))))⟩
theorem text5 (a b n : Int) (p : Option Addr) (lv c : Nat) (q : Option Addr) (lw f : Nat) (ha : i64B a) (hb' : i64B b) (w : World) (hE : Env w) (CH : Hid (∀ w2, Below w.heap.size w w2 → Calls Tryd.prog 10 #[.agg #[.int .i64 5, .int .i64 a, .int .i64 b, .int .i64 n, .slice p lv c, .slice q lw f]] w2 (Gives (.int .i64 0) w2))) : Calls Tryd.prog 35 #[.agg #[.int .i64 5, .int .i64 a, .int .i64 b, .int .i64 n, .slice p lv c, .slice q lw f]] w (Gives (.string (wGeom ++ (sp ++ num a) ++ (sp ++ num b))) w) := by
  have P := Lib.hid fun (w2 : World) (hb : Below w.heap.size w w2) => phrase2 wGeom (by decide) a b ha hb' 3 w2 (hE.below hb)
  go_enter Tryd.func35, Tryd.ntmps35
  go_wp2_with fail
  refine (CH.out _ (by (repeat (first | (with_reducible exact Below.refl _ _) | (with_reducible assumption) | (with_reducible apply bl_alloc) | (with_reducible apply bl_drewN) | (with_reducible apply bl_drew) | (with_reducible refine bl_set ?_ (by first | (simp; done) | (simp; omega)) _) | (with_reducible refine bl_call ?_ (by assumption)))))).mono ?_
  rintro e w1 ⟨rfl, hb1⟩
  have D1 := six.on hb1 six.new
  obtain ⟨d0, d1, d2, d3, d4, d5, d6⟩ := D1
  have D1 : six _ _ _ _ _ _ _ _ := ⟨d0, d1, d2, d3, d4, d5, d6⟩
  go_wp2_with fail
  refine (P.out w1 (by (repeat (first | (with_reducible exact Below.refl _ _) | (with_reducible assumption) | (with_reducible apply bl_alloc) | (with_reducible apply bl_drewN) | (with_reducible apply bl_drew) | (with_reducible refine bl_set ?_ (by first | (simp; done) | (simp; omega)) _) | (with_reducible refine bl_call ?_ (by assumption)))))).mono ?_
  rintro e w2 ⟨rfl, hb2⟩
  go_wp2_with fail
  go_ret
  exact ⟨rfl, by (repeat (first | (with_reducible exact Below.refl _ _) | (with_reducible assumption) | (with_reducible apply bl_alloc) | (with_reducible apply bl_drewN) | (with_reducible apply bl_drew) | (with_reducible refine bl_set ?_ (by first | (simp; done) | (simp; omega)) _) | (with_reducible refine bl_call ?_ (by assumption))))⟩
theorem text4 (a b n : Int) (p : Option Addr) (lv c : Nat) (q : Option Addr) (lw f : Nat) (ha : i64B a) (hb' : i64B b) (hn : i64B n) (w : World) (hE : Env w) (CH : Hid (∀ w2, Below w.heap.size w w2 → Calls Tryd.prog 10 #[.agg #[.int .i64 4, .int .i64 a, .int .i64 b, .int .i64 n, .slice p lv c, .slice q lw f]] w2 (Gives (.int .i64 0) w2))) : Calls Tryd.prog 35 #[.agg #[.int .i64 4, .int .i64 a, .int .i64 b, .int .i64 n, .slice p lv c, .slice q lw f]] w (Gives (.string (wSum ++ (sp ++ num n) ++ (sp ++ num a) ++ (sp ++ num b))) w) := by
  have P := Lib.hid fun (w2 : World) (hb : Below w.heap.size w w2) => phrase3 wSum (by decide) n a b hn ha hb' 3 w2 (hE.below hb)
  go_enter Tryd.func35, Tryd.ntmps35
  go_wp2_with fail
  refine (CH.out _ (by (repeat (first | (with_reducible exact Below.refl _ _) | (with_reducible assumption) | (with_reducible apply bl_alloc) | (with_reducible apply bl_drewN) | (with_reducible apply bl_drew) | (with_reducible refine bl_set ?_ (by first | (simp; done) | (simp; omega)) _) | (with_reducible refine bl_call ?_ (by assumption)))))).mono ?_
  rintro e w1 ⟨rfl, hb1⟩
  have D1 := six.on hb1 six.new
  obtain ⟨d0, d1, d2, d3, d4, d5, d6⟩ := D1
  have D1 : six _ _ _ _ _ _ _ _ := ⟨d0, d1, d2, d3, d4, d5, d6⟩
  go_wp2_with fail
  refine (P.out w1 (by (repeat (first | (with_reducible exact Below.refl _ _) | (with_reducible assumption) | (with_reducible apply bl_alloc) | (with_reducible apply bl_drewN) | (with_reducible apply bl_drew) | (with_reducible refine bl_set ?_ (by first | (simp; done) | (simp; omega)) _) | (with_reducible refine bl_call ?_ (by assumption)))))).mono ?_
  rintro e w2 ⟨rfl, hb2⟩
  go_wp2_with fail
  go_ret
  exact ⟨rfl, by (repeat (first | (with_reducible exact Below.refl _ _) | (with_reducible assumption) | (with_reducible apply bl_alloc) | (with_reducible apply bl_drewN) | (with_reducible apply bl_drew) | (with_reducible refine bl_set ?_ (by first | (simp; done) | (simp; omega)) _) | (with_reducible refine bl_call ?_ (by assumption))))⟩
theorem text3 (a b n : Int) (p : Option Addr) (lv c : Nat) (q : Option Addr) (lw f : Nat) (v : ByteArray) (w : World) (CH : Hid (∀ w2, Below w.heap.size w w2 → Calls Tryd.prog 10 #[.agg #[.int .i64 3, .int .i64 a, .int .i64 b, .int .i64 n, .slice p lv c, .slice q lw f]] w2 (Gives (.int .i64 0) w2))) (T : Hid (∀ w2, Below w.heap.size w w2 → Calls Tryd.prog 59 #[.slice p lv c, .slice q lw f] w2 (Gives (.string v) w2))) : Calls Tryd.prog 35 #[.agg #[.int .i64 3, .int .i64 a, .int .i64 b, .int .i64 n, .slice p lv c, .slice q lw f]] w (Gives (.string v) w) := by
  go_enter Tryd.func35, Tryd.ntmps35
  go_wp2_with fail
  refine (CH.out _ (by (repeat (first | (with_reducible exact Below.refl _ _) | (with_reducible assumption) | (with_reducible apply bl_alloc) | (with_reducible apply bl_drewN) | (with_reducible apply bl_drew) | (with_reducible refine bl_set ?_ (by first | (simp; done) | (simp; omega)) _) | (with_reducible refine bl_call ?_ (by assumption)))))).mono ?_
  rintro e w1 ⟨rfl, hb1⟩
  have D1 := six.on hb1 six.new
  obtain ⟨d0, d1, d2, d3, d4, d5, d6⟩ := D1
  have D1 : six _ _ _ _ _ _ _ _ := ⟨d0, d1, d2, d3, d4, d5, d6⟩
  go_wp2_with fail
  refine (T.out _ (by (repeat (first | (with_reducible exact Below.refl _ _) | (with_reducible assumption) | (with_reducible apply bl_alloc) | (with_reducible apply bl_drewN) | (with_reducible apply bl_drew) | (with_reducible refine bl_set ?_ (by first | (simp; done) | (simp; omega)) _) | (with_reducible refine bl_call ?_ (by assumption)))))).mono ?_
  rintro e w2 ⟨rfl, hb2⟩
  go_wp2_with fail
  go_ret
  exact ⟨rfl, by (repeat (first | (with_reducible exact Below.refl _ _) | (with_reducible assumption) | (with_reducible apply bl_alloc) | (with_reducible apply bl_drewN) | (with_reducible apply bl_drew) | (with_reducible refine bl_set ?_ (by first | (simp; done) | (simp; omega)) _) | (with_reducible refine bl_call ?_ (by assumption))))⟩
theorem text_any (op a b n : Int) (p : Option Addr) (lv c : Nat) (q : Option Addr) (lw f : Nat) (V W : Nat → Int) (w : World) (hE : Env w) (hV : Row w p lv V) (hW : Row w q lw W) : Calls Tryd.prog 35 #[.agg #[.int .i64 op, .int .i64 a, .int .i64 b, .int .i64 n, .slice p lv c, .slice q lw f]] w (Gives (.string (txtD (errD op a b n lv lw V W) op a b n lv V W)) w) := by
  have CH := Lib.hid fun (w2 : World) (hb : Below w.heap.size w w2) => check_any op a b n p lv c q lw f V W w2 (hV.on hb) (hW.on hb)
  unfold txtD
  by_cases h0 : errD op a b n lv lw V W = 0
  · rw [if_pos h0]
    have hA := acc_of h0
    rw [h0] at CH
    unfold txtA
    rcases hA with ⟨rfl, h⟩ | ⟨rfl, h⟩ | ⟨rfl, rfl, h2, h3, h4, h5⟩ | ⟨rfl, h⟩ | ⟨rfl, h⟩
    · rw [if_pos rfl]; exact text1 a b n p lv c q lw f ⟨by omega, by omega⟩ w hE CH
    · rw [if_neg (by decide), if_pos rfl]; exact text2 a b n p lv c q lw f ⟨by omega, by omega⟩ ⟨by omega, by omega⟩ w hE CH
    · rw [if_neg (by decide), if_neg (by decide), if_pos rfl]
      exact text3 a b n p _ c q _ f _ w CH (Lib.hid fun w2 hb => tabletext_any p c q f _ V W w2 (hE.below hb) (hV.on hb) (hW.on hb) h2 h3 (Lib.hid h4) (Lib.hid h5))
    · rw [if_neg (by decide), if_neg (by decide), if_neg (by decide), if_pos rfl]; exact text4 a b n p lv c q lw f ⟨by omega, by omega⟩ ⟨by omega, by omega⟩ ⟨by omega, by omega⟩ w hE CH
    · rw [if_neg (by decide), if_neg (by decide), if_neg (by decide), if_neg (by decide)]; exact text5 a b n p lv c q lw f ⟨by omega, by omega⟩ ⟨by omega, by omega⟩ w hE CH
  · rw [if_neg h0]
    exact text_no op a b n p lv c q lw f _ (by rw [bne_iff_ne]; exact h0) w CH
end Go.Proofs.YtnfddeoddjmpkabDoor.Di
