/-
  The law of the checks, walked.
-/
import Derived.Test.YtfkenbdfakjeoaaECheck
import Derived.Test.YtfkenbdfakjeoaaERChk
import Derived.Test.YtfkenbdfakjeoaaELeft
import Derived.Test.YtfkenbdfakjeoaaERNode
import Derived.Test.YtfkenbdfakjeoaaEDepth
namespace Go.Proofs.Ytfkenbdfakjeoaa.Ex
open Go.RowKit
open Go.Proofs.Ytfkenbdfakjeoaa.Na (bs bs_inj chk)
set_option maxHeartbeats 4000000
set_option linter.unusedVariables false
set_option linter.unusedSimpArgs false
theorem box4.seen {w : World} {g : Nat} {o : Int} {s : ByteArray} {n : Int} {p : Option Addr} {m c : Nat} (h : box4 w g o s n p m c) : w.cell? ⟨g, 0, none⟩ = some (.int .i64 o) ∧ w.cell? ⟨g, 1, none⟩ = some (.string s) ∧ w.cell? ⟨g, 2, none⟩ = some (.int .i64 n) ∧ w.cell? ⟨g, 3, none⟩ = some (.slice p m c) := h
theorem box4.drew {w : World} {g : Nat} {o : Int} {s : ByteArray} {n : Int} {p : Option Addr} {m c : Nat} (h : box4 w g o s n p m c) : box4 w.drew g o s n p m c := h
theorem few_gives {e : Ex} {b : Bool} (h : fewE e = b) (p : Option Addr) (m c : Nat) (w : World) (hi : In w e p m) : Calls Try.prog 10 #[.agg #[.int .i64 e.o, .string e.s, .int .i64 e.n, .slice p m c]] w (Gives (.bool b) w) := by rw [← h]; exact few_any e p m c w hi
set_option maxRecDepth 100000 in
theorem exprChecks_walk (HA : ∀ w, Calls Try.prog 11 #[] w (Gives (.bool true) w)) (e : Ex) (p : Option Addr) (m c : Nat) (w : World) (h : In w e p m) (hs : Sz e) : Calls Try.prog 3 #[.agg #[.int .i64 e.o, .string e.s, .int .i64 e.n, .slice p m c]] w (Gives (.bool true) w) := by
  have HH := Lib.hid h
  cases hf : fewE e with
  | false =>
    have HF := Lib.hid (fun W hi => few_gives hf p m c W hi)
    obtain ⟨o, s, nn, kl⟩ := e
    simp only [Ex.o, Ex.s, Ex.n] at HF ⊢
    clear h hs hf
    go_enter Try.func3, Try.ntmps3
    go_wp2_with fail
    refine (HF.out _ (HH.out.on (by (repeat (first | (with_reducible exact Below.refl _ _) | (with_reducible assumption) | (with_reducible apply bl_alloc) | (with_reducible apply bl_drewN) | (with_reducible apply bl_drew) | (with_reducible refine bl_set ?_ (by first | (simp; done) | (simp; omega)) _) | (with_reducible refine bl_call ?_ (by assumption))))))).mono ?_
    rintro e w1 ⟨rfl, hb1⟩
    have B1 : Below w.heap.size w w1 := by (repeat (first | (with_reducible exact Below.refl _ _) | (with_reducible assumption) | (with_reducible apply bl_alloc) | (with_reducible apply bl_drewN) | (with_reducible apply bl_drew) | (with_reducible refine bl_set ?_ (by first | (simp; done) | (simp; omega)) _) | (with_reducible refine bl_call ?_ (by assumption))))
    go_wp2_with fail
    refine (HA _).mono ?_
    rintro e w2 ⟨rfl, hb2⟩
    go_wp2_with fail
    go_ret
    exact ⟨rfl, by (repeat (first | (with_reducible exact Below.refl _ _) | (with_reducible assumption) | (with_reducible apply bl_alloc) | (with_reducible apply bl_drewN) | (with_reducible apply bl_drew) | (with_reducible refine bl_set ?_ (by first | (simp; done) | (simp; omega)) _) | (with_reducible refine bl_call ?_ (by assumption))))⟩
  | true =>
    have hc := (few_cap hf).1
    have HF := Lib.hid (fun W hi => few_gives hf p m c W hi)
    have H1 := fun W hi => check_any e p m c W hi hs (by omega)
    have H2 := fun W hi => rcheck_any e p m c W hi hs (by omega)
    have H3 := fun W hi => code_any e p m c W hi hs (by omega)
    have H4 := fun W hi => rcode_any e p m c W hi hs (by omega)
    have H5 := fun W hi => count_any e p m c W hi hs (by omega)
    have H6 := fun W hi => rnodes_any e p m c W hi (by omega)
    have H7 := fun W hi => depth_any e p m c W hi (by omega)
    have H8 := fun W hi => rdepth_any e p m c W hi (by omega)
    obtain ⟨V1, hV1⟩ : ∃ V, chkE false e = V := ⟨_, rfl⟩
    obtain ⟨V2, hV2⟩ : ∃ V, chkE true e = V := ⟨_, rfl⟩
    obtain ⟨V3, hV3⟩ : ∃ V, (cnt e : Int) = V := ⟨_, rfl⟩
    obtain ⟨V4, hV4⟩ : ∃ V, (dep e : Int) = V := ⟨_, rfl⟩
    simp only [hV1, hV2, hV3, hV4] at H1 H2 H3 H4 H5 H6 H7 H8
    obtain ⟨o, s, nn, kl⟩ := e
    simp only [Ex.o, Ex.s, Ex.n] at HF H1 H2 H3 H4 H5 H6 H7 H8 ⊢
    have q1 : (V1 == V1) = true := beq_self_eq_true _
    have q2 : (V2 == V2) = true := beq_self_eq_true _
    have q3 : (V3 == V3) = true := beq_self_eq_true _
    have q4 : (V4 == V4) = true := beq_self_eq_true _
    clear h hs hf hV1 hV2 hV3 hV4 hc
    go_enter Try.func3, Try.ntmps3
    go_wp2_with fail
    refine (HF.out _ (HH.out.on (by (repeat (first | (with_reducible exact Below.refl _ _) | (with_reducible assumption) | (with_reducible apply bl_alloc) | (with_reducible apply bl_drewN) | (with_reducible apply bl_drew) | (with_reducible refine bl_set ?_ (by first | (simp; done) | (simp; omega)) _) | (with_reducible refine bl_call ?_ (by assumption))))))).mono ?_
    rintro e w1 ⟨rfl, hb1⟩
    have A1 := box4.on hb1 box_new
    have B1 : Below w.heap.size w w1 := by (repeat (first | (with_reducible exact Below.refl _ _) | (with_reducible assumption) | (with_reducible apply bl_alloc) | (with_reducible apply bl_drewN) | (with_reducible apply bl_drew) | (with_reducible refine bl_set ?_ (by first | (simp; done) | (simp; omega)) _) | (with_reducible refine bl_call ?_ (by assumption))))
    clear hb1
    have HX := Lib.hid A1
    obtain ⟨x0, x1, x2, x3⟩ := HX.out
    go_wp2_with fail
    go_region_held3 (fun w' => w'.cell? ⟨w.heap.size, 0, none⟩ = some (.int .i64 o) ∧ w'.cell? ⟨w.heap.size, 1, none⟩ = some (.string s) ∧ w'.cell? ⟨w.heap.size, 2, none⟩ = some (.int .i64 nn) ∧ w'.cell? ⟨w.heap.size, 3, none⟩ = some (.slice p m c)) (first | (with_reducible exact box4.seen A1) | (with_reducible exact box4.seen (box4.drew A1)) | (with_reducible exact box4.seen (box4_drewN A1 _)) | (go_keep; done)) (first
      | (go_at_call 12; refine (H1 _ (HH.out.on (by (repeat (first | (with_reducible exact Below.refl _ _) | (with_reducible assumption) | (with_reducible apply bl_alloc) | (with_reducible apply bl_drewN) | (with_reducible apply bl_drew) | (with_reducible refine bl_set ?_ (by first | (simp; done) | (simp; omega)) _) | (with_reducible refine bl_call ?_ (by assumption))))))).mono ?_; rintro e w2 ⟨rfl, hb2⟩; have A1 := box4.on hb2 (by first | exact A1 | exact box4_drewN A1 _ | exact box4.drew A1); have B1 : Below w.heap.size w w2 := by (repeat (first | (with_reducible exact Below.refl _ _) | (with_reducible assumption) | (with_reducible apply bl_alloc) | (with_reducible apply bl_drewN) | (with_reducible apply bl_drew) | (with_reducible refine bl_set ?_ (by first | (simp; done) | (simp; omega)) _) | (with_reducible refine bl_call ?_ (by assumption)))))
      | (go_at_call 13; refine (H2 _ (HH.out.on (by (repeat (first | (with_reducible exact Below.refl _ _) | (with_reducible assumption) | (with_reducible apply bl_alloc) | (with_reducible apply bl_drewN) | (with_reducible apply bl_drew) | (with_reducible refine bl_set ?_ (by first | (simp; done) | (simp; omega)) _) | (with_reducible refine bl_call ?_ (by assumption))))))).mono ?_; rintro e w2 ⟨rfl, hb2⟩; have A1 := box4.on hb2 (by first | exact A1 | exact box4_drewN A1 _ | exact box4.drew A1); have B1 : Below w.heap.size w w2 := by (repeat (first | (with_reducible exact Below.refl _ _) | (with_reducible assumption) | (with_reducible apply bl_alloc) | (with_reducible apply bl_drewN) | (with_reducible apply bl_drew) | (with_reducible refine bl_set ?_ (by first | (simp; done) | (simp; omega)) _) | (with_reducible refine bl_call ?_ (by assumption)))))
      | (go_at_call 14; refine (H3 _ (HH.out.on (by (repeat (first | (with_reducible exact Below.refl _ _) | (with_reducible assumption) | (with_reducible apply bl_alloc) | (with_reducible apply bl_drewN) | (with_reducible apply bl_drew) | (with_reducible refine bl_set ?_ (by first | (simp; done) | (simp; omega)) _) | (with_reducible refine bl_call ?_ (by assumption))))))).mono ?_; rintro e w2 ⟨rfl, hb2⟩; have A1 := box4.on hb2 (by first | exact A1 | exact box4_drewN A1 _ | exact box4.drew A1); have B1 : Below w.heap.size w w2 := by (repeat (first | (with_reducible exact Below.refl _ _) | (with_reducible assumption) | (with_reducible apply bl_alloc) | (with_reducible apply bl_drewN) | (with_reducible apply bl_drew) | (with_reducible refine bl_set ?_ (by first | (simp; done) | (simp; omega)) _) | (with_reducible refine bl_call ?_ (by assumption)))))
      | (go_at_call 15; refine (H4 _ (HH.out.on (by (repeat (first | (with_reducible exact Below.refl _ _) | (with_reducible assumption) | (with_reducible apply bl_alloc) | (with_reducible apply bl_drewN) | (with_reducible apply bl_drew) | (with_reducible refine bl_set ?_ (by first | (simp; done) | (simp; omega)) _) | (with_reducible refine bl_call ?_ (by assumption))))))).mono ?_; rintro e w2 ⟨rfl, hb2⟩; have A1 := box4.on hb2 (by first | exact A1 | exact box4_drewN A1 _ | exact box4.drew A1); have B1 : Below w.heap.size w w2 := by (repeat (first | (with_reducible exact Below.refl _ _) | (with_reducible assumption) | (with_reducible apply bl_alloc) | (with_reducible apply bl_drewN) | (with_reducible apply bl_drew) | (with_reducible refine bl_set ?_ (by first | (simp; done) | (simp; omega)) _) | (with_reducible refine bl_call ?_ (by assumption)))))
      | (go_at_call 16; refine (H5 _ (HH.out.on (by (repeat (first | (with_reducible exact Below.refl _ _) | (with_reducible assumption) | (with_reducible apply bl_alloc) | (with_reducible apply bl_drewN) | (with_reducible apply bl_drew) | (with_reducible refine bl_set ?_ (by first | (simp; done) | (simp; omega)) _) | (with_reducible refine bl_call ?_ (by assumption))))))).mono ?_; rintro e w2 ⟨rfl, hb2⟩; have A1 := box4.on hb2 (by first | exact A1 | exact box4_drewN A1 _ | exact box4.drew A1); have B1 : Below w.heap.size w w2 := by (repeat (first | (with_reducible exact Below.refl _ _) | (with_reducible assumption) | (with_reducible apply bl_alloc) | (with_reducible apply bl_drewN) | (with_reducible apply bl_drew) | (with_reducible refine bl_set ?_ (by first | (simp; done) | (simp; omega)) _) | (with_reducible refine bl_call ?_ (by assumption)))))
      | (go_at_call 17; refine (H6 _ (HH.out.on (by (repeat (first | (with_reducible exact Below.refl _ _) | (with_reducible assumption) | (with_reducible apply bl_alloc) | (with_reducible apply bl_drewN) | (with_reducible apply bl_drew) | (with_reducible refine bl_set ?_ (by first | (simp; done) | (simp; omega)) _) | (with_reducible refine bl_call ?_ (by assumption))))))).mono ?_; rintro e w2 ⟨rfl, hb2⟩; have A1 := box4.on hb2 (by first | exact A1 | exact box4_drewN A1 _ | exact box4.drew A1); have B1 : Below w.heap.size w w2 := by (repeat (first | (with_reducible exact Below.refl _ _) | (with_reducible assumption) | (with_reducible apply bl_alloc) | (with_reducible apply bl_drewN) | (with_reducible apply bl_drew) | (with_reducible refine bl_set ?_ (by first | (simp; done) | (simp; omega)) _) | (with_reducible refine bl_call ?_ (by assumption)))))
      | (go_at_call 18; refine (H7 _ (HH.out.on (by (repeat (first | (with_reducible exact Below.refl _ _) | (with_reducible assumption) | (with_reducible apply bl_alloc) | (with_reducible apply bl_drewN) | (with_reducible apply bl_drew) | (with_reducible refine bl_set ?_ (by first | (simp; done) | (simp; omega)) _) | (with_reducible refine bl_call ?_ (by assumption))))))).mono ?_; rintro e w2 ⟨rfl, hb2⟩; have A1 := box4.on hb2 (by first | exact A1 | exact box4_drewN A1 _ | exact box4.drew A1); have B1 : Below w.heap.size w w2 := by (repeat (first | (with_reducible exact Below.refl _ _) | (with_reducible assumption) | (with_reducible apply bl_alloc) | (with_reducible apply bl_drewN) | (with_reducible apply bl_drew) | (with_reducible refine bl_set ?_ (by first | (simp; done) | (simp; omega)) _) | (with_reducible refine bl_call ?_ (by assumption)))))
      | (go_at_call 19; refine (H8 _ (HH.out.on (by (repeat (first | (with_reducible exact Below.refl _ _) | (with_reducible assumption) | (with_reducible apply bl_alloc) | (with_reducible apply bl_drewN) | (with_reducible apply bl_drew) | (with_reducible refine bl_set ?_ (by first | (simp; done) | (simp; omega)) _) | (with_reducible refine bl_call ?_ (by assumption))))))).mono ?_; rintro e w2 ⟨rfl, hb2⟩; have A1 := box4.on hb2 (by first | exact A1 | exact box4_drewN A1 _ | exact box4.drew A1); have B1 : Below w.heap.size w w2 := by (repeat (first | (with_reducible exact Below.refl _ _) | (with_reducible assumption) | (with_reducible apply bl_alloc) | (with_reducible apply bl_drewN) | (with_reducible apply bl_drew) | (with_reducible refine bl_set ?_ (by first | (simp; done) | (simp; omega)) _) | (with_reducible refine bl_call ?_ (by assumption)))))
      | (go_at_call 11; refine (HA _).mono ?_; rintro e w2 ⟨rfl, hb2⟩; have A1 := box4.on hb2 (by first | exact A1 | exact box4_drewN A1 _ | exact box4.drew A1); have B1 : Below w.heap.size w w2 := by (repeat (first | (with_reducible exact Below.refl _ _) | (with_reducible assumption) | (with_reducible apply bl_alloc) | (with_reducible apply bl_drewN) | (with_reducible apply bl_drew) | (with_reducible refine bl_set ?_ (by first | (simp; done) | (simp; omega)) _) | (with_reducible refine bl_call ?_ (by assumption))))))
    all_goals
      go_wp2_with fail
      go_ret
      exact ⟨rfl, by (repeat (first | (with_reducible exact Below.refl _ _) | (with_reducible assumption) | (with_reducible apply bl_alloc) | (with_reducible apply bl_drewN) | (with_reducible apply bl_drew) | (with_reducible refine bl_set ?_ (by first | (simp; done) | (simp; omega)) _) | (with_reducible refine bl_call ?_ (by assumption))))⟩
end Go.Proofs.Ytfkenbdfakjeoaa.Ex
