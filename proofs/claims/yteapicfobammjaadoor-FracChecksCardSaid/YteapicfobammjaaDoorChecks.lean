/-
  The statement FracChecks, walked.
-/
import Derived.Test.YteapicfobammjaaDoorRefText
import Derived.Test.YteapicfobammjaaDoorOrders
import Derived.StillTailTactics
namespace Go.Proofs.YteapicfobammjaaDoor
open Go.RowKit
set_option maxHeartbeats 4000000
def PairBo (w : World) (a b c d : Int) (va vb : Bool) (v : Value) (wr : World) : Prop := ∃ bo : Bool, v = .bool bo ∧ Hid (bo = (va && vb)) ∧ two wr w.heap.size (.int .i64 a) (.int .i64 b) ∧ two wr (w.heap.size + 1) (.int .i64 c) (.int .i64 d) ∧ Below w.heap.size w wr
set_option maxRecDepth 100000 in
theorem checks_walk (a b c d : Int) (va vb : Bool) (ta tb : ByteArray)
    (V1 : Hid (∀ w, Calls Tryd.prog 12 #[.agg #[.int .i64 a, .int .i64 b]] w (Gives (.bool va) w)))
    (V2 : Hid (∀ w, Calls Tryd.prog 13 #[.agg #[.int .i64 a, .int .i64 b]] w (Gives (.bool va) w)))
    (V3 : Hid (∀ w, Calls Tryd.prog 12 #[.agg #[.int .i64 c, .int .i64 d]] w (Gives (.bool vb) w)))
    (T1 : Hid (∀ w, Env w → Calls Tryd.prog 14 #[.agg #[.int .i64 a, .int .i64 b]] w (Gives (.string ta) w)))
    (T2 : Hid (∀ w, Calls Tryd.prog 15 #[.agg #[.int .i64 a, .int .i64 b]] w (Gives (.string ta) w)))
    (T3 : Hid (∀ w, Env w → Calls Tryd.prog 14 #[.agg #[.int .i64 c, .int .i64 d]] w (Gives (.string tb) w)))
    (T4 : Hid (∀ w, Calls Tryd.prog 15 #[.agg #[.int .i64 c, .int .i64 d]] w (Gives (.string tb) w)))
    (hc : Hid (va = false ∨ (va = true ∧ vb = false) ∨ (va = true ∧ vb = true ∧ a = c ∧ b = d ∧ (ta.toList == tb.toList) = true) ∨ (va = true ∧ vb = true ∧ ¬ a = c ∧ (ta.toList == tb.toList) = false) ∨ (va = true ∧ vb = true ∧ a = c ∧ ¬ b = d ∧ (ta.toList == tb.toList) = false)))
    (w : World) (hE : Env w) : Calls Tryd.prog 3 #[.agg #[.int .i64 a, .int .i64 b], .agg #[.int .i64 c, .int .i64 d]] w (Gives (.bool true) w) := by
  go_enter Tryd.func3, Tryd.ntmps3
  go_upto_region 1 with fail
  have A0 : two ((w.alloc (.cells #[.int .i64 a, .int .i64 b] 23)).alloc (.cells #[.int .i64 c, .int .i64 d] 23)) w.heap.size (.int .i64 a) (.int .i64 b) := two.alloc two.new
  have B0 : two ((w.alloc (.cells #[.int .i64 a, .int .i64 b] 23)).alloc (.cells #[.int .i64 c, .int .i64 d] 23)) (w.heap.size + 1) (.int .i64 c) (.int .i64 d) := new2
  go_region_held3 (fun w' => w'.cell? ⟨w.heap.size, 0, none⟩ = some (.int .i64 a) ∧ w'.cell? ⟨w.heap.size, 1, none⟩ = some (.int .i64 b) ∧ w'.cell? ⟨w.heap.size + 1, 0, none⟩ = some (.int .i64 c) ∧ w'.cell? ⟨w.heap.size + 1, 1, none⟩ = some (.int .i64 d)) (first | (with_reducible exact keep22 A6 B6) | (with_reducible exact keep22 A5 B5) | (with_reducible exact keep22 A4 B4) | (with_reducible exact keep22 A3 B3) | (with_reducible exact keep22 A2 B2) | (with_reducible exact keep22 A1 B1) | (with_reducible exact keep22 A0.drew B0.drew) | (with_reducible exact keep22 A0 B0) | (go_keep; done))
      (first
        | (go_at_call 12; refine (V1.out _).mono ?_; rintro e w1 ⟨rfl, hb1⟩; have A1 := two.on hb1 A0.drew; have B1 := two.on hb1 B0.drew)
        | (go_at_call 13; refine (V2.out _).mono ?_; rintro e w2 ⟨rfl, hb2⟩; have A2 := two.on hb2 A1; have B2 := two.on hb2 B1)
        | (go_at_call_of 14 (Value.agg #[.int .i64 a, .int .i64 b]); refine (T1.out _ (hE.below (by (repeat (first | (with_reducible exact Below.refl _ _) | (with_reducible assumption) | (with_reducible apply bl_alloc) | (with_reducible apply bl_drewN) | (with_reducible apply bl_drew) | (with_reducible refine bl_set ?_ (by first | (simp; done) | (simp; omega)) _) | (with_reducible refine bl_call ?_ (by assumption))))))).mono ?_; rintro e w3 ⟨rfl, hb3⟩; have A3 := two.on hb3 A2; have B3 := two.on hb3 B2)
        | (go_at_call_of 15 (Value.agg #[.int .i64 a, .int .i64 b]); refine (T2.out _).mono ?_; rintro e w4 ⟨rfl, hb4⟩; have A4 := two.on hb4 A3; have B4 := two.on hb4 B3)
        | (go_at_call_of 14 (Value.agg #[.int .i64 c, .int .i64 d]); refine (T3.out _ (hE.below (by (repeat (first | (with_reducible exact Below.refl _ _) | (with_reducible assumption) | (with_reducible apply bl_alloc) | (with_reducible apply bl_drewN) | (with_reducible apply bl_drew) | (with_reducible refine bl_set ?_ (by first | (simp; done) | (simp; omega)) _) | (with_reducible refine bl_call ?_ (by assumption))))))).mono ?_; rintro e w5 ⟨rfl, hb5⟩; have A5 := two.on hb5 A4; have B5 := two.on hb5 B4)
        | (go_at_call_of 15 (Value.agg #[.int .i64 c, .int .i64 d]); refine (T4.out _).mono ?_; rintro e w6 ⟨rfl, hb6⟩; have A6 := two.on hb6 A5; have B6 := two.on hb6 B5))
  all_goals
    obtain ⟨a0, a1, a2, a3, a4⟩ := A6
    have A6 : two _ _ _ _ := ⟨a0, a1, a2, a3, a4⟩
    obtain ⟨b0, b1, b2, b3, b4⟩ := B6
    have B6 : two _ _ _ _ := ⟨b0, b1, b2, b3, b4⟩
    go_upto_region 3 with fail
    go_cut [5] (PairBo w a b c d va vb)
    case first =>
      have hv : va = false ∨ (va = true ∧ vb = false) ∨ (va = true ∧ vb = true) := by cases va <;> cases vb <;> simp
      clear hc
      rcases hv with rfl | ⟨rfl, rfl⟩ | ⟨rfl, rfl⟩
      · go_wp2_with fail
        refine (V1.out _).mono ?_
        rintro e w7 ⟨rfl, hb7⟩
        have A7 := two.on hb7 A6
        have B7 := two.on hb7 B6
        clear a0 a1 a2 a3 a4 b0 b1 b2 b3 b4
        go_wp2_with fail
        go_meet
        exact ⟨false, rfl, Lib.hid rfl, A7, B7, by (repeat (first | (with_reducible exact Below.refl _ _) | (with_reducible assumption) | (with_reducible apply bl_alloc) | (with_reducible apply bl_drewN) | (with_reducible apply bl_drew) | (with_reducible refine bl_set ?_ (by first | (simp; done) | (simp; omega)) _) | (with_reducible refine bl_call ?_ (by assumption))))⟩
      all_goals
        go_wp2_with fail
        refine (V1.out _).mono ?_
        rintro e w7 ⟨rfl, hb7⟩
        have A7 := two.on hb7 A6
        have B7 := two.on hb7 B6
        clear a0 a1 a2 a3 a4 b0 b1 b2 b3 b4
        obtain ⟨b0, b1, b2, b3, b4⟩ := B7
        have B7 : two _ _ _ _ := ⟨b0, b1, b2, b3, b4⟩
        go_wp2_with fail
        refine (V3.out _).mono ?_
        rintro e w8 ⟨rfl, hb8⟩
        have A8 := two.on hb8 A7
        have B8 := two.on hb8 B7
        clear b0 b1 b2 b3 b4
        go_wp2_with fail
        go_meet
        exact ⟨_, rfl, Lib.hid rfl, A8, B8, by (repeat (first | (with_reducible exact Below.refl _ _) | (with_reducible assumption) | (with_reducible apply bl_alloc) | (with_reducible apply bl_drewN) | (with_reducible apply bl_drew) | (with_reducible refine bl_set ?_ (by first | (simp; done) | (simp; omega)) _) | (with_reducible refine bl_call ?_ (by assumption))))⟩
    case rest =>
      obtain ⟨bo, rfl, HB, A8, B8, BB⟩ := hcut
      rcases hc.out with rfl | ⟨rfl, rfl⟩ | ⟨rfl, rfl, rfl, rfl, h3⟩ | ⟨rfl, rfl, h1, h2⟩ | ⟨rfl, rfl, rfl, h2, h3⟩
      iterate 2
        · obtain rfl : bo = false := HB.out
          clear HB hc
          obtain ⟨a0, a1, a2, a3, a4⟩ := A8
          have A8 : two _ _ _ _ := ⟨a0, a1, a2, a3, a4⟩
          obtain ⟨b0, b1, b2, b3, b4⟩ := B8
          have B8 : two _ _ _ _ := ⟨b0, b1, b2, b3, b4⟩
          go_wp2_with fail
          clear V1 V2 V3 T1 T2 T3 T4
          refine wp_region_any (by kernel_rfl) ?_
          change wpAny _ _ _ _ _ _ _ (World.drew _)
          refine wpAny_take (i := 0) (v := ?_) rfl (by kernel_rfl) (by kernel_rfl) (by kernel_rfl) (fun _ _ _ h => h) (Or.inl ⟨by rfl, ?_⟩) ?_
          rotate_left 1
          · intro w'
            first | (go_simp; done) | (go_simp; with_reducible rfl)
          refine wpAny_take (i := 1) (v := ?_) rfl (by kernel_rfl) (by kernel_rfl) (by kernel_rfl) (fun _ _ _ h => h) (Or.inl ⟨by rfl, ?_⟩) ?_
          rotate_left 1
          · intro w'
            first | (go_simp; done) | (go_simp; with_reducible rfl)
          refine wpAny_take (i := 2) (v := ?_) rfl (by kernel_rfl) (by kernel_rfl) (by kernel_rfl) (fun _ _ _ h => h) (Or.inl ⟨by rfl, ?_⟩) ?_
          rotate_left 1
          · intro w'
            first | (go_simp; done) | (go_simp; with_reducible rfl)
          refine wpAny_take (i := 3) (v := undef) rfl (by kernel_rfl) (by kernel_rfl) (by kernel_rfl) (fun _ _ _ h => h) (Or.inr ⟨by kernel_rfl, rfl⟩) ?_
          refine wpAny_take (i := 4) (v := undef) rfl (by kernel_rfl) (by kernel_rfl) (by kernel_rfl) (fun _ _ _ h => h) (Or.inr ⟨by kernel_rfl, rfl⟩) ?_
          refine wpAny_take (i := 5) (v := undef) rfl (by kernel_rfl) (by kernel_rfl) (by kernel_rfl) (fun _ _ _ h => h) (Or.inr ⟨by kernel_rfl, rfl⟩) ?_
          refine wpAny_take (i := 6) (v := undef) rfl (by kernel_rfl) (by kernel_rfl) (by kernel_rfl) (fun _ _ _ h => h) (Or.inr ⟨by kernel_rfl, rfl⟩) ?_
          refine wpAny_take (i := 7) (v := undef) rfl (by kernel_rfl) (by kernel_rfl) (by kernel_rfl) (fun _ _ _ h => h) (Or.inr ⟨by kernel_rfl, rfl⟩) ?_
          refine wpAny_take (i := 8) (v := undef) rfl (by kernel_rfl) (by kernel_rfl) (by kernel_rfl) (fun _ _ _ h => h) (Or.inr ⟨by kernel_rfl, rfl⟩) ?_
          refine wpAny_take (i := 9) (v := undef) rfl (by kernel_rfl) (by kernel_rfl) (by kernel_rfl) (fun _ _ _ h => h) (Or.inr ⟨by kernel_rfl, rfl⟩) ?_
          refine wpAny_take (i := 10) (v := undef) rfl (by kernel_rfl) (by kernel_rfl) (by kernel_rfl) (fun _ _ _ h => h) (Or.inr ⟨by kernel_rfl, rfl⟩) ?_
          refine wpAny_take (i := 11) (v := undef) rfl (by kernel_rfl) (by kernel_rfl) (by kernel_rfl) (fun _ _ _ h => h) (Or.inr ⟨by kernel_rfl, rfl⟩) ?_
          refine wpAny_take (i := 12) (v := ?_) rfl (by kernel_rfl) (by kernel_rfl) (by kernel_rfl) (fun _ _ _ h => h) (Or.inl ⟨by rfl, ?_⟩) ?_
          rotate_left 1
          · intro w'
            first | (go_simp; done) | (go_simp; with_reducible rfl)
          refine wpAny_take (i := 13) (v := ?_) rfl (by kernel_rfl) (by kernel_rfl) (by kernel_rfl) (fun _ _ _ h => h) (Or.inl ⟨by rfl, ?_⟩) ?_
          rotate_left 1
          · intro w'
            first | (go_simp; done) | (go_simp; with_reducible rfl)
          refine wpAny_ready (rs := [14]) (by kernel_rfl) (by simp) ?_
          refine AllReady.cons rfl (fun K hK => ?_) ?_
          · go_simp
            go_wp2_with ((go_at_call 16; refine (awake_any _ (hE.below (by (repeat (first | (with_reducible exact Below.refl _ _) | (with_reducible assumption) | (with_reducible apply bl_alloc) | (with_reducible apply bl_drewN) | (with_reducible apply bl_drew) | (with_reducible refine bl_set ?_ (by first | (simp; done) | (simp; omega)) _) | (with_reducible refine bl_call ?_ (by assumption))))))).mono ?_; rintro e w11 ⟨rfl, hb11⟩))
            refine wpAny_take (i := 15) (v := ?_) rfl (by kernel_rfl) (by kernel_rfl) (by kernel_rfl) (fun _ _ _ h => h) (Or.inl ⟨by rfl, ?_⟩) ?_
            rotate_left 1
            · intro w'
              first | (go_simp; done) | (go_simp; with_reducible rfl)
            refine wpAny_take (i := 16) (v := ?_) rfl (by kernel_rfl) (by kernel_rfl) (by kernel_rfl) (fun _ _ _ h => h) (Or.inl ⟨by rfl, ?_⟩) ?_
            rotate_left 1
            · intro w'
              first | (go_simp; done) | (go_simp; with_reducible rfl)
            refine wpAny_done (by kernel_rfl) ?_ _
            go_wp2_with fail
            go_ret
            exact ⟨rfl, by (repeat (first | (with_reducible exact Below.refl _ _) | (with_reducible assumption) | (with_reducible apply bl_alloc) | (with_reducible apply bl_drewN) | (with_reducible apply bl_drew) | (with_reducible refine bl_set ?_ (by first | (simp; done) | (simp; omega)) _) | (with_reducible refine bl_call ?_ (by assumption))))⟩
          · exact AllReady.nil
      · obtain rfl : bo = true := HB.out
        clear HB hc
        obtain ⟨a0, a1, a2, a3, a4⟩ := A8
        have A8 : two _ _ _ _ := ⟨a0, a1, a2, a3, a4⟩
        obtain ⟨b0, b1, b2, b3, b4⟩ := B8
        have B8 : two _ _ _ _ := ⟨b0, b1, b2, b3, b4⟩
        go_wp2_with fail
        clear V1 V2 V3 T2 T4 a0 a1 a2 a3 a4 b0 b1 b2 b3 b4
        go_region_held3 (fun w' => w'.cell? ⟨w.heap.size, 0, none⟩ = some (.int .i64 a) ∧ w'.cell? ⟨w.heap.size, 1, none⟩ = some (.int .i64 b) ∧ w'.cell? ⟨w.heap.size + 1, 0, none⟩ = some (.int .i64 a) ∧ w'.cell? ⟨w.heap.size + 1, 1, none⟩ = some (.int .i64 b)) (first | (with_reducible exact keep22 A11 B11) | (with_reducible exact keep22 A10 B10) | (with_reducible exact keep22 A9 B9) | (with_reducible exact keep22 A8.drew B8.drew) | (with_reducible exact keep22 A8 B8) | (go_keep; done))
          (first
            | (go_at_call_of 14 (Value.agg #[.int .i64 a, .int .i64 b]); refine (T1.out _ (hE.below (by (repeat (first | (with_reducible exact Below.refl _ _) | (with_reducible assumption) | (with_reducible apply bl_alloc) | (with_reducible apply bl_drewN) | (with_reducible apply bl_drew) | (with_reducible refine bl_set ?_ (by first | (simp; done) | (simp; omega)) _) | (with_reducible refine bl_call ?_ (by assumption))))))).mono ?_; rintro e w9 ⟨rfl, hb9⟩; have A9 := two.on hb9 A8.drew; have B9 := two.on hb9 B8.drew)
            | (go_at_call_of 14 (Value.agg #[.int .i64 a, .int .i64 b]); refine (T3.out _ (hE.below (by (repeat (first | (with_reducible exact Below.refl _ _) | (with_reducible assumption) | (with_reducible apply bl_alloc) | (with_reducible apply bl_drewN) | (with_reducible apply bl_drew) | (with_reducible refine bl_set ?_ (by first | (simp; done) | (simp; omega)) _) | (with_reducible refine bl_call ?_ (by assumption))))))).mono ?_; rintro e w10 ⟨rfl, hb10⟩; have A10 := two.on hb10 A9; have B10 := two.on hb10 B9)
            | (go_at_call 16; refine (awake_any _ (hE.below (by (repeat (first | (with_reducible exact Below.refl _ _) | (with_reducible assumption) | (with_reducible apply bl_alloc) | (with_reducible apply bl_drewN) | (with_reducible apply bl_drew) | (with_reducible refine bl_set ?_ (by first | (simp; done) | (simp; omega)) _) | (with_reducible refine bl_call ?_ (by assumption))))))).mono ?_; rintro e w11 ⟨rfl, hb11⟩; have A11 := two.on hb11 A10; have B11 := two.on hb11 B10))
        all_goals
          go_wp2_with fail
          go_ret
          exact ⟨rfl, by (repeat (first | (with_reducible exact Below.refl _ _) | (with_reducible assumption) | (with_reducible apply bl_alloc) | (with_reducible apply bl_drewN) | (with_reducible apply bl_drew) | (with_reducible refine bl_set ?_ (by first | (simp; done) | (simp; omega)) _) | (with_reducible refine bl_call ?_ (by assumption))))⟩
      · obtain rfl : bo = true := HB.out
        clear HB hc
        obtain ⟨a0, a1, a2, a3, a4⟩ := A8
        have A8 : two _ _ _ _ := ⟨a0, a1, a2, a3, a4⟩
        obtain ⟨b0, b1, b2, b3, b4⟩ := B8
        have B8 : two _ _ _ _ := ⟨b0, b1, b2, b3, b4⟩
        go_wp2_with fail
        clear V1 V2 V3 T2 T4 a0 a1 a2 a3 a4 b0 b1 b2 b3 b4
        go_region_held3 (fun w' => w'.cell? ⟨w.heap.size, 0, none⟩ = some (.int .i64 a) ∧ w'.cell? ⟨w.heap.size, 1, none⟩ = some (.int .i64 b) ∧ w'.cell? ⟨w.heap.size + 1, 0, none⟩ = some (.int .i64 c) ∧ w'.cell? ⟨w.heap.size + 1, 1, none⟩ = some (.int .i64 d)) (first | (with_reducible exact keep22 A11 B11) | (with_reducible exact keep22 A10 B10) | (with_reducible exact keep22 A9 B9) | (with_reducible exact keep22 A8.drew B8.drew) | (with_reducible exact keep22 A8 B8) | (go_keep; done))
          (first
            | (go_at_call_of 14 (Value.agg #[.int .i64 a, .int .i64 b]); refine (T1.out _ (hE.below (by (repeat (first | (with_reducible exact Below.refl _ _) | (with_reducible assumption) | (with_reducible apply bl_alloc) | (with_reducible apply bl_drewN) | (with_reducible apply bl_drew) | (with_reducible refine bl_set ?_ (by first | (simp; done) | (simp; omega)) _) | (with_reducible refine bl_call ?_ (by assumption))))))).mono ?_; rintro e w9 ⟨rfl, hb9⟩; have A9 := two.on hb9 A8.drew; have B9 := two.on hb9 B8.drew)
            | (go_at_call_of 14 (Value.agg #[.int .i64 c, .int .i64 d]); refine (T3.out _ (hE.below (by (repeat (first | (with_reducible exact Below.refl _ _) | (with_reducible assumption) | (with_reducible apply bl_alloc) | (with_reducible apply bl_drewN) | (with_reducible apply bl_drew) | (with_reducible refine bl_set ?_ (by first | (simp; done) | (simp; omega)) _) | (with_reducible refine bl_call ?_ (by assumption))))))).mono ?_; rintro e w10 ⟨rfl, hb10⟩; have A10 := two.on hb10 A9; have B10 := two.on hb10 B9)
            | (go_at_call 16; refine (awake_any _ (hE.below (by (repeat (first | (with_reducible exact Below.refl _ _) | (with_reducible assumption) | (with_reducible apply bl_alloc) | (with_reducible apply bl_drewN) | (with_reducible apply bl_drew) | (with_reducible refine bl_set ?_ (by first | (simp; done) | (simp; omega)) _) | (with_reducible refine bl_call ?_ (by assumption))))))).mono ?_; rintro e w11 ⟨rfl, hb11⟩; have A11 := two.on hb11 A10; have B11 := two.on hb11 B10))
        all_goals
          go_wp2_with fail
          go_ret
          exact ⟨rfl, by (repeat (first | (with_reducible exact Below.refl _ _) | (with_reducible assumption) | (with_reducible apply bl_alloc) | (with_reducible apply bl_drewN) | (with_reducible apply bl_drew) | (with_reducible refine bl_set ?_ (by first | (simp; done) | (simp; omega)) _) | (with_reducible refine bl_call ?_ (by assumption))))⟩
      · obtain rfl : bo = true := HB.out
        clear HB hc
        obtain ⟨a0, a1, a2, a3, a4⟩ := A8
        have A8 : two _ _ _ _ := ⟨a0, a1, a2, a3, a4⟩
        obtain ⟨b0, b1, b2, b3, b4⟩ := B8
        have B8 : two _ _ _ _ := ⟨b0, b1, b2, b3, b4⟩
        go_wp2_with fail
        clear V1 V2 V3 T2 T4 a0 a1 a2 a3 a4 b0 b1 b2 b3 b4
        go_region_held3 (fun w' => w'.cell? ⟨w.heap.size, 0, none⟩ = some (.int .i64 a) ∧ w'.cell? ⟨w.heap.size, 1, none⟩ = some (.int .i64 b) ∧ w'.cell? ⟨w.heap.size + 1, 0, none⟩ = some (.int .i64 a) ∧ w'.cell? ⟨w.heap.size + 1, 1, none⟩ = some (.int .i64 d)) (first | (with_reducible exact keep22 A11 B11) | (with_reducible exact keep22 A10 B10) | (with_reducible exact keep22 A9 B9) | (with_reducible exact keep22 A8.drew B8.drew) | (with_reducible exact keep22 A8 B8) | (go_keep; done))
          (first
            | (go_at_call_of 14 (Value.agg #[.int .i64 a, .int .i64 b]); refine (T1.out _ (hE.below (by (repeat (first | (with_reducible exact Below.refl _ _) | (with_reducible assumption) | (with_reducible apply bl_alloc) | (with_reducible apply bl_drewN) | (with_reducible apply bl_drew) | (with_reducible refine bl_set ?_ (by first | (simp; done) | (simp; omega)) _) | (with_reducible refine bl_call ?_ (by assumption))))))).mono ?_; rintro e w9 ⟨rfl, hb9⟩; have A9 := two.on hb9 A8.drew; have B9 := two.on hb9 B8.drew)
            | (go_at_call_of 14 (Value.agg #[.int .i64 a, .int .i64 d]); refine (T3.out _ (hE.below (by (repeat (first | (with_reducible exact Below.refl _ _) | (with_reducible assumption) | (with_reducible apply bl_alloc) | (with_reducible apply bl_drewN) | (with_reducible apply bl_drew) | (with_reducible refine bl_set ?_ (by first | (simp; done) | (simp; omega)) _) | (with_reducible refine bl_call ?_ (by assumption))))))).mono ?_; rintro e w10 ⟨rfl, hb10⟩; have A10 := two.on hb10 A9; have B10 := two.on hb10 B9)
            | (go_at_call 16; refine (awake_any _ (hE.below (by (repeat (first | (with_reducible exact Below.refl _ _) | (with_reducible assumption) | (with_reducible apply bl_alloc) | (with_reducible apply bl_drewN) | (with_reducible apply bl_drew) | (with_reducible refine bl_set ?_ (by first | (simp; done) | (simp; omega)) _) | (with_reducible refine bl_call ?_ (by assumption))))))).mono ?_; rintro e w11 ⟨rfl, hb11⟩; have A11 := two.on hb11 A10; have B11 := two.on hb11 B10))
        all_goals
          go_wp2_with fail
          go_ret
          exact ⟨rfl, by (repeat (first | (with_reducible exact Below.refl _ _) | (with_reducible assumption) | (with_reducible apply bl_alloc) | (with_reducible apply bl_drewN) | (with_reducible apply bl_drew) | (with_reducible refine bl_set ?_ (by first | (simp; done) | (simp; omega)) _) | (with_reducible refine bl_call ?_ (by assumption))))⟩
end Go.Proofs.YteapicfobammjaaDoor
