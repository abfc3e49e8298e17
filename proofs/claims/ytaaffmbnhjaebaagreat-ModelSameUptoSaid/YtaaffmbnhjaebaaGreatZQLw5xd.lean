/-
  Parts of this proof: The law of Same.
-/
import Derived.Test.YtaaffmbnhjaebaaGreatZQLw1xacde
import Derived.Test.YtaaffmbnhjaebaaGreatZQRsaxd
set_option linter.unusedSimpArgs false
namespace Go.Proofs.YtaaffmbnhjaebaaGreat.Md
open Go.RowKit Go.Maps
open Go.Proofs.YtaaffmbnhjaebaaGreat.Ex (Lo Gives)
set_option maxHeartbeats 8000000
set_option linter.unusedVariables false
theorem zQLw5d_0 {p : Prop} (h : p := by
 intro w' hS'
 try dsimp only at hS'
 first | (go_simp; done) | (go_simp; with_reducible rfl)
 ) : p := h
theorem zQLw5d_1 {p : Prop} (h : p := by kernel_rfl) : p := h
theorem zQLw5d_2 {p : Prop} (h : p := by have h := Hw1.out; exact bl) : p := h
set_option maxRecDepth 100000 in
theorem modelSame_walk (x : Mdl) (P : PMdl) (y : Mdl) (Q : PMdl) (w : World) (hx : OMdl (Lo w.heap.size) w x P) (hf : Fit x) (hy : OMdl (Lo w.heap.size) w y Q) (hg : Fit y) : Calls Tryz.prog 6 #[.agg (cMdl x P), .agg (cMdl y Q)] w (Gives (.bool true) w) := by
 have HX := Lib.hid hx
 have HY := Lib.hid hy
 have FX := far2 (w := w) 26 26 (cMdl x P) (cMdl y Q)
 obtain ⟨n4, hn4⟩ : ∃ n : Nat, 4 = n := ⟨_, rfl⟩
 have hsz4 : ∀ w, (sizeOf 26).run Tryz.prog w = .ok n4 w := fun w => by rw [Tryz.sizeOf26, hn4]
 have HN4 := Lib.hid hn4
 have FM : Hid (∀ W, Below ((w.alloc (.cells (cMdl x P) 26)).alloc (.cells (cMdl y Q) 26)).heap.size ((w.alloc (.cells (cMdl x P) 26)).alloc (.cells (cMdl y Q) 26)) W → (loadCellsFrom ⟨w.heap.size, 0, none⟩ 0 n4 #[]).run Tryz.prog W = .ok (cMdl x P) W ∧ (loadCellsFrom ⟨w.heap.size + 1, 0, none⟩ 0 n4 #[]).run Tryz.prog W = .ok (cMdl y Q) W) := Lib.hid fun W hb => ⟨(FX.out W hb).1.cell.ldN (by rw [cMdl_size]; exact hn4), (FX.out W hb).2.cell.ldN (by rw [cMdl_size]; exact hn4)⟩
 obtain ⟨ld, le⟩ := FM.out ((w.alloc (.cells (cMdl x P) 26)).alloc (.cells (cMdl y Q) 26)) (Below.refl _ _)
 obtain ⟨la, hla⟩ : ∃ b, lightB x = b := ⟨_, rfl⟩
 obtain ⟨lb, hlb⟩ : ∃ b, lightB y = b := ⟨_, rfl⟩
 obtain ⟨v, hv⟩ : ∃ v, mdlE x = v := ⟨_, rfl⟩
 obtain ⟨u, hu⟩ : ∃ v, mdlE y = v := ⟨_, rfl⟩
 obtain ⟨s, hs⟩ : ∃ s, mdB x y = s := ⟨_, rfl⟩
 have CA := Lib.hid (fun W (hW : Below w.heap.size w W) => light_at hla W (HX.out.on hW) hf)
 have CB := Lib.hid (fun W (hW : Below w.heap.size w W) => light_at hlb W (HY.out.on hW) hg)
 have K1 := Lib.hid (fun W (hW : Below w.heap.size w W) => chkX_at hv W (HX.out.on hW) hf)
 have K2 := Lib.hid (fun W (hW : Below w.heap.size w W) => chkX_at hu W (HY.out.on hW) hg)
 have S1 := Lib.hid (fun W (hW : Below w.heap.size w W) => (show Calls Tryz.prog 23 #[.agg (cMdl x P), .agg (cMdl y Q)] W (Gives (.bool s) W) by rw [← hs]; exact same_Mdl_any x y P Q W (HX.out.on hW) (HY.out.on hW)))
 have S2 := Lib.hid (fun W (hW : Below w.heap.size w W) => (show Calls Tryz.prog 24 #[.agg (cMdl x P), .agg (cMdl y Q)] W (Gives (.bool s) W) by rw [← hs]; exact rsameM_any x y P Q W (HX.out.on hW) (HY.out.on hW)))
 have S3 := Lib.hid (fun W (hW : Below w.heap.size w W) => (show Calls Tryz.prog 23 #[.agg (cMdl y Q), .agg (cMdl x P)] W (Gives (.bool s) W) by rw [← hs, mdB_comm]; exact same_Mdl_any y x Q P W (HY.out.on hW) (HX.out.on hW)))
 have S4 := Lib.hid (fun W (hW : Below w.heap.size w W) => (show Calls Tryz.prog 23 #[.agg (cMdl x P), .agg (cMdl x P)] W (Gives (.bool true) W) by have h := same_Mdl_any x x P P W (HX.out.on hW) (HX.out.on hW); rwa [mdB_self] at h))
 have HE := Lib.hid (show s = true → u = v from fun h => by rw [h] at hs; rw [← hu, ← hv, (mdB_iff x y).1 hs])
 clear hx hf hy hg hn4 hla hlb hv hu hs
 cases la with
 | false =>
  go_enter Tryz.func6, Tryz.ntmps6
  go_wp2_with fail
  refine (CA.out _ bl).mono ?_
  rintro e w1 ⟨rfl, hb⟩
  have Hw1 : Hid (Below ((w.alloc (.cells (cMdl x P) 26)).alloc (.cells (cMdl y Q) 26)).heap.size ((w.alloc (.cells (cMdl x P) 26)).alloc (.cells (cMdl y Q) 26)) w1) := Lib.hid bl
  clear hb ld le
  obtain ⟨ld, le⟩ := FM.out w1 Hw1.out
  go_wp2_with fail
  refine (awake_any _).mono ?_
  rintro e wz ⟨rfl, hbz⟩
  go_wp2_with fail
  go_ret
  exact ⟨rfl, by have h := Hw1.out; exact bl⟩
 | true =>
  cases lb with
  | false =>
   go_enter Tryz.func6, Tryz.ntmps6
   go_wp2_with fail
   refine (CA.out _ bl).mono ?_
   rintro e w1 ⟨rfl, hb⟩
   have Hw1 : Hid (Below ((w.alloc (.cells (cMdl x P) 26)).alloc (.cells (cMdl y Q) 26)).heap.size ((w.alloc (.cells (cMdl x P) 26)).alloc (.cells (cMdl y Q) 26)) w1) := Lib.hid bl
   clear hb ld le
   obtain ⟨ld, le⟩ := FM.out w1 Hw1.out
   go_wp2_with fail
   refine (CB.out _ zQLw5d_2).mono ?_
   rintro e w2 ⟨rfl, hb⟩
   have Hw2 : Hid (Below ((w.alloc (.cells (cMdl x P) 26)).alloc (.cells (cMdl y Q) 26)).heap.size ((w.alloc (.cells (cMdl x P) 26)).alloc (.cells (cMdl y Q) 26)) w2) := Lib.hid zQLw5d_2
   clear hb ld le
   obtain ⟨ld, le⟩ := FM.out w2 Hw2.out
   go_wp2_with fail
   refine (awake_any _).mono ?_
   rintro e wz ⟨rfl, hbz⟩
   go_wp2_with fail
   go_ret
   exact ⟨rfl, by have h := Hw2.out; exact bl⟩
  | true =>
   cases s with
   | false =>
    go_enter Tryz.func6, Tryz.ntmps6
    go_wp2_with fail
    refine (CA.out _ bl).mono ?_
    rintro e w1 ⟨rfl, hb⟩
    have Hw1 : Hid (Below ((w.alloc (.cells (cMdl x P) 26)).alloc (.cells (cMdl y Q) 26)).heap.size ((w.alloc (.cells (cMdl x P) 26)).alloc (.cells (cMdl y Q) 26)) w1) := Lib.hid bl
    clear hb ld le
    obtain ⟨ld, le⟩ := FM.out w1 Hw1.out
    go_wp2_with fail
    refine (CB.out _ zQLw5d_2).mono ?_
    rintro e w2 ⟨rfl, hb⟩
    have Hw2 : Hid (Below ((w.alloc (.cells (cMdl x P) 26)).alloc (.cells (cMdl y Q) 26)).heap.size ((w.alloc (.cells (cMdl x P) 26)).alloc (.cells (cMdl y Q) 26)) w2) := Lib.hid zQLw5d_2
    clear hb ld le
    obtain ⟨ld, le⟩ := FM.out w2 Hw2.out
    go_wp2_with fail
    refine (S1.out _ (by have h := Hw2.out; exact bl)).mono ?_
    rintro e w3 ⟨rfl, hb⟩
    have Hw3 : Hid (Below ((w.alloc (.cells (cMdl x P) 26)).alloc (.cells (cMdl y Q) 26)).heap.size ((w.alloc (.cells (cMdl x P) 26)).alloc (.cells (cMdl y Q) 26)) w3) := Lib.hid (by have h := Hw2.out; exact bl)
    clear hb ld le
    obtain ⟨ld, le⟩ := FM.out w3 Hw3.out
    go_wp2_with fail
    refine (S2.out _ (by have h := Hw3.out; exact bl)).mono ?_
    rintro e w4 ⟨rfl, hb⟩
    have Hw4 : Hid (Below ((w.alloc (.cells (cMdl x P) 26)).alloc (.cells (cMdl y Q) 26)).heap.size ((w.alloc (.cells (cMdl x P) 26)).alloc (.cells (cMdl y Q) 26)) w4) := Lib.hid (by have h := Hw3.out; exact bl)
    clear hb ld le
    obtain ⟨ld, le⟩ := FM.out w4 Hw4.out
    go_wp2_with fail
    refine (S3.out _ (by have h := Hw4.out; exact bl)).mono ?_
    rintro e w5 ⟨rfl, hb⟩
    have Hw5 : Hid (Below ((w.alloc (.cells (cMdl x P) 26)).alloc (.cells (cMdl y Q) 26)).heap.size ((w.alloc (.cells (cMdl x P) 26)).alloc (.cells (cMdl y Q) 26)) w5) := Lib.hid (by have h := Hw4.out; exact bl)
    clear hb ld le
    obtain ⟨ld, le⟩ := FM.out w5 Hw5.out
    go_wp2_with fail
    refine (S4.out _ (by have h := Hw5.out; exact bl)).mono ?_
    rintro e w6 ⟨rfl, hb⟩
    have Hw6 : Hid (Below ((w.alloc (.cells (cMdl x P) 26)).alloc (.cells (cMdl y Q) 26)).heap.size ((w.alloc (.cells (cMdl x P) 26)).alloc (.cells (cMdl y Q) 26)) w6) := Lib.hid (by have h := Hw5.out; exact bl)
    clear hb ld le
    obtain ⟨ld, le⟩ := FM.out w6 Hw6.out
    go_wp2_with fail
    clear ld le
    refine wp_region_held_drew (S := (fun (W : World) => (loadCellsFrom ⟨w.heap.size, 0, none⟩ 0 n4 #[]).run Tryz.prog W = .ok (cMdl x P) W ∧ (loadCellsFrom ⟨w.heap.size + 1, 0, none⟩ 0 n4 #[]).run Tryz.prog W = .ok (cMdl y Q) W)) zQLw5d_1 (show ((fun (W : World) => (loadCellsFrom ⟨w.heap.size, 0, none⟩ 0 n4 #[]).run Tryz.prog W = .ok (cMdl x P) W ∧ (loadCellsFrom ⟨w.heap.size + 1, 0, none⟩ 0 n4 #[]).run Tryz.prog W = .ok (cMdl y Q) W)) _ from (FM.out _ (by have h := Hw6.out; exact bl))) (fun hHeld => ?_)
    refine wpAnyH_take (i := 0) (oi := { dst := some 36, op := Op.move (Operand.tmp 5), type := 4, pos := "law.go:108", after := #[], guard := none }) (v := ?_) rfl zQLw5d_1 zQLw5d_1 zQLw5d_1 (fun _ _ _ h => h) (Or.inl ⟨by rfl, ?_⟩) (by assumption) ?_
    rotate_left 1
    · exact zQLw5d_0
    try simp only [Act.put, sA, sB, sC]
    refine wpAnyH_take (i := 1) (oi := { dst := some 37, op := Op.unOp UnOp.not 4 (Operand.tmp 36), type := 4, pos := "law.go:108", after := #[{ on := 0, ground := Ground.data }], guard := none }) (v := ?_) rfl zQLw5d_1 zQLw5d_1 zQLw5d_1 (fun _ _ _ h => h) (Or.inl ⟨by rfl, ?_⟩) (by assumption) ?_
    rotate_left 1
    · exact zQLw5d_0
    try simp only [Act.put, sA, sB, sC]
    refine wpAnyH_take (i := 2) (oi := { dst := some 38, op := Op.move (Operand.tmp 37), type := 4, pos := "law.go:108", after := #[{ on := 1, ground := Ground.data }], guard := none }) (v := ?_) rfl zQLw5d_1 zQLw5d_1 zQLw5d_1 (fun _ _ _ h => h) (Or.inl ⟨by rfl, ?_⟩) (by assumption) ?_
    rotate_left 1
    · exact zQLw5d_0
    try simp only [Act.put, sA, sB, sC]
    refine wpAnyH_take (i := 3) (oi := { dst := some 39, op := Op.load 26 (Operand.tmp 2), type := 26, pos := "law.go:108", after := #[{ on := 2, ground := Ground.guard }], guard := some (2, false) }) (v := undef) rfl zQLw5d_1 zQLw5d_1 zQLw5d_1 (fun _ _ _ h => h) (Or.inr ⟨by kernel_rfl, rfl⟩) (by assumption) ?_
    try simp only [Act.put, sA, sB, sC]
    refine wpAnyH_take (i := 4) (oi := { dst := some 40, op := Op.call { callee := Callee.value (Operand.func 10), args := #[Operand.tmp 39], argTypes := #[26] }, type := 29, pos := "law.go:108", after := #[{ on := 3, ground := Ground.data }, { on := 2, ground := Ground.chain }, { on := 2, ground := Ground.guard }], guard := some (2, false) }) (v := undef) rfl zQLw5d_1 zQLw5d_1 zQLw5d_1 (fun _ _ _ h => h) (Or.inr ⟨by kernel_rfl, rfl⟩) (by assumption) ?_
    try simp only [Act.put, sA, sB, sC]
    refine wpAnyH_take (i := 5) (oi := { dst := some 41, op := Op.load 26 (Operand.tmp 3), type := 26, pos := "law.go:108", after := #[{ on := 2, ground := Ground.guard }], guard := some (2, false) }) (v := undef) rfl zQLw5d_1 zQLw5d_1 zQLw5d_1 (fun _ _ _ h => h) (Or.inr ⟨by kernel_rfl, rfl⟩) (by assumption) ?_
    try simp only [Act.put, sA, sB, sC]
    refine wpAnyH_take (i := 6) (oi := { dst := some 42, op := Op.call { callee := Callee.value (Operand.func 10), args := #[Operand.tmp 41], argTypes := #[26] }, type := 29, pos := "law.go:108", after := #[{ on := 5, ground := Ground.data }, { on := 4, ground := Ground.chain }, { on := 2, ground := Ground.guard }], guard := some (2, false) }) (v := undef) rfl zQLw5d_1 zQLw5d_1 zQLw5d_1 (fun _ _ _ h => h) (Or.inr ⟨by kernel_rfl, rfl⟩) (by assumption) ?_
    try simp only [Act.put, sA, sB, sC]
    refine wpAnyH_take (i := 7) (oi := { dst := some 43, op := Op.binOp BinOp.eql 29 (Operand.tmp 40) (Operand.tmp 42) 29, type := 4, pos := "law.go:108", after := #[{ on := 4, ground := Ground.data }, { on := 6, ground := Ground.data }, { on := 2, ground := Ground.guard }], guard := some (2, false) }) (v := undef) rfl zQLw5d_1 zQLw5d_1 zQLw5d_1 (fun _ _ _ h => h) (Or.inr ⟨by kernel_rfl, rfl⟩) (by assumption) ?_
    try simp only [Act.put, sA, sB, sC]
    refine wpAnyH_take (i := 8) (oi := { dst := some 44, op := Op.pick (Operand.tmp 38) (Operand.const (Value.bool true)) (Operand.tmp 43), type := 4, pos := "law.go:108", after := #[{ on := 2, ground := Ground.data }, { on := 7, ground := Ground.data }], guard := none }) (v := ?_) rfl zQLw5d_1 zQLw5d_1 zQLw5d_1 (fun _ _ _ h => h) (Or.inl ⟨by rfl, ?_⟩) (by assumption) ?_
    rotate_left 1
    · exact zQLw5d_0
    try simp only [Act.put, sA, sB, sC]
    refine wpAnyH_take (i := 9) (oi := { dst := some 45, op := Op.move (Operand.tmp 44), type := 4, pos := "law.go:108", after := #[{ on := 8, ground := Ground.data }, { on := 6, ground := Ground.chain }], guard := none }) (v := ?_) rfl zQLw5d_1 zQLw5d_1 zQLw5d_1 (fun _ _ _ h => h) (Or.inl ⟨by rfl, ?_⟩) (by assumption) ?_
    rotate_left 1
    · exact zQLw5d_0
    try simp only [Act.put, sA, sB, sC]
    refine wpAnyH_ready (rs := [10]) zQLw5d_1 (by simp) ?_
    refine AllReadyH.cons (o := { dst := some 46, op := Op.call { callee := Callee.value (Operand.func 9), args := #[], argTypes := #[] }, type := 4, pos := "law.go:108", after := #[{ on := 9, ground := Ground.chain }, { on := 9, ground := Ground.guard }], guard := some (9, true) }) rfl (fun K hK => ?_) ?_
    rotate_left 1
    · exact AllReadyH.nil
    go_simp
    refine (awake_any _).mono ?_
    rintro e wz ⟨rfl, hbz⟩
    clear hHeld
    refine hK.out _ _ (show ((fun (W : World) => (loadCellsFrom ⟨w.heap.size, 0, none⟩ 0 n4 #[]).run Tryz.prog W = .ok (cMdl x P) W ∧ (loadCellsFrom ⟨w.heap.size + 1, 0, none⟩ 0 n4 #[]).run Tryz.prog W = .ok (cMdl y Q) W)) _ from (FM.out _ (by have h := Hw6.out; exact bl))) (fun hHeld => ?_)
    clear hK K
    (try simp only [Act.put, sA, sB, sC])
    refine wpAnyH_take (i := 11) (oi := { dst := some 47, op := Op.pick (Operand.tmp 45) (Operand.tmp 46) (Operand.const (Value.bool false)), type := 4, pos := "law.go:108", after := #[{ on := 9, ground := Ground.data }, { on := 10, ground := Ground.data }], guard := none }) (v := ?_) rfl zQLw5d_1 zQLw5d_1 zQLw5d_1 (fun _ _ _ h => h) (Or.inl ⟨by rfl, ?_⟩) (by assumption) ?_
    rotate_left 1
    · exact zQLw5d_0
    try simp only [Act.put, sA, sB, sC]
    refine wpAnyH_take (i := 12) (oi := { dst := some 4, op := Op.assign (Operand.tmp 47), type := 4, pos := "law.go:108", after := #[{ on := 11, ground := Ground.data }, { on := 10, ground := Ground.chain }, { on := 0, ground := Ground.phase }, { on := 1, ground := Ground.phase }, { on := 2, ground := Ground.phase }, { on := 3, ground := Ground.phase }, { on := 4, ground := Ground.phase }, { on := 5, ground := Ground.phase }, { on := 6, ground := Ground.phase }, { on := 7, ground := Ground.phase }, { on := 8, ground := Ground.phase }, { on := 9, ground := Ground.phase }, { on := 10, ground := Ground.phase }, { on := 11, ground := Ground.phase }], guard := none }) (v := ?_) rfl zQLw5d_1 zQLw5d_1 zQLw5d_1 (fun _ _ _ h => h) (Or.inl ⟨by rfl, ?_⟩) (by assumption) ?_
    rotate_left 1
    · exact zQLw5d_0
    try simp only [Act.put, sA, sB, sC]
    refine wpAnyH_done zQLw5d_1 ?_ _
    try (refine NoPanic.normal ?_)
    go_wp2_with fail
    go_ret
    exact ⟨rfl, by have h := Hw6.out; exact bl⟩
   | true =>
    obtain rfl : u = v := HE.out rfl
    have t1 : (u == u) = true := beq_self_eq_true _
    go_enter Tryz.func6, Tryz.ntmps6
    go_wp2_with fail
    refine (CA.out _ bl).mono ?_
    rintro e w1 ⟨rfl, hb⟩
    have Hw1 : Hid (Below ((w.alloc (.cells (cMdl x P) 26)).alloc (.cells (cMdl y Q) 26)).heap.size ((w.alloc (.cells (cMdl x P) 26)).alloc (.cells (cMdl y Q) 26)) w1) := Lib.hid bl
    clear hb ld le
    obtain ⟨ld, le⟩ := FM.out w1 Hw1.out
    go_wp2_with fail
    refine (CB.out _ zQLw5d_2).mono ?_
    rintro e w2 ⟨rfl, hb⟩
    have Hw2 : Hid (Below ((w.alloc (.cells (cMdl x P) 26)).alloc (.cells (cMdl y Q) 26)).heap.size ((w.alloc (.cells (cMdl x P) 26)).alloc (.cells (cMdl y Q) 26)) w2) := Lib.hid zQLw5d_2
    clear hb ld le
    obtain ⟨ld, le⟩ := FM.out w2 Hw2.out
    go_wp2_with fail
    refine (S1.out _ (by have h := Hw2.out; exact bl)).mono ?_
    rintro e w3 ⟨rfl, hb⟩
    have Hw3 : Hid (Below ((w.alloc (.cells (cMdl x P) 26)).alloc (.cells (cMdl y Q) 26)).heap.size ((w.alloc (.cells (cMdl x P) 26)).alloc (.cells (cMdl y Q) 26)) w3) := Lib.hid (by have h := Hw2.out; exact bl)
    clear hb ld le
    obtain ⟨ld, le⟩ := FM.out w3 Hw3.out
    go_wp2_with fail
    refine (S2.out _ (by have h := Hw3.out; exact bl)).mono ?_
    rintro e w4 ⟨rfl, hb⟩
    have Hw4 : Hid (Below ((w.alloc (.cells (cMdl x P) 26)).alloc (.cells (cMdl y Q) 26)).heap.size ((w.alloc (.cells (cMdl x P) 26)).alloc (.cells (cMdl y Q) 26)) w4) := Lib.hid (by have h := Hw3.out; exact bl)
    clear hb ld le
    obtain ⟨ld, le⟩ := FM.out w4 Hw4.out
    go_wp2_with fail
    refine (S3.out _ (by have h := Hw4.out; exact bl)).mono ?_
    rintro e w5 ⟨rfl, hb⟩
    have Hw5 : Hid (Below ((w.alloc (.cells (cMdl x P) 26)).alloc (.cells (cMdl y Q) 26)).heap.size ((w.alloc (.cells (cMdl x P) 26)).alloc (.cells (cMdl y Q) 26)) w5) := Lib.hid (by have h := Hw4.out; exact bl)
    clear hb ld le
    obtain ⟨ld, le⟩ := FM.out w5 Hw5.out
    go_wp2_with fail
    refine (S4.out _ (by have h := Hw5.out; exact bl)).mono ?_
    rintro e w6 ⟨rfl, hb⟩
    have Hw6 : Hid (Below ((w.alloc (.cells (cMdl x P) 26)).alloc (.cells (cMdl y Q) 26)).heap.size ((w.alloc (.cells (cMdl x P) 26)).alloc (.cells (cMdl y Q) 26)) w6) := Lib.hid (by have h := Hw5.out; exact bl)
    clear hb ld le
    obtain ⟨ld, le⟩ := FM.out w6 Hw6.out
    go_wp2_with fail
    clear ld le
    go_region_held3 (fun (W : World) => (loadCellsFrom ⟨w.heap.size, 0, none⟩ 0 n4 #[]).run Tryz.prog W = .ok (cMdl x P) W ∧ (loadCellsFrom ⟨w.heap.size + 1, 0, none⟩ 0 n4 #[]).run Tryz.prog W = .ok (cMdl y Q) W) (first | (refine FM.out _ ?_; have h := Hw6.out; exact bl; done) | (go_keep; done)) (first
     | (have t := hb8; go_at_call 9; refine (awake_any _).mono ?_; rintro e w9 ⟨rfl, hb9⟩)
     | (have t := hb7; go_at_call 10; refine (K2.out _ (by have h := Hw6.out; exact bl)).mono ?_; rintro e w8 ⟨rfl, hb8⟩)
     | (go_at_call 10; refine (K1.out _ (by have h := Hw6.out; exact bl)).mono ?_; rintro e w7 ⟨rfl, hb7⟩))
    all_goals
     have H9 := Lib.hid hb9
     go_wp2_with fail
     go_ret
     exact ⟨rfl, by have h := Hw6.out; exact bl⟩
end Go.Proofs.YtaaffmbnhjaebaaGreat.Md
