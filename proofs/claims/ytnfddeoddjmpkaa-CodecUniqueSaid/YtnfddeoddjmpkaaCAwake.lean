/-
  The chapter's examples; the test of sizes.
-/
import Derived.Test.YtnfddeoddjmpkaaCText
import Derived.Test.YtnfddeoddjmpkaaCInts
import Derived.Test.YtnfddeoddjmpkaaCSum
import Derived.Lib.SlBytesConst
namespace Go.Proofs.Ytnfddeoddjmpkaa.Co
open Go.RowKit
set_option maxHeartbeats 4000000
theorem byt_lit {w : World} {l : List UInt8} {cs : Array Value} {fr : Nat × Nat} (h : (bv l).toArray = cs) (hl : l.length ≤ 9223372036854775807) : Byt (w.alloc (.cells cs 5 fr)) (some ⟨w.heap.size, 0, none⟩) l.length l := by
  subst h
  refine ⟨rfl, hl, .inr ⟨_, _, rfl, by simp, Lib.hid fun i hi => ?_⟩⟩
  rw [World.cell?_alloc_mark, Nat.zero_add, List.getElem?_toArray]
  exact bv_get hi
theorem ints_lit {w : World} {l : List Int} {cs : Array Value} (h : (iv l).toArray = cs) (hl : l.length ≤ 9223372036854775807) : Ints (w.alloc (.cells cs 3)) (some ⟨w.heap.size, 0, none⟩) l.length l := by
  subst h
  refine ⟨rfl, hl, .inr ⟨_, _, rfl, by simp, Lib.hid fun i hi => ?_⟩⟩
  rw [World.cell?_alloc_mark, Nat.zero_add, List.getElem?_toArray]
  exact iv_get hi
theorem enc_300 : enc 300 = [216, 4] := by
  unfold enc
  rw [show numZ 300 = 600 from rfl, encN_great (by decide), encN_small (by decide)]; rfl
theorem enc_2 : enc 2 = [4] := by
  unfold enc
  rw [show numZ 2 = 4 from rfl, encN_small (by decide)]; rfl
theorem enc_m1 : enc (-1) = [1] := by
  unfold enc
  rw [show numZ (-1) = 1 from rfl, encN_small (by decide)]; rfl
theorem encI_ex : encI [300, -1] = [4, 216, 4, 1] := by
  show enc 2 ++ encL [300, -1] = _
  rw [encL_cons, encL_cons, encL_nil, enc_2, enc_300, enc_m1]; rfl
theorem dec_ex : dec [216, 4, 9] 0 0 = .good 600 2 := by kernel_rfl
theorem decT_ex : decT [4, 97, 98, 7] 2 = ⟨[97, 98], 3, 0⟩ := by kernel_rfl
theorem decI_ex : decI [4, 216, 4, 1] 2 = ⟨[300, -1], 4, 0⟩ := by kernel_rfl
theorem decI_ex2 : decI [4, 216, 4] 2 = ⟨[], 0, 7⟩ := by kernel_rfl
theorem sum_ex : sumC [49, 50, 51, 52, 53, 54, 55, 56, 57] = 3808858755 := by kernel_rfl
theorem conv_own {B : Nat} {w : World} {v : Value} {n : Nat} {l m : List UInt8} (h : w.ownsRow B 5 1 v n (bv l)) (e : l = m) (hn : n ≤ 9223372036854775807) : (convert 22 9 v).run Try.prog w = .ok (.string ⟨m.toArray⟩) w := by
  subst e
  obtain ⟨q, d, rfl, -, hq⟩ := byt_own h hn
  exact conv_byt hq
theorem byt_nil {w : World} : Byt w none 0 [] := ⟨rfl, by omega, .inl rfl⟩
set_option maxRecDepth 100000 in
theorem awake_any (w : World) : Calls Try.prog 11 #[] w (Gives (.bool true) w) := by
  go_enter Try.func11, Try.ntmps11
  go_wp2_with fail
  have A1 : Byt (w.alloc (.cells #[.int .u8 216, .int .u8 4, .int .u8 9] 5)) (some ⟨w.heap.size, 0, none⟩) 3 [216, 4, 9] := byt_lit rfl (by decide)
  have I1 : Calls Try.prog 18 #[.slice (some ⟨w.heap.size, 0, none⟩) 3 3] (w.alloc (.cells #[.int .u8 216, .int .u8 4, .int .u8 9] 5)) (Gives (.tuple #[.int .i64 300, .int .i64 2, .int .i64 0]) _) := int_any _ 3 3 _ (.good 600 2) _ A1 (Lib.hid dec_ex)
  refine I1.mono ?_
  rintro e w1 ⟨rfl, hb1⟩
  have hb01 : Below w.heap.size w w1 := by (repeat (first | (with_reducible exact Below.refl _ _) | (with_reducible assumption) | (with_reducible apply bl_alloc) | (with_reducible apply bl_drewN) | (with_reducible apply bl_drew) | (with_reducible refine bl_set ?_ (by first | (simp; done) | (simp; omega)) _) | (with_reducible refine bl_call ?_ (by assumption))))
  have HB1 := Lib.hid hb01
  clear A1 I1 hb1 hb01
  go_wp2_with fail
  have A2 : Byt (w1.alloc (.cells #[.int .u8 4, .int .u8 97, .int .u8 98, .int .u8 7] 5)) (some ⟨w1.heap.size, 0, none⟩) 4 [4, 97, 98, 7] := byt_lit rfl (by decide)
  have I2 := text_any _ 4 4 _ 2 _ A2 (by omega)
  rw [decT_ex] at I2
  change Calls _ _ _ _ (Gives (.tuple #[.string ⟨#[97, 98]⟩, .int .i64 3, .int .i64 0]) _) at I2
  refine I2.mono ?_
  rintro e w2 ⟨rfl, hb2⟩
  have HB2 : Hid (Below w.heap.size w w2) := Lib.hid (by have HBB := HB1.out; (repeat (first | (with_reducible exact Below.refl _ _) | (with_reducible assumption) | (with_reducible apply bl_alloc) | (with_reducible apply bl_drewN) | (with_reducible apply bl_drew) | (with_reducible refine bl_set ?_ (by first | (simp; done) | (simp; omega)) _) | (with_reducible refine bl_call ?_ (by assumption)))))
  clear A2 I2 hb2
  go_wp2_with fail
  have A3 : Byt (w2.alloc (.cells #[.int .u8 4, .int .u8 216, .int .u8 4, .int .u8 1] 5)) (some ⟨w2.heap.size, 0, none⟩) 4 [4, 216, 4, 1] := byt_lit rfl (by decide)
  have I3 := ints_any _ 4 4 _ 2 _ A3 (by omega) (Lib.hid (by omega))
  rw [decI_ex] at I3
  refine I3.mono ?_
  rintro e w3 ⟨v3, rfl, ho3, hb3⟩
  obtain ⟨q3, d3, rfl, -, hq3⟩ := ints_own (n := 2) ho3 (by omega)
  have HQ3 := Lib.hid hq3
  have HB3 : Hid (Below w.heap.size w w3) := Lib.hid (by have HBB := HB2.out; (repeat (first | (with_reducible exact Below.refl _ _) | (with_reducible assumption) | (with_reducible apply bl_alloc) | (with_reducible apply bl_drewN) | (with_reducible apply bl_drew) | (with_reducible refine bl_set ?_ (by first | (simp; done) | (simp; omega)) _) | (with_reducible refine bl_call ?_ (by assumption)))))
  clear A3 I3 hb3 ho3 hq3
  go_wp2_with fail
  have A4 : Byt (w3.alloc (.cells #[.int .u8 4, .int .u8 216, .int .u8 4] 5)) (some ⟨w3.heap.size, 0, none⟩) 3 [4, 216, 4] := byt_lit rfl (by decide)
  have I4 := ints_any _ 3 3 _ 2 _ A4 (by omega) (Lib.hid (by omega))
  rw [decI_ex2] at I4
  refine I4.mono ?_
  rintro e w4 ⟨v4, rfl, ho4, hb4⟩
  have HQ4 := Lib.hid (HQ3.out.alloc.on hb4)
  have HB4 : Hid (Below w.heap.size w w4) := Lib.hid (by have HBB := HB3.out; (repeat (first | (with_reducible exact Below.refl _ _) | (with_reducible assumption) | (with_reducible apply bl_alloc) | (with_reducible apply bl_drewN) | (with_reducible apply bl_drew) | (with_reducible refine bl_set ?_ (by first | (simp; done) | (simp; omega)) _) | (with_reducible refine bl_call ?_ (by assumption)))))
  clear A4 I4 hb4 ho4
  go_wp2_with fail
  refine (putint_any none 0 0 [] 300 _ byt_nil (Lib.hid (by omega)) (by omega) (by omega) (by omega)).mono ?_
  rintro e w5 ⟨v5, rfl, ho5, hb5⟩
  have c5 := conv_own ho5 enc_300 (by simp [enc_300])
  have HQ5 := Lib.hid (HQ4.out.on hb5)
  have HB5 : Hid (Below w.heap.size w w5) := Lib.hid (by have HBB := HB4.out; (repeat (first | (with_reducible exact Below.refl _ _) | (with_reducible assumption) | (with_reducible apply bl_alloc) | (with_reducible apply bl_drewN) | (with_reducible apply bl_drew) | (with_reducible refine bl_set ?_ (by first | (simp; done) | (simp; omega)) _) | (with_reducible refine bl_call ?_ (by assumption)))))
  clear hb5 ho5
  go_wp2_with fail
  have A6 : Ints (w5.alloc (.cells #[.int .i64 300, .int .i64 (-1)] 3)) (some ⟨w5.heap.size, 0, none⟩) 2 [300, -1] := ints_lit rfl (by decide)
  refine (putints_any none 0 0 [] (some ⟨w5.heap.size, 0, none⟩) 2 2 [300, -1] _ byt_nil A6 (Lib.hid (by omega)) (by omega) (Lib.hid (by intro x hx; simp at hx; unfold Fits; omega))).mono ?_
  rintro e w6 ⟨v6, rfl, ho6, hb6⟩
  have c6 := conv_own ho6 encI_ex (by simp [encI_ex])
  have HQ6 := Lib.hid (HQ5.out.alloc.on hb6)
  have HB6 : Hid (Below w.heap.size w w6) := Lib.hid (by have HBB := HB5.out; (repeat (first | (with_reducible exact Below.refl _ _) | (with_reducible assumption) | (with_reducible apply bl_alloc) | (with_reducible apply bl_drewN) | (with_reducible apply bl_drew) | (with_reducible refine bl_set ?_ (by first | (simp; done) | (simp; omega)) _) | (with_reducible refine bl_call ?_ (by assumption)))))
  clear hb6 ho6 A6
  go_wp2_with fail
  have A7 : Ints (w6.alloc (.cells #[.int .i64 300, .int .i64 (-1)] 3)) (some ⟨w6.heap.size, 0, none⟩) 2 [300, -1] := ints_lit rfl (by decide)
  have I7 := same_any q3 2 d3 _ _ 2 2 _ _ HQ6.out.alloc A7
  rw [decide_eq_true rfl] at I7
  refine I7.mono ?_
  rintro e w7 ⟨rfl, hb7⟩
  have HB7 : Hid (Below w.heap.size w w7) := Lib.hid (by have HBB := HB6.out; (repeat (first | (with_reducible exact Below.refl _ _) | (with_reducible assumption) | (with_reducible apply bl_alloc) | (with_reducible apply bl_drewN) | (with_reducible apply bl_drew) | (with_reducible refine bl_set ?_ (by first | (simp; done) | (simp; omega)) _) | (with_reducible refine bl_call ?_ (by assumption)))))
  clear hb7 A7 I7
  have cs := Lib.run_convert_bytes_const (P := Try.prog) w7 22 5 #[.int .u8 49, .int .u8 50, .int .u8 51, .int .u8 52, .int .u8 53, .int .u8 54, .int .u8 55, .int .u8 56, .int .u8 57] 9 9 Try.underlying22 Try.underlying5
  have A8 : Byt (w7.alloc (.cells #[.int .u8 49, .int .u8 50, .int .u8 51, .int .u8 52, .int .u8 53, .int .u8 54, .int .u8 55, .int .u8 56, .int .u8 57] 5 (9, 10))) (some ⟨w7.heap.size, 0, none⟩) 9 [49, 50, 51, 52, 53, 54, 55, 56, 57] := byt_lit rfl (by decide)
  have I8 := sum_any (some ⟨w7.heap.size, 0, none⟩) 9 9 _ _ A8
  rw [sum_ex] at I8
  change Calls _ _ _ _ (Gives (.int .i64 3808858755) _) at I8
  have HA8 := Lib.hid A8
  clear A8
  go_wp2_with fail
  refine I8.mono ?_
  rintro e w8 ⟨rfl, hb8⟩
  go_wp2_with fail
  go_ret
  exact ⟨rfl, by have HBB := HB7.out; (repeat (first | (with_reducible exact Below.refl _ _) | (with_reducible assumption) | (with_reducible apply bl_alloc) | (with_reducible apply bl_drewN) | (with_reducible apply bl_drew) | (with_reducible refine bl_set ?_ (by first | (simp; done) | (simp; omega)) _) | (with_reducible refine bl_call ?_ (by assumption))))⟩
end Go.Proofs.Ytnfddeoddjmpkaa.Co
