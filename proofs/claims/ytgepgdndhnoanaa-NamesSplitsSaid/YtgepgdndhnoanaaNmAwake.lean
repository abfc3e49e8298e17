/-
  The chapter's examples.
-/
import Derived.Test.YtgepgdndhnoanaaNmSplit
import Derived.Test.YtgepgdndhnoanaaNmDist
namespace Go.Proofs.Ytgepgdndhnoanaa.Na
open Go.RowKit
set_option maxHeartbeats 4000000
theorem bs_app (a b : ByteArray) : bs (a ++ b) = bs a ++ bs b := by
  show (a ++ b).data.toList = _
  rw [ByteArray.data_append, Array.toList_append]
theorem cut_eq {s t : ByteArray} {a b : Nat} (h : ((bs s).drop a).take (b - a) = bs t) : s.extract a b = t := bs_inj (by rw [bs_cut, h])
theorem strs_nil {w : World} : Strs w none 0 [] := ⟨rfl, by omega, .inl rfl⟩
def sd : ByteArray := ⟨#[115, 104, 111, 112, 46, 100, 101, 115, 107]⟩
theorem spV_sd : spV ⟨#[115, 104, 111, 112, 46, 100, 101, 115, 107]⟩ = .tuple #[.string ⟨#[115, 104, 111, 112]⟩, .string ⟨#[100, 101, 115, 107]⟩, .bool true] := by
  have hd : dot sd = (4 : Nat) := by decide
  obtain ⟨eA, eB⟩ := cut_hit hd
  rw [cut_eq (s := sd) (a := 0) (b := 4) (t := ⟨#[115, 104, 111, 112]⟩) (by rfl)] at eA
  rw [cut_eq (s := sd) (a := 4 + 1) (b := sd.size) (t := ⟨#[100, 101, 115, 107]⟩) (by rfl)] at eB
  have := spV_yes (s := sd) (by rw [eA]; decide) (by rw [eB]; decide)
  rw [eA, eB] at this
  exact this
def abc : ByteArray := ⟨#[97, 46, 98, 46, 99]⟩
theorem spV_abc : spV ⟨#[97, 46, 98, 46, 99]⟩ = .tuple #[.string ⟨#[]⟩, .string ⟨#[]⟩, .bool false] := by
  have hd : dot abc = (1 : Nat) := by decide
  obtain ⟨eA, eB⟩ := cut_hit hd
  rw [cut_eq (s := abc) (a := 1 + 1) (b := abc.size) (t := ⟨#[98, 46, 99]⟩) (by rfl)] at eB
  exact spV_no2 (s := abc) (by rw [eB]; decide)
theorem join_sd : joinS ⟨#[115, 104, 111, 112]⟩ ⟨#[100, 101, 115, 107]⟩ = ⟨#[115, 104, 111, 112, 46, 100, 101, 115, 107]⟩ := bs_inj (by unfold joinS; rw [bs_app, bs_app]; rfl)
theorem split_at {s : ByteArray} {v : Value} (h : spV s = v) (hs : s.size ≤ 9223372036854775807) (w : World) : Calls Try.prog 18 #[.string s] w (Gives v w) := by rw [← h]; exact split_any s w hs
theorem join_at {a b c : ByteArray} (h : joinS a b = c) (hs : a.size + 1 + b.size ≤ 9223372036854775807) (w : World) : Calls Try.prog 17 #[.string a, .string b] w fun e w' => e = .returned (.string c) ∧ w' = w := by rw [← h]; exact join_any a b w hs
theorem find_at {p : Option Addr} {n c : Nat} {l : List ByteArray} {s : ByteArray} {x : Int} {w : World} (h : fst l s = x) (hb : Strs w p n l) : Calls Try.prog 14 #[.slice p n c, .string s] w fun e w' => e = .returned (.int .i64 x) ∧ w' = w := by rw [← h]; exact find_any p n c l s w hb
theorem dist_at {p : Option Addr} {n c : Nat} {l : List ByteArray} {x : Int} {w : World} (h : dst l = x) (hb : Strs w p n l) (hz : Hid (∀ x ∈ l, x.size ≤ 9223372036854775807)) (hm : n ≤ 1000) : Calls Try.prog 15 #[.slice p n c] w (Gives (.int .i64 x) w) := by rw [← h]; exact dist_any p n c l w hb hz hm
set_option maxRecDepth 100000 in
theorem awake_any (w : World) : Calls Try.prog 13 #[] w (Gives (.bool true) w) := by
  go_enter Try.func13, Try.ntmps13
  go_wp2_with fail
  refine (split_at spV_sd (by decide) w).mono ?_
  rintro e w1 ⟨rfl, hb1⟩
  go_wp2_with fail
  refine (split_at spV_abc (by decide) w1).mono ?_
  rintro e w2 ⟨rfl, hb2⟩
  have HB2 : Hid (Below w.heap.size w w2) := Lib.hid (by (repeat (first | (with_reducible exact Below.refl _ _) | (with_reducible assumption) | (with_reducible apply bl_alloc) | (with_reducible apply bl_drewN) | (with_reducible apply bl_drew) | (with_reducible refine bl_set ?_ (by first | (simp; done) | (simp; omega)) _) | (with_reducible refine bl_call ?_ (by assumption)))))
  clear hb1 hb2
  go_wp2_with fail
  refine (keyword_at (b := true) (by decide) w2).mono ?_
  rintro e w2 ⟨rfl, rfl⟩
  go_wp2_with fail
  refine (keyword_at (b := false) (by decide) w2).mono ?_
  rintro e w2 ⟨rfl, rfl⟩
  go_wp2_with fail
  refine (check_at (x := 0) (by decide) (by decide) w2).mono ?_
  rintro e w3 ⟨rfl, hb3⟩
  have HB3 : Hid (Below w.heap.size w w3) := Lib.hid (by have HBB := HB2.out; (repeat (first | (with_reducible exact Below.refl _ _) | (with_reducible assumption) | (with_reducible apply bl_alloc) | (with_reducible apply bl_drewN) | (with_reducible apply bl_drew) | (with_reducible refine bl_set ?_ (by first | (simp; done) | (simp; omega)) _) | (with_reducible refine bl_call ?_ (by assumption)))))
  clear hb3
  go_wp2_with fail
  refine (check_at (x := 3) (by decide) (by decide) w3).mono ?_
  rintro e w4 ⟨rfl, hb4⟩
  have HB4 : Hid (Below w.heap.size w w4) := Lib.hid (by have HBB := HB3.out; (repeat (first | (with_reducible exact Below.refl _ _) | (with_reducible assumption) | (with_reducible apply bl_alloc) | (with_reducible apply bl_drewN) | (with_reducible apply bl_drew) | (with_reducible refine bl_set ?_ (by first | (simp; done) | (simp; omega)) _) | (with_reducible refine bl_call ?_ (by assumption)))))
  clear hb4
  go_wp2_with fail
  refine (check_at (x := 3) (by decide) (by decide) w4).mono ?_
  rintro e w5 ⟨rfl, hb5⟩
  have HB5 : Hid (Below w.heap.size w w5) := Lib.hid (by have HBB := HB4.out; (repeat (first | (with_reducible exact Below.refl _ _) | (with_reducible assumption) | (with_reducible apply bl_alloc) | (with_reducible apply bl_drewN) | (with_reducible apply bl_drew) | (with_reducible refine bl_set ?_ (by first | (simp; done) | (simp; omega)) _) | (with_reducible refine bl_call ?_ (by assumption)))))
  clear hb5
  go_wp2_with fail
  have A1 : Strs (w5.alloc (.cells #[.string ⟨#[97]⟩, .string ⟨#[98]⟩, .string ⟨#[98]⟩] 9)) (some ⟨w5.heap.size, 0, none⟩) 3 [⟨#[97]⟩, ⟨#[98]⟩, ⟨#[98]⟩] := strs_lit rfl (by decide)
  refine (find_at (c := 3) (x := 1) (s := ⟨#[98]⟩) (by decide) A1).mono ?_
  rintro e w6 ⟨rfl, rfl⟩
  clear A1
  go_wp2_with fail
  refine (find_at (c := 0) (x := -1) (s := ⟨#[98]⟩) (by decide) strs_nil).mono ?_
  rintro e w6 ⟨rfl, rfl⟩
  have HB6 : Hid (Below w.heap.size w (w5.alloc (.cells #[.string ⟨#[97]⟩, .string ⟨#[98]⟩, .string ⟨#[98]⟩] 9))) := Lib.hid (by have HBB := HB5.out; (repeat (first | (with_reducible exact Below.refl _ _) | (with_reducible assumption) | (with_reducible apply bl_alloc) | (with_reducible apply bl_drewN) | (with_reducible apply bl_drew) | (with_reducible refine bl_set ?_ (by first | (simp; done) | (simp; omega)) _) | (with_reducible refine bl_call ?_ (by assumption)))))
  revert HB6
  generalize (w5.alloc (.cells #[.string ⟨#[97]⟩, .string ⟨#[98]⟩, .string ⟨#[98]⟩] 9)) = w6
  intro HB6
  go_wp2_with fail
  have A2 : Strs (w6.alloc (.cells #[.string ⟨#[97]⟩, .string ⟨#[98]⟩, .string ⟨#[97]⟩, .string ⟨#[104, 111, 108, 100]⟩] 9)) (some ⟨w6.heap.size, 0, none⟩) 4 [⟨#[97]⟩, ⟨#[98]⟩, ⟨#[97]⟩, ⟨#[104, 111, 108, 100]⟩] := strs_lit rfl (by decide)
  refine (dist_at (c := 4) (x := 4) (by decide) A2 (Lib.hid (by decide)) (by decide)).mono ?_
  rintro e w7 ⟨rfl, hb7⟩
  have HB7 : Hid (Below w.heap.size w w7) := Lib.hid (by have HBB := HB6.out; (repeat (first | (with_reducible exact Below.refl _ _) | (with_reducible assumption) | (with_reducible apply bl_alloc) | (with_reducible apply bl_drewN) | (with_reducible apply bl_drew) | (with_reducible refine bl_set ?_ (by first | (simp; done) | (simp; omega)) _) | (with_reducible refine bl_call ?_ (by assumption)))))
  clear A2 hb7
  go_wp2_with fail
  refine (join_at join_sd (by decide) w7).mono ?_
  rintro e w7 ⟨rfl, rfl⟩
  go_wp2_with fail
  go_ret
  exact ⟨rfl, HB7.out⟩
end Go.Proofs.Ytgepgdndhnoanaa.Na
