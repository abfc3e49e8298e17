/-
  The contract of the library's Cut at a text of one byte.
-/
import Derived.Test.YtgepgdndhnoanaaNmBase
namespace Go.Proofs.Ytgepgdndhnoanaa.Na
open Go.RowKit
set_option maxHeartbeats 2000000
/-- The first point, or -1. -/
def dot (s : ByteArray) : Int := Lib.indexByte (bs s) 46
def pt : ByteArray := ⟨#[46]⟩
theorem dot_one {s : ByteArray} (h : bs s = [46]) : dot s = 0 := by unfold dot; rw [h]; rfl
set_option maxRecDepth 100000 in
theorem ibyte_any (s : ByteArray) (w : World) : Calls Try.prog 29 #[.string s, .int .u8 46] w fun e w' => e = .returned (.int .i64 (dot s)) ∧ w' = w := by
  have q := Lib.run_indexByteString (P := Try.prog) s 46 w
  obtain ⟨x, hx⟩ : ∃ x, Lib.indexByte s.data.toList (46 : Int).toNat.toUInt8 = x := ⟨_, rfl⟩
  have HX : Hid (x = dot s) := Lib.hid hx.symm
  rw [hx] at q
  clear hx
  go_enter Try.func29, Try.ntmps29
  go_wp2_with fail
  rw [run_callFunc_extern Try.func33 (by kernel_rfl) (by kernel_rfl) (by kernel_rfl) (e := Extern.BytealgIndexByte.indexByte) (by kernel_rfl), q]
  simp only [Result.andThen]
  rw [Oper.upon_value]
  go_wp2_with fail
  go_ret
  exact ⟨ret_int HX.out, rfl⟩
set_option maxRecDepth 100000 in
theorem sindex_any (s : ByteArray) (w : World) (hs : s.size ≤ 9223372036854775807) : Calls Try.prog 28 #[.string s, .string ⟨#[46]⟩] w fun e w' => e = .returned (.int .i64 (dot s)) ∧ w' = w := by
  have hs' : (s.size : Int) ≤ 9223372036854775807 := by omega
  by_cases h : bs s = [46]
  · have q : ([46] == s.toList) = true := by rw [Lib.toList_data]; exact beq_iff_eq.2 h.symm
    have HX := Lib.hid (dot_one h)
    go_enter Try.func28, Try.ntmps28
    go_wp2_with fail
    go_ret
    exact ⟨ret_int HX.out.symm, rfl⟩
  · have q : ([46] == s.toList) = false := by rw [Lib.toList_data]; exact beq_eq_false_iff_ne.2 fun g => h g.symm
    go_enter Try.func28, Try.ntmps28
    go_wp2_with fail
    refine (ibyte_any s w).mono ?_
    rintro e w1 ⟨rfl, rfl⟩
    go_wp2_with fail
    go_ret
    exact ⟨rfl, rfl⟩
def mt : ByteArray := ⟨#[]⟩
def cutV (s : ByteArray) : Value := if dot s = -1 then .tuple #[.string s, .string mt, .bool false] else .tuple #[.string (s.extract 0 (dot s).toNat), .string (s.extract ((dot s).toNat + 1) s.size), .bool true]
theorem dot_lt (s : ByteArray) : dot s < s.size := by
  unfold dot
  rw [← bs_len]
  generalize bs s = l
  induction l with
  | nil => decide
  | cons c t ih =>
    unfold Lib.indexByte
    rw [List.length_cons]
    split
    · omega
    · split <;> omega
theorem dot_ge (s : ByteArray) : -1 ≤ dot s := Lib.indexByte_ge _ _
set_option maxRecDepth 100000 in
theorem scut_any (s : ByteArray) (w : World) (hs : s.size ≤ 9223372036854775807) : Calls Try.prog 27 #[.string s, .string ⟨#[46]⟩] w (Gives (cutV s) w) := by
  have hs' : (s.size : Int) ≤ 9223372036854775807 := by omega
  have I1 := sindex_any s w hs
  have h1 := dot_lt s
  have h2 := dot_ge s
  have HV : Hid (cutV s = _) := Lib.hid (by unfold cutV; rfl)
  by_cases h : dot s = -1
  · rw [h] at I1
    have HV2 := HV.out
    rw [if_pos h] at HV2
    have HV3 := Lib.hid HV2
    clear HV HV2 h1 h2 h
    go_enter Try.func27, Try.ntmps27
    go_wp2_with fail
    refine I1.mono ?_
    rintro e w1 ⟨rfl, rfl⟩
    go_wp2_with fail
    go_ret3
    exact ⟨by rw [HV3.out]; rfl, Below.refl _ _⟩
  · obtain ⟨k, hk⟩ : ∃ k : Nat, dot s = (k : Int) := ⟨(dot s).toNat, by omega⟩
    rw [hk] at I1 h1
    have HV2 := HV.out
    rw [if_neg h, hk, Int.toNat_natCast] at HV2
    have HV3 := Lib.hid HV2
    have c1 : (0 : Int) ≤ (k : Int) := by omega
    have c2 : (k : Int) ≤ (s.size : Int) := by omega
    have c3 : (0 : Int) ≤ (k : Int) + 1 := by omega
    have c4 : (k : Int) + 1 ≤ (s.size : Int) := by omega
    clear HV HV2 h2 h hk
    go_enter Try.func27, Try.ntmps27
    go_wp2_with fail
    refine I1.mono ?_
    rintro e w1 ⟨rfl, rfl⟩
    go_wp2_with fail
    go_region
    all_goals
      go_wp2_with fail
      go_ret3
      exact ⟨by rw [HV3.out]; rfl, by (repeat (first | (with_reducible exact Below.refl _ _) | (with_reducible assumption) | (with_reducible apply bl_alloc) | (with_reducible apply bl_drewN) | (with_reducible apply bl_drew) | (with_reducible refine bl_set ?_ (by first | (simp; done) | (simp; omega)) _) | (with_reducible refine bl_call ?_ (by assumption))))⟩
set_option maxRecDepth 100000 in
theorem cut_any (s : ByteArray) (w : World) (hs : s.size ≤ 9223372036854775807) : ∃ a b o, cutV s = .tuple #[.string a, .string b, .bool o] ∧ Calls Try.prog 26 #[.string s, .string ⟨#[46]⟩] w (Gives (.tuple #[.string a, .string b, .bool o]) w) := by
  have I1 := scut_any s w hs
  obtain ⟨a, b, o, e⟩ : ∃ a b o, cutV s = .tuple #[.string a, .string b, .bool o] := by
    unfold cutV
    split
    · exact ⟨_, _, _, rfl⟩
    · exact ⟨_, _, _, rfl⟩
  refine ⟨a, b, o, e, ?_⟩
  rw [e] at I1
  clear e
  go_enter Try.func26, Try.ntmps26
  go_wp2_with fail
  refine I1.mono ?_
  rintro e w1 ⟨rfl, hb1⟩
  go_wp2_with fail
  go_ret3
  exact ⟨rfl, hb1⟩
end Go.Proofs.Ytgepgdndhnoanaa.Na
