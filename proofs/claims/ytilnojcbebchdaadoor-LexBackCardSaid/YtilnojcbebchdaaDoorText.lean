/-
  The contracts of Text and Parse of package num: the decimal numeral, and the number in bounds that has the text, if there is one.
-/
import Derived.Test.YtilnojcbebchdaaDoorPlain
import Derived.Test.YtilnojcbebchdaaDoorNum
import Derived.Test.YtilnojcbebchdaaDoorShelf
namespace Go.Proofs.YtilnojcbebchdaaDoor
open Go.RowKit
set_option maxHeartbeats 400000
/-- What the library's variables hold, as far as the calls below read them. -/
structure Env (w : World) : Prop where
  zTab : 3 < w.heap.size
  zRng : 2 < w.heap.size
  zSyn : 1 < w.heap.size
  tab : Lib.TabIs Tryd.prog w "internal/strconv.uint64pow10" .u64 Lib.pow10Tab
  syn : ∃ tp p, w.var? Tryd.prog "strconv.ErrSyntax" = some #[.iface tp p]
  rng : ∃ tp p, w.var? Tryd.prog "strconv.ErrRange" = some #[.iface tp p]
theorem Env.below {w w' : World} (h : Env w) (hb : Below w.heap.size w w') : Env w' := by
  obtain ⟨tp, p, h1⟩ := h.syn
  obtain ⟨tq, q, h2⟩ := h.rng
  exact ⟨Nat.lt_of_lt_of_le h.zTab hb.size, Nat.lt_of_lt_of_le h.zRng hb.size, Nat.lt_of_lt_of_le h.zSyn hb.size, var?_below hb (by kernel_rfl) h.zTab h.tab,
    ⟨tp, p, var?_below hb (by kernel_rfl) h.zSyn h1⟩, ⟨tq, q, var?_below hb (by kernel_rfl) h.zRng h2⟩⟩
theorem grow_below (w : World) (k : Nat) (os : Array Obj) : Below w.heap.size w (Sort.grow (w.drewN k) os) :=
  ⟨rfl, rfl, rfl, by rw [Sort.size_grow]; exact Nat.le_add_right _ _, fun j hj => Sort.heap_grow_old (w.drewN k) os hj⟩
def num (v : Int) : ByteArray := ⟨(Lib.itoa v).toArray⟩
theorem num_list (v : Int) : (num v).data.toList = Lib.itoa v := rfl
theorem itoa_any (n : Int) (h0 : -9223372036854775808 ≤ n) (h1 : n ≤ 9223372036854775807) (w : World) (hE : Env w) :
    Calls Tryd.prog 63 #[.int .i64 n] w fun e w' => e = .returned (.string (num n)) ∧ Below w.heap.size w w' :=
  (show Calls Tryd.prog 63 #[.int .i64 n] w fun e w' => e = .returned (.string (num n)) ∧ ∃ k os, w' = Sort.grow (w.drewN k) os from Any.strconv_Itoa Tryd.laysM171 n h0 h1 w hE.tab).mono
    fun _ _ ⟨he, k, os, hw⟩ => ⟨he, by rw [hw]; exact grow_below w k os⟩
theorem text_any (n : Int) (h0 : -9223372036854775808 ≤ n) (h1 : n ≤ 9223372036854775807) (w : World) (hE : Env w) :
    Calls Tryd.prog 51 #[.int .i64 n] w fun e w' => e = .returned (.string (num n)) ∧ Below w.heap.size w w' := by
  go_enter Tryd.func51, Tryd.ntmps51
  go_wp2_with (go_at_call 63; refine (itoa_any n h0 h1 _ hE).mono ?_; rintro e w' ⟨rfl, hb⟩)
  go_ret
  exact ⟨rfl, hb⟩
def AtoiOk (v : Int) (w : World) (e : Ending) (w' : World) : Prop := e = .returned (.tuple #[.int .i64 v, .nilIface]) ∧ Below w.heap.size w w'
def AtoiBad (w : World) (e : Ending) (w' : World) : Prop := ∃ v : Int, ∃ M : Nat, e = .returned (.tuple #[.int .i64 v, .iface 88 (.pointer (some ⟨M, 0, none⟩))]) ∧ Below w.heap.size w w'
theorem atoi_ok (s : ByteArray) (hs : s.size ≤ 140737488355328) (v : Int) (h : Lib.atoiAll s.data.toList = .ok v) (w : World) :
    Calls Tryd.prog 52 #[.string s] w (AtoiOk v w) :=
  (show Calls Tryd.prog 52 #[.string s] w fun e w' => e = .returned (.tuple #[.int .i64 v, .nilIface]) ∧ (w' = w ∨ ∃ t, w' = Lib.bytesWorld w 5 t) from Any.strconv_Atoi_ok Tryd.laysC172 s (by omega) v h w).mono
    fun _ _ ⟨he, hw⟩ => ⟨he, by rcases hw with rfl | ⟨t, rfl⟩; exact Below.refl _ _; exact Lib.bytesWorld_below _ _ _⟩
theorem atoi_bad (s : ByteArray) (hs : s.size ≤ 140737488355328) (h : ∀ v, Lib.atoiAll s.data.toList ≠ .ok v) (w : World) (hE : Env w) :
    Calls Tryd.prog 52 #[.string s] w (AtoiBad w) := by
  cases hr : Lib.atoiAll s.data.toList
  · exact absurd hr (h _)
  · obtain ⟨tp, p, hv⟩ := hE.syn
    exact (Any.strconv_Atoi_syntax_var Tryd.laysC172 s (by omega) hr tp p w hv).mono fun _ _ ⟨N, he, _, _, hb⟩ => ⟨_, N, he, hb⟩
  · obtain ⟨tp, p, hv⟩ := hE.rng
    exact (Any.strconv_Atoi_range_var Tryd.laysC172 s (by omega) hr tp p w hv).mono fun _ _ ⟨N, he, _, _, hb⟩ => ⟨_, N, he, hb⟩
theorem num_size (v : Int) (h0 : -1000000000000 ≤ v) (h1 : v ≤ 1000000000000) : (num v).size ≤ 14 := by
  have := itoa_length v h0 h1
  show (Lib.itoa v).toArray.size ≤ 14
  simpa using this
theorem parse_yes (v : Int) (h0 : -1000000000000 ≤ v) (h1 : v ≤ 1000000000000) (w : World) (hE : Env w) :
    Calls Tryd.prog 37 #[.string (num v)] w fun e w' => e = .returned (.tuple #[.int .i64 v, .bool true]) ∧ Below w.heap.size w w' := by
  have hi := inB_yes h0 h1
  go_enter Tryd.func37, Tryd.ntmps37
  go_wp2_with fail
  refine (atoi_ok _ (by have := num_size v h0 h1; omega) v (by rw [num_list]; exact atoi_itoa v (by omega) (by omega)) _).mono ?_
  rintro e w1 ⟨rfl, hb1⟩
  go_wp2_with (first | (go_at_call 53; refine (in_any _ _).mono ?_; rintro e w' ⟨rfl, rfl⟩) | (go_at_call 51; refine (text_any _ (by omega) (by omega) _ (hE.below hb1)).mono ?_; rintro e w2 ⟨rfl, hb2⟩))
  go_ret2
  exact ⟨rfl, hb1.trans (hb2.mono hb1.size)⟩
theorem toList_ne {a b : ByteArray} (h : a ≠ b) : (a.toList == b.toList) = false := by
  rw [beq_eq_false_iff_ne, Lib.toList_data, Lib.toList_data]
  exact fun e => h (WideShapes.bytes_inj e)
theorem parse_no (s : ByteArray) (hs : s.size ≤ 140737488355328) (h : ∀ v, inB v = true → num v ≠ s) (w : World) (hE : Env w) :
    Calls Tryd.prog 37 #[.string s] w fun e w' => e = .returned (.tuple #[.int .i64 0, .bool false]) ∧ Below w.heap.size w w' := by
  by_cases hv : ∃ v, Lib.atoiAll s.data.toList = .ok v
  · obtain ⟨v, hv⟩ := hv
    cases hi : inB v
    · have Hi := Lib.hid hi
      clear hi
      go_enter Tryd.func37, Tryd.ntmps37
      go_wp2_with fail
      refine (atoi_ok _ hs v hv _).mono ?_
      rintro e w1 ⟨rfl, hb1⟩
      go_wp2_with (go_at_call 53; refine (in_any _ _).mono ?_; rintro e w' ⟨rfl, rfl⟩; rw [Hi.out])
      go_ret2
      exact ⟨rfl, hb1⟩
    · obtain ⟨h0, h1⟩ := inB_true hi
      have hne : ((num v).toList == s.toList) = false := toList_ne (h v hi)
      go_enter Tryd.func37, Tryd.ntmps37
      go_wp2_with fail
      refine (atoi_ok _ hs v hv _).mono ?_
      rintro e w1 ⟨rfl, hb1⟩
      go_wp2_with (first | (go_at_call 53; refine (in_any _ _).mono ?_; rintro e w' ⟨rfl, rfl⟩) | (go_at_call 51; refine (text_any _ (by omega) (by omega) _ (hE.below hb1)).mono ?_; rintro e w2 ⟨rfl, hb2⟩))
      go_ret2
      exact ⟨rfl, hb1.trans (hb2.mono hb1.size)⟩
  · go_enter Tryd.func37, Tryd.ntmps37
    go_wp2_with fail
    refine (atoi_bad _ hs (fun v e => hv ⟨v, e⟩) _ hE).mono ?_
    rintro e w1 ⟨_, _, rfl, hb1⟩
    go_wp2_with fail
    go_ret2
    exact ⟨rfl, hb1⟩
end Go.Proofs.YtilnojcbebchdaaDoor
