/-
  Parts of a slice of bytes; the contracts of Text, of the library and of the reference.
-/
import Derived.Test.YtnfddeoddjmpkaaCLen
import Derived.Laws.IdiomStrings
namespace Go.Proofs.Ytnfddeoddjmpkaa.Co
open Go.RowKit
set_option maxHeartbeats 2000000
theorem u8_siz (w : World) : (Go.sizeOf 5).run Try.prog w = .ok 1 w := by
  obtain ⟨i0, hi0, -, hz1, -⟩ := parts_of u8_info
  simp [sizeOf, typeInfo, hi0, hz1]
/-- Where b[k:] begins: at the slice's own head where nothing of its capacity is left. -/
def cut (b o c k : Nat) : Addr := if c = k then ⟨b, o, none⟩ else ⟨b, o + k, none⟩
theorem slice_l (b o n c k : Nat) (hk : k ≤ n) (W : World) : (Instr.slice 22 (.slice (some ⟨b, o, none⟩) n c) (some (.int .i64 (k : Int))) none none).run Try.prog W = .ok (.slice (some (cut b o c k)) (n - k) (c - k)) W := by
  have ht' : Try.prog.underlying 22 = some (.slice (Try.prog.elem 22)) := by simp [Program.elem, Try.underlying22]
  have he : Try.prog.elem 22 = 5 := by simp [Program.elem, Try.underlying22]
  rw [run_slice_l W _ _ _ _ ht' .i64 _ (by omega) (by omega), he, u8_siz]
  unfold cut
  by_cases h0 : c = k
  · simp [Result.andThen, sliced, h0]
  · simp [Result.andThen, sliced, add_off, h0]
theorem slice_lh (b o n c k h : Nat) (hk : k ≤ h) (hc : h ≤ c) (W : World) : (Instr.slice 22 (.slice (some ⟨b, o, none⟩) n c) (some (.int .i64 (k : Int))) (some (.int .i64 (h : Int))) none).run Try.prog W = .ok (.slice (some (cut b o c k)) (h - k) (c - k)) W := by
  have ht' : Try.prog.underlying 22 = some (.slice (Try.prog.elem 22)) := by simp [Program.elem, Try.underlying22]
  have he : Try.prog.elem 22 = 5 := by simp [Program.elem, Try.underlying22]
  rw [run_slice_lh W _ _ _ _ ht' .i64 .i64 _ _ (by omega) (by omega) (by omega), he, u8_siz]
  unfold cut
  by_cases h0 : c = k
  · simp [Result.andThen, sliced, h0]
  · simp [Result.andThen, sliced, add_off, h0]
theorem Byt.cut {w : World} {b o n c k : Nat} {l : List UInt8} (h : Byt w (some ⟨b, o, none⟩) n l) (hk : k ≤ n) (hc : n ≤ c) : Byt w (some (cut b o c k)) (n - k) (l.drop k) := by
  obtain ⟨h0, hl, h1⟩ := h
  refine ⟨by rw [List.length_drop, h0], by omega, ?_⟩
  by_cases e : n - k = 0
  · exact .inl e
  · rcases h1 with h1 | ⟨b', o', he, hb, hcell⟩
    · omega
    · cases he
      refine .inr ⟨b, o + k, by unfold Co.cut; rw [if_neg (by omega)], hb, Lib.hid fun i hi => ?_⟩
      rw [List.length_drop] at hi
      rw [Nat.add_assoc, hcell.out (k + i) (by omega), List.getElem_drop]
theorem Byt.take {w : World} {p : Option Addr} {n m : Nat} {l : List UInt8} (h : Byt w p n l) (hm : m ≤ n) : Byt w p m (l.take m) := by
  obtain ⟨h0, hl, h1⟩ := h
  refine ⟨by rw [List.length_take]; omega, by omega, ?_⟩
  by_cases e : m = 0
  · exact .inl e
  · rcases h1 with h1 | ⟨b', o', he, hb, hcell⟩
    · omega
    · refine .inr ⟨b', o', he, hb, Lib.hid fun i hi => ?_⟩
      rw [List.length_take] at hi
      rw [hcell.out i (by omega), List.getElem_take]
def str (l : List UInt8) : Value := .string ⟨l.toArray⟩
theorem conv_byt {w : World} {p : Option Addr} {n c : Nat} {l : List UInt8} (h : Byt w p n l) : (convert 22 9 (.slice p n c)).run Try.prog w = .ok (str l) w := by
  rcases p with - | a
  · have hz : n = 0 := by
      rcases h.2.2 with h | ⟨b, o, h, -⟩
      · exact h
      · cases h
    subst hz
    obtain rfl : l = [] := List.eq_nil_of_length_eq_zero h.1
    rw [run_convert_bytes_string w _ _ 5 _ _ _ Try.underlying22 Try.underlying5 Try.underlying9]
    simp [Conv.bytesToString, str]
    rfl
  · have hl := h.1
    subst hl
    refine run_convert_bytes_back w _ _ 5 a c l Try.underlying22 Try.underlying5 Try.underlying9 fun j hj => ?_
    rcases h.2.2 with h0 | ⟨b, o, he, -, hc⟩
    · omega
    · cases he
      rw [add_off]
      exact hc.out j hj
theorem text_ret {l : List UInt8} {V : Value} {k m : Nat} (h : str l = V) : Ending.returned (.tuple #[V, .int .i64 ((k : Int) + (m : Int)), .int .i64 0]) = .returned (.tuple #[str (TextR.mk l (k + m) 0).s, .int .i64 ((TextR.mk l (k + m) 0).k : Nat), .int .i64 ((TextR.mk l (k + m) 0).e : Nat)]) := by
  subst h
  show _ = Ending.returned (.tuple #[str l, .int .i64 ((k + m : Nat) : Int), .int .i64 0])
  rw [Int.natCast_add]
theorem text_any (p : Option Addr) (n c : Nat) (l : List UInt8) (most : Int) (w : World) (hb : Byt w p n l) (hc : n ≤ c) : Calls Try.prog 20 #[.slice p n c, .int .i64 most] w (Gives (.tuple #[str (decT l most).s, .int .i64 ((decT l most).k : Nat), .int .i64 ((decT l most).e : Nat)]) w) := by
  rcases decL_cases l most with hx | hx | hx | ⟨m, k, hx, hm, hk1, hk2, hk3⟩
  · have I : Calls Try.prog 32 #[.slice p n c, .int .i64 most] w (Gives (.tuple #[.int .i64 0, .int .i64 0, .int .i64 6]) w) := (by have := length_any p n c l most w hb; rw [hx] at this; exact this)
    have HR := Lib.hid (decT_bad hx)
    clear hx hb
    go_enter Try.func20, Try.ntmps20
    go_wp2_with fail
    refine I.mono ?_
    rintro e w1 ⟨rfl, hb1⟩
    go_wp2_with fail
    go_ret3
    exact ⟨by rw [HR.out]; rfl, by (repeat (first | (with_reducible exact Below.refl _ _) | (with_reducible assumption) | (with_reducible apply bl_alloc) | (with_reducible apply bl_drewN) | (with_reducible apply bl_drew) | (with_reducible refine bl_set ?_ (by first | (simp; done) | (simp; omega)) _) | (with_reducible refine bl_call ?_ (by assumption))))⟩
  · have I : Calls Try.prog 32 #[.slice p n c, .int .i64 most] w (Gives (.tuple #[.int .i64 0, .int .i64 0, .int .i64 7]) w) := (by have := length_any p n c l most w hb; rw [hx] at this; exact this)
    have HR := Lib.hid (decT_bad hx)
    clear hx hb
    go_enter Try.func20, Try.ntmps20
    go_wp2_with fail
    refine I.mono ?_
    rintro e w1 ⟨rfl, hb1⟩
    go_wp2_with fail
    go_ret3
    exact ⟨by rw [HR.out]; rfl, by (repeat (first | (with_reducible exact Below.refl _ _) | (with_reducible assumption) | (with_reducible apply bl_alloc) | (with_reducible apply bl_drewN) | (with_reducible apply bl_drew) | (with_reducible refine bl_set ?_ (by first | (simp; done) | (simp; omega)) _) | (with_reducible refine bl_call ?_ (by assumption))))⟩
  · have I : Calls Try.prog 32 #[.slice p n c, .int .i64 most] w (Gives (.tuple #[.int .i64 0, .int .i64 0, .int .i64 8]) w) := (by have := length_any p n c l most w hb; rw [hx] at this; exact this)
    have HR := Lib.hid (decT_bad hx)
    clear hx hb
    go_enter Try.func20, Try.ntmps20
    go_wp2_with fail
    refine I.mono ?_
    rintro e w1 ⟨rfl, hb1⟩
    go_wp2_with fail
    go_ret3
    exact ⟨by rw [HR.out]; rfl, by (repeat (first | (with_reducible exact Below.refl _ _) | (with_reducible assumption) | (with_reducible apply bl_alloc) | (with_reducible apply bl_drewN) | (with_reducible apply bl_drew) | (with_reducible refine bl_set ?_ (by first | (simp; done) | (simp; omega)) _) | (with_reducible refine bl_call ?_ (by assumption))))⟩
  · have I : Calls Try.prog 32 #[.slice p n c, .int .i64 most] w (Gives (.tuple #[.int .i64 (m : Nat), .int .i64 (k : Nat), .int .i64 0]) w) := (by have := length_any p n c l most w hb; rw [hx] at this; exact this)
    have hl := hb.1
    have hn := hb.2.1
    obtain ⟨b, o, rfl⟩ : ∃ b o, p = some ⟨b, o, none⟩ := (by rcases hb.2.2 with h | ⟨b, o, h, -⟩; (· omega); (· exact ⟨b, o, h⟩))
    have s0 : (0 : Int) ≤ (n : Int) - (k : Int) := (by omega)
    have s1 : (n : Int) ≤ 9223372036854775807 := (by omega)
    have s2 : (m : Int) ≤ 9223372036854775807 := (by omega)
    by_cases hs : l.length - k < m
    · have HR := Lib.hid (decT_short hx hs)
      have t1 : decide ((n : Int) - (k : Int) < (m : Int)) = true := decide_eq_true (by omega)
      clear hx hb hs hm hk1 hk2 hl hn
      go_enter Try.func20, Try.ntmps20
      go_wp2_with fail
      refine I.mono ?_
      rintro e w1 ⟨rfl, hb1⟩
      go_wp2_with fail
      go_ret3
      exact ⟨by rw [HR.out]; rfl, by (repeat (first | (with_reducible exact Below.refl _ _) | (with_reducible assumption) | (with_reducible apply bl_alloc) | (with_reducible apply bl_drewN) | (with_reducible apply bl_drew) | (with_reducible refine bl_set ?_ (by first | (simp; done) | (simp; omega)) _) | (with_reducible refine bl_call ?_ (by assumption))))⟩
    · have HR := Lib.hid (decT_good hx hs)
      have t1 : decide ((n : Int) - (k : Int) < (m : Int)) = false := decide_eq_false (by omega)
      have s3 : (k : Int) + (m : Int) ≤ 9223372036854775807 := (by omega)
      have q1 := slice_lh b o n c k (k + m) (by omega) (by omega)
      rw [Nat.add_sub_cancel_left, Int.natCast_add] at q1
      obtain ⟨A, hA⟩ : ∃ A, cut b o c k = A := ⟨_, rfl⟩
      obtain ⟨c2, hc2⟩ : ∃ c2, c - k = c2 := ⟨_, rfl⟩
      have HT := Lib.hid ((Byt.cut hb (k := k) (by omega) hc).take (m := m) (by omega))
      rw [hA] at q1 HT
      rw [hc2] at q1
      clear hx hb hs hm hk1 hk2 hl hn hA hc2
      go_enter Try.func20, Try.ntmps20
      go_wp2_with fail
      refine I.mono ?_
      rintro e w1 ⟨rfl, hb1⟩
      have q2 := conv_byt (c := c2) (HT.out.on hb1)
      obtain ⟨V, hV⟩ : ∃ V, str ((l.drop k).take m) = V := ⟨_, rfl⟩
      rw [hV] at q2
      have HV := Lib.hid hV
      clear hV
      go_wp2_with fail
      go_ret3
      exact ⟨by rw [HR.out]; exact text_ret HV.out, by (repeat (first | (with_reducible exact Below.refl _ _) | (with_reducible assumption) | (with_reducible apply bl_alloc) | (with_reducible apply bl_drewN) | (with_reducible apply bl_drew) | (with_reducible refine bl_set ?_ (by first | (simp; done) | (simp; omega)) _) | (with_reducible refine bl_call ?_ (by assumption))))⟩
theorem rtext_any (p : Option Addr) (n c : Nat) (l : List UInt8) (most : Int) (w : World) (hb : Byt w p n l) (hc : n ≤ c) : Calls Try.prog 21 #[.slice p n c, .int .i64 most] w (Gives (.tuple #[str (decT l most).s, .int .i64 ((decT l most).k : Nat), .int .i64 ((decT l most).e : Nat)]) w) := by
  rcases decL_cases l most with hx | hx | hx | ⟨m, k, hx, hm, hk1, hk2, hk3⟩
  · have I : Calls Try.prog 33 #[.slice p n c, .int .i64 most] w (Gives (.tuple #[.int .i64 0, .int .i64 0, .int .i64 6]) w) := (by have := many_any p n c l most w hb; rw [hx] at this; exact this)
    have HR := Lib.hid (decT_bad hx)
    clear hx hb
    go_enter Try.func21, Try.ntmps21
    go_wp2_with fail
    refine I.mono ?_
    rintro e w1 ⟨rfl, hb1⟩
    go_wp2_with fail
    go_ret3
    exact ⟨by rw [HR.out]; rfl, by (repeat (first | (with_reducible exact Below.refl _ _) | (with_reducible assumption) | (with_reducible apply bl_alloc) | (with_reducible apply bl_drewN) | (with_reducible apply bl_drew) | (with_reducible refine bl_set ?_ (by first | (simp; done) | (simp; omega)) _) | (with_reducible refine bl_call ?_ (by assumption))))⟩
  · have I : Calls Try.prog 33 #[.slice p n c, .int .i64 most] w (Gives (.tuple #[.int .i64 0, .int .i64 0, .int .i64 7]) w) := (by have := many_any p n c l most w hb; rw [hx] at this; exact this)
    have HR := Lib.hid (decT_bad hx)
    clear hx hb
    go_enter Try.func21, Try.ntmps21
    go_wp2_with fail
    refine I.mono ?_
    rintro e w1 ⟨rfl, hb1⟩
    go_wp2_with fail
    go_ret3
    exact ⟨by rw [HR.out]; rfl, by (repeat (first | (with_reducible exact Below.refl _ _) | (with_reducible assumption) | (with_reducible apply bl_alloc) | (with_reducible apply bl_drewN) | (with_reducible apply bl_drew) | (with_reducible refine bl_set ?_ (by first | (simp; done) | (simp; omega)) _) | (with_reducible refine bl_call ?_ (by assumption))))⟩
  · have I : Calls Try.prog 33 #[.slice p n c, .int .i64 most] w (Gives (.tuple #[.int .i64 0, .int .i64 0, .int .i64 8]) w) := (by have := many_any p n c l most w hb; rw [hx] at this; exact this)
    have HR := Lib.hid (decT_bad hx)
    clear hx hb
    go_enter Try.func21, Try.ntmps21
    go_wp2_with fail
    refine I.mono ?_
    rintro e w1 ⟨rfl, hb1⟩
    go_wp2_with fail
    go_ret3
    exact ⟨by rw [HR.out]; rfl, by (repeat (first | (with_reducible exact Below.refl _ _) | (with_reducible assumption) | (with_reducible apply bl_alloc) | (with_reducible apply bl_drewN) | (with_reducible apply bl_drew) | (with_reducible refine bl_set ?_ (by first | (simp; done) | (simp; omega)) _) | (with_reducible refine bl_call ?_ (by assumption))))⟩
  · have I : Calls Try.prog 33 #[.slice p n c, .int .i64 most] w (Gives (.tuple #[.int .i64 (m : Nat), .int .i64 (k : Nat), .int .i64 0]) w) := (by have := many_any p n c l most w hb; rw [hx] at this; exact this)
    have hl := hb.1
    have hn := hb.2.1
    obtain ⟨b, o, rfl⟩ : ∃ b o, p = some ⟨b, o, none⟩ := (by rcases hb.2.2 with h | ⟨b, o, h, -⟩; (· omega); (· exact ⟨b, o, h⟩))
    have s0 : (0 : Int) ≤ (n : Int) - (k : Int) := (by omega)
    have s1 : (n : Int) ≤ 9223372036854775807 := (by omega)
    have s2 : (m : Int) ≤ 9223372036854775807 := (by omega)
    by_cases hs : l.length - k < m
    · have HR := Lib.hid (decT_short hx hs)
      have t1 : decide ((n : Int) - (k : Int) < (m : Int)) = true := decide_eq_true (by omega)
      clear hx hb hs hm hk1 hk2 hl hn
      go_enter Try.func21, Try.ntmps21
      go_wp2_with fail
      refine I.mono ?_
      rintro e w1 ⟨rfl, hb1⟩
      go_wp2_with fail
      go_ret3
      exact ⟨by rw [HR.out]; rfl, by (repeat (first | (with_reducible exact Below.refl _ _) | (with_reducible assumption) | (with_reducible apply bl_alloc) | (with_reducible apply bl_drewN) | (with_reducible apply bl_drew) | (with_reducible refine bl_set ?_ (by first | (simp; done) | (simp; omega)) _) | (with_reducible refine bl_call ?_ (by assumption))))⟩
    · have HR := Lib.hid (decT_good hx hs)
      have t1 : decide ((n : Int) - (k : Int) < (m : Int)) = false := decide_eq_false (by omega)
      have s3 : (k : Int) + (m : Int) ≤ 9223372036854775807 := (by omega)
      have q1 := slice_lh b o n c k (k + m) (by omega) (by omega)
      rw [Nat.add_sub_cancel_left, Int.natCast_add] at q1
      obtain ⟨A, hA⟩ : ∃ A, cut b o c k = A := ⟨_, rfl⟩
      obtain ⟨c2, hc2⟩ : ∃ c2, c - k = c2 := ⟨_, rfl⟩
      have HT := Lib.hid ((Byt.cut hb (k := k) (by omega) hc).take (m := m) (by omega))
      rw [hA] at q1 HT
      rw [hc2] at q1
      clear hx hb hs hm hk1 hk2 hl hn hA hc2
      go_enter Try.func21, Try.ntmps21
      go_wp2_with fail
      refine I.mono ?_
      rintro e w1 ⟨rfl, hb1⟩
      have q2 := conv_byt (c := c2) (HT.out.on hb1)
      obtain ⟨V, hV⟩ : ∃ V, str ((l.drop k).take m) = V := ⟨_, rfl⟩
      rw [hV] at q2
      have HV := Lib.hid hV
      clear hV
      go_wp2_with fail
      go_ret3
      exact ⟨by rw [HR.out]; exact text_ret HV.out, by (repeat (first | (with_reducible exact Below.refl _ _) | (with_reducible assumption) | (with_reducible apply bl_alloc) | (with_reducible apply bl_drewN) | (with_reducible apply bl_drew) | (with_reducible refine bl_set ?_ (by first | (simp; done) | (simp; omega)) _) | (with_reducible refine bl_call ?_ (by assumption))))⟩
end Go.Proofs.Ytnfddeoddjmpkaa.Co
