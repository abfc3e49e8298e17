/-
  The contracts of PutText, of the library and of the reference.
-/
import Derived.Test.YtnfddeoddjmpkaaCPut3
import Derived.Lib.BufferWrite
import Derived.Lib.SlBuf
import Derived.Laws.CopyOwn
namespace Go.Proofs.Ytnfddeoddjmpkaa.Co
open Go.RowKit
set_option maxHeartbeats 1000000
theorem bv_app {l m : List UInt8} : bv (l ++ m) = bv l ++ bv m := by unfold bv; rw [List.map_append]
theorem bytes_get {s : ByteArray} {k : Nat} (h : k < s.size) : s.data.toList.take (k + 1) = s.data.toList.take k ++ [s[k]] := by
  rw [List.take_succ_eq_append_getElem (by simpa using h)]; rfl
theorem bytes_len (s : ByteArray) : s.data.toList.length = s.size := by simp
theorem text_len {l : List UInt8} {s : ByteArray} {n k n' : Nat} {l' : List UInt8} (hl : l.length = n) (hk : k ≤ s.size) (hs : s.size ≤ 9223372036854775807) (hl' : l'.length = n') (e : l' = l ++ enc s.size ++ s.data.toList.take k) (hn : n + s.size < 140737488354000) : n' < 140737488355000 := by
  have h1 := (enc_len (n := (s.size : Int)) ⟨by omega, by omega⟩).2
  have h3 := congrArg List.length e
  rw [List.length_append, List.length_append, List.length_take, bytes_len] at h3
  omega
theorem text_end {B : Nat} {w : World} {v : Value} {n : Nat} {l l' : List UInt8} {s : ByteArray} (h : w.ownsRow B 5 1 v n (bv l')) (e : l' = l ++ enc s.size ++ s.data.toList.take s.size) :
    w.ownsRow B 5 1 v (l ++ encT s.data.toList).length (bv (l ++ encT s.data.toList)) := by
  have e2 : l ++ encT s.data.toList = l' := by
    rw [e, List.take_of_length_le (by rw [bytes_len]; exact Nat.le_refl _)]; unfold encT; rw [List.append_assoc, bytes_len]
  rw [e2, byt_len h]; exact h
theorem rputtext_any (p : Option Addr) (n c : Nat) (l : List UInt8) (s : ByteArray) (w : World) (hb : Byt w p n l) (hn : Hid (n + s.size < 140737488354000)) :
    Calls Try.prog 16 #[.slice p n c, .string s] w (Owned w.heap.size (l ++ encT s.data.toList) w) := by
  have HS : Hid (s.size ≤ 9223372036854775807) := Lib.hid (by have := hn.out; omega)
  have hcm : (s.size : Int) ≤ 9223372036854775807 := by have := HS.out; omega
  have HB := Lib.hid hb
  have HL := Lib.hid hb.1
  clear hb
  go_enter Try.func16, Try.ntmps16
  go_wp2_with fail
  refine (rputint_any p n c l (s.size : Int) w HB.out (Lib.hid (by have := hn.out; omega)) (by omega) (by omega)).mono ?_
  rintro e w1 ⟨v, rfl, ho, hb1⟩
  have HA := Lib.hid ho
  have HB1 := Lib.hid hb1
  clear ho hb1
  go_wp2_with fail
  go_loopw [5, 6] (fun v i wr => ∃ (k n' : Nat) (l' : List UInt8), k ≤ s.size ∧ i = .int .i64 k ∧ Hid (wr.ownsRow w.heap.size 5 1 v n' (bv l')) ∧ Hid (Below w.heap.size w wr) ∧ Hid (l' = l ++ enc s.size ++ s.data.toList.take k)) (fun _ i _ => s.size - (intOf i).toNat)
  case atStart => exact ⟨0, _, _, Nat.zero_le _, rfl, HA, HB1, Lib.hid (by rw [List.take_zero, List.append_nil])⟩
  case round =>
    obtain ⟨k, n', l', hk, rfl, HA1, HB2, HE⟩ := hrel
    have c1 : (0 : Int) ≤ (k : Int) := by omega
    have hn' : Hid (n' < 140737488355000) := Lib.hid (text_len HL.out hk HS.out (byt_len HA1.out) HE.out hn.out)
    rcases Nat.lt_or_ge k s.size with h | h
    · have HE2 : Hid (l' ++ [s[k]] = l ++ enc s.size ++ s.data.toList.take (k + 1)) := Lib.hid (by rw [bytes_get h, HE.out, List.append_assoc _ (List.take _ _)])
      obtain ⟨v', w', hrun, ho, hb⟩ := run_app (.inl HA1.out) HB2.out.size (by have := hn'.out; omega) (s[k]) ((s[k].toNat : Nat) : Int) rfl
      have HA2 := Lib.hid ho
      have HB3 := Lib.hid (HB2.out.trans hb)
      have c2 : (k : Int) < (s.size : Int) := by omega
      clear ho hb
      go_wp2_with (at_builtin; refine Lib.wpList_append_run _ rfl _ _ _ _ rfl _ _ rfl rfl _ _ hrun ?_)
      go_roundw
      case rel => exact ⟨k + 1, _, _, by omega, by go_num, HA2, HB3, HE2⟩
      case measure => simp [intOf]; omega
    · obtain rfl : s.size = k := by omega
      have HR := Lib.hid (text_end HA1.out HE.out)
      go_wp2_with fail
      go_ret
      exact ⟨_, rfl, HR.out, HB2.out⟩
def zs (k : Nat) : List Value := List.replicate k (.int .u8 0)
theorem zs_len (k : Nat) : (zs k).length = k := by unfold zs; rw [List.length_replicate]
theorem zs_drop (k m : Nat) : (zs k).drop m = zs (k - m) := by unfold zs; rw [List.drop_replicate]
theorem u8_one : (Try.prog.info? 5).map (·.size) = some 1 := by
  obtain ⟨i0, hi0, -, hz1, -⟩ := parts_of u8_info
  rw [hi0]; simp [hz1]
theorem u8_sz (w : World) : (Go.sizeOf 5).run Try.prog w = .ok 1 w := by
  obtain ⟨i0, hi0, -, hz1, -⟩ := parts_of u8_info
  simp [sizeOf, typeInfo, hi0, hz1]
theorem made_u8 (M : Nat) (hM : M ≤ 140737488355328) (w : World) : (Instr.makeSlice 22 (.int .i64 (M : Int)) (.int .i64 (M : Int))).run Try.prog w = .ok (.slice (some ⟨w.heap.size, 0, none⟩) M M) (w.alloc (.cells (zs M).toArray 5)) := by
  obtain ⟨i0, hi, hz0, hz1, hz2⟩ := parts_of u8_info
  rw [run_make w 22 5 i0 (.int .u8 0) Try.underlying22 hi hz0 .i64 .i64 M M (by omega) (by omega) (by rw [hz2]; omega) (by omega), hz1]
  have : madeCells (Value.int .u8 0).cells ((M : Int).toNat * 1) = (zs M).toArray := by
    apply Array.toList_inj.1
    rw [show (Value.int .u8 0).cells = #[.int .u8 0] from rfl, toList_madeCells_one]
    rw [Nat.mul_one, Int.toNat_natCast]; rfl
  rw [this, Int.toNat_natCast]
/-- The first copy: the head. -/
theorem copy_head {w1 : World} {N d M : Nat} {q : Option Addr} {l : List UInt8} (hq : Byt w1 q N l) (h1 : 1 ≤ N) (hM : N ≤ M) :
    ∃ w2, (Builtin.copy_ #[22, 22] 3 #[.slice (some ⟨w1.heap.size, 0, none⟩) M M, .slice q N d]).run Try.prog (w1.alloc (.cells (zs M).toArray 5)) = .ok (.int .i64 (N : Int)) w2 ∧
      w2.heap[w1.heap.size]? = some (.cells (bv l ++ zs (M - N)).toArray 5 (0, 0)) ∧ Below w1.heap.size w1 w2 := by
  have hl : (bv l).length = N := by rw [bv_len, hq.1]
  have hg : (w1.alloc (.cells (zs M).toArray 5)).heap[w1.heap.size]? = some (.cells (zs M).toArray 5 (0, 0)) := heap_alloc_new w1 _
  have hqa := hq.alloc (o := .cells (zs M).toArray 5)
  obtain ⟨-, -, h0 | ⟨b, o, rfl, -, -⟩⟩ := hq
  · omega
  · have hrun := run_copy_row (P := Try.prog) (w1.alloc (.cells (zs M).toArray 5)) 22 22 3 5 w1.heap.size 0 M M ⟨b, o, none⟩ N d (zs M).toArray 5 (bv l) Try.underlying22 u8_one hg
      (by rw [hl]; exact (Nat.min_eq_left hM).symm) hqa.cells (by rw [List.size_toArray, zs_len, hl]; omega) bv_one
    rw [hl] at hrun
    refine ⟨_, hrun, ?_, ?_⟩
    · rw [setRow_heap _ _ _ _ _ _ hg, List.take_zero, List.nil_append, Nat.zero_add, zs_drop]
    · exact below_setRow ((Below.refl _ _).alloc (Nat.le_refl _) _) (Nat.le_refl _) _
/-- The second copy: the text. -/
theorem copy_tail {B : Nat} {w : World} {g N M : Nat} {l : List UInt8} {s : ByteArray} (hg : w.heap[g]? = some (.cells (bv l ++ zs (M - N)).toArray 5 (0, 0))) (hB : B ≤ g) (hl : l.length = N) (hM : M = N + s.size) (hm : M ≤ 140737488355328) :
    ∃ w2, (Builtin.copy_ #[22, 9] 3 #[Lib.tailV g M N, .string s]).run Try.prog w = .ok (.int .i64 (s.size : Int)) w2 ∧
      w2.ownsRow B 5 1 (.slice (some ⟨g, 0, none⟩) M M) M (bv (l ++ s.data.toList)) ∧ Below B w w2 := by
  have hbl : (bv l).length = N := by rw [bv_len, hl]
  by_cases h0 : s.size = 0
  · refine ⟨w, ?_, ?_, Below.refl _ _⟩
    · unfold Lib.tailV
      rw [Lib.run_copy_empty_string w _ _ _ 5 _ _ _ s Try.underlying22 (by rw [u8_one]; rfl) h0, h0]; rfl
    · have hs : s.data.toList = [] := List.eq_nil_of_length_eq_zero (by rw [bytes_len]; exact h0)
      rw [hs, List.append_nil]
      have hMN : M = N := by omega
      subst hMN
      rw [Nat.sub_self, show zs 0 = [] from rfl, List.append_nil] at hg
      exact ⟨by rw [hbl]; omega, .inr ⟨g, M, _, rfl, hB, hg, Nat.le_refl _, by unfold maxLen; omega, by simp [hbl], by simp; exact List.take_of_length_le (by omega)⟩⟩
  · have htv : Lib.tailV g M N = .slice (some ⟨g, N, none⟩) (M - N) (M - N) := by unfold Lib.tailV; rw [if_neg (by omega)]
    have hrun := Lib.run_copy_row_string (P := Try.prog) w 22 9 3 5 g N (M - N) (M - N) s (bv l ++ zs (M - N)).toArray 5 Try.underlying22 u8_one hg (by omega) (by rw [List.size_toArray, List.length_append, hbl, zs_len]; omega)
    rw [← htv] at hrun
    refine ⟨_, hrun, ?_, below_setRow (Below.refl _ _) hB _⟩
    have hcells : ((bv l ++ zs (M - N)).toArray.toList.take N ++ Lib.byteCells s.data.toList ++ (bv l ++ zs (M - N)).toArray.toList.drop (N + s.size)) = bv (l ++ s.data.toList) := by
      rw [show ((bv l ++ zs (M - N)).toArray.toList) = bv l ++ zs (M - N) from rfl, List.take_append_of_le_length (by omega), List.take_of_length_le (by omega), List.drop_eq_nil_of_le (by rw [List.length_append, hbl, zs_len]; omega), List.append_nil, bv_app]; rfl
    rw [hcells]
    have hlen : (bv (l ++ s.data.toList)).length = M := by rw [bv_len, List.length_append, hl, bytes_len]; omega
    exact ⟨by rw [hlen]; omega, .inr ⟨g, M, _, rfl, hB, setRow_heap _ _ _ _ _ _ hg, Nat.le_refl _, by unfold maxLen; omega, by rw [List.size_toArray, hlen]; omega, by simp [hlen, List.take_of_length_le]⟩⟩
theorem puttext_any (p : Option Addr) (n c : Nat) (l : List UInt8) (s : ByteArray) (w : World) (hb : Byt w p n l) (hn : Hid (n + s.size < 140737488354000)) (hc : n ≤ c) :
    Calls Try.prog 13 #[.slice p n c, .string s] w (Owned w.heap.size (l ++ encT s.data.toList) w) := by
  have HS : Hid (s.size ≤ 9223372036854775807) := Lib.hid (by have := hn.out; omega)
  have hcm : (s.size : Int) ≤ 9223372036854775807 := by have := HS.out; omega
  have HB := Lib.hid hb
  have HL := Lib.hid hb.1
  clear hb
  go_enter Try.func13, Try.ntmps13
  go_wp2_with fail
  refine (putint_any p n c l (s.size : Int) w HB.out (Lib.hid (by have := hn.out; omega)) hc (by omega) (by omega)).mono ?_
  rintro e w1 ⟨v, rfl, ho, hb1⟩
  obtain ⟨N, hN⟩ : ∃ N, (l ++ enc (s.size : Int)).length = N := ⟨_, rfl⟩
  have h1 : N ≤ n + 10 ∧ 1 ≤ N := by
    have := enc_len (n := (s.size : Int)) ⟨by omega, by omega⟩
    have := HL.out
    rw [List.length_append] at hN
    omega
  rw [hN] at ho
  obtain ⟨q, d, rfl, hd, hq⟩ := byt_own ho (by have := hn.out; omega)
  have HQ := Lib.hid hq
  have HB1 := Lib.hid hb1
  have HD := Lib.hid hd
  have h2 := Lib.hid h1
  have g1 : (N : Int) + (s.size : Int) ≤ 9223372036854775807 := by have := hn.out; omega
  obtain ⟨M, hM⟩ : ∃ M, N + s.size = M := ⟨_, rfl⟩
  have hm : M ≤ 140737488355328 := by have := hn.out; have := h2.out; omega
  have hmk := made_u8 M hm w1
  rw [← hM, Int.natCast_add, hM] at hmk
  obtain ⟨w2, hr1, hg2, hb2⟩ := copy_head (d := d) (M := M) HQ.out h2.out.2 (by omega)
  have hsl := Lib.run_slice_tailV (P := Try.prog) w2 22 5 Try.underlying22 u8_sz w1.heap.size M N (by omega)
  obtain ⟨w3, hr2, ho3, hb3⟩ := copy_tail (B := w.heap.size) (s := s) hg2 HB1.out.size hN hM.symm hm
  have HR : Hid (Owned w.heap.size (l ++ encT s.data.toList) w (.returned (.slice (some ⟨w1.heap.size, 0, none⟩) M M)) w3) := Lib.hid (by
    refine ⟨_, rfl, ?_, (HB1.out.trans (hb2.mono HB1.out.size)).trans hb3⟩
    have e : l ++ encT s.data.toList = l ++ enc (s.size : Int) ++ s.data.toList := by unfold encT; rw [List.append_assoc, bytes_len]
    rw [e, byt_len ho3]; exact ho3)
  have HM := Lib.hid hM
  clear hb2 ho3 hb3 hg2 hN hM hm HQ
  go_wp2_with (first | (with_reducible refine Lib.wpList_copy_run _ rfl (.tmp 17) (.tmp 18) _ _ rfl _ _ rfl rfl hr1 ?_) | (with_reducible refine Lib.wpList_copy_run _ rfl (.tmp 23) (.tmp 24) _ _ rfl _ _ rfl rfl hr2 ?_))
  go_ret
  exact HR.out
end Go.Proofs.Ytnfddeoddjmpkaa.Co
