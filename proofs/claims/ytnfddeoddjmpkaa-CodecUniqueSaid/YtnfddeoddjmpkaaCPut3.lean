/-
  The contracts of PutInts, of the library and of the reference.
-/
import Derived.Test.YtnfddeoddjmpkaaCPut2
namespace Go.Proofs.Ytnfddeoddjmpkaa.Co
open Go.RowKit
set_option maxHeartbeats 1000000
theorem encL_take {ls : List Int} {k : Nat} (h : k < ls.length) : encL (ls.take (k + 1)) = encL (ls.take k) ++ enc (ls[k]) := by
  rw [List.take_succ_eq_append_getElem h, encL_snoc]
theorem put_len {l : List UInt8} {ls : List Int} {n m k n' : Nat} {l' : List UInt8} (hl : l.length = n) (hm : ls.length = m) (hk : k ≤ m) (hm2 : m ≤ 9223372036854775807) (hf : ∀ x ∈ ls, Fits x) (hl' : l'.length = n') (e : l' = l ++ enc m ++ encL (ls.take k)) (hn : n + 10 * m < 140737488354000) : n' < 140737488355000 := by
  have h1 := (enc_len (n := (m : Int)) ⟨by omega, by omega⟩).2
  have h2 := (encL_len (l := ls.take k) fun x hx => hf x (List.mem_of_mem_take hx)).2
  have h3 := congrArg List.length e
  rw [List.length_append, List.length_append] at h3
  rw [List.length_take] at h2
  have h4 : min k ls.length = k := by omega
  rw [h4] at h2
  omega
theorem byt_len {B : Nat} {w : World} {v : Value} {n : Nat} {l : List UInt8} (h : w.ownsRow B 5 1 v n (bv l)) : l.length = n := by
  have := own_len h; rwa [bv_len] at this
theorem puts_end {B : Nat} {w : World} {v : Value} {n m : Nat} {l l' : List UInt8} {ls : List Int} (h : w.ownsRow B 5 1 v n (bv l')) (hm : ls.length = m) (e : l' = l ++ enc m ++ encL (ls.take m)) :
    w.ownsRow B 5 1 v (l ++ encI ls).length (bv (l ++ encI ls)) := by
  rw [← hm, List.take_length] at e
  have e2 : l ++ encI ls = l' := by rw [e]; unfold encI; rw [List.append_assoc]
  rw [e2, byt_len h]; exact h
theorem putints_any (p : Option Addr) (n c : Nat) (l : List UInt8) (q : Option Addr) (m d : Nat) (ls : List Int) (w : World) (hb : Byt w p n l) (hi : Ints w q m ls) (hn : Hid (n + 10 * m < 140737488354000)) (hc : n ≤ c) (hf : Hid (∀ x ∈ ls, Fits x)) :
    Calls Try.prog 14 #[.slice p n c, .slice q m d] w (Owned w.heap.size (l ++ encI ls) w) := by
  have hm2 : m ≤ 9223372036854775807 := hi.2.1
  have HB := Lib.hid hb
  have HI := Lib.hid hi
  have HL := Lib.hid hb.1
  have HM := Lib.hid hi.1
  have hcm : (m : Int) ≤ 9223372036854775807 := by omega
  clear hb hi
  go_enter Try.func14, Try.ntmps14
  go_wp2_with fail
  refine (putint_any p n c l (m : Int) w HB.out (Lib.hid (by have := hn.out; omega)) hc (by omega) (by omega)).mono ?_
  rintro e w1 ⟨v, rfl, ho, hb1⟩
  have HA := Lib.hid ho
  have HB1 := Lib.hid hb1
  clear ho hb1
  go_wp2_with fail
  go_loopw [0, 13] (fun v i wr => ∃ (k n' : Nat) (l' : List UInt8), k ≤ m ∧ i = .int .i64 k ∧ Hid (wr.ownsRow w.heap.size 5 1 v n' (bv l')) ∧ Hid (Below w.heap.size w wr) ∧ Hid (l' = l ++ enc m ++ encL (ls.take k))) (fun _ i _ => m - (intOf i).toNat)
  case atStart => exact ⟨0, _, _, Nat.zero_le _, rfl, HA, HB1, Lib.hid (by rw [List.take_zero, encL_nil, List.append_nil])⟩
  case round =>
    obtain ⟨k, n', l', hk, rfl, HA1, HB2, HE⟩ := hrel
    have c1 : (0 : Int) ≤ (k : Int) := by omega
    rcases Nat.lt_or_ge k m with h | h
    · have hn' : Hid (n' < 140737488355000) := Lib.hid (put_len HL.out HM.out hk hm2 hf.out (byt_len HA1.out) HE.out hn.out)
      have hkl : k < ls.length := by rw [HM.out]; exact h
      obtain ⟨-, -, h0 | ⟨b, o, rfl, hb, hcell⟩⟩ := HI.out
      · omega
      · have e1 := (HB2.out.cell (p := ⟨b, o + k, none⟩) hb).trans (hcell.out k hkl)
        have hz := hf.out (ls[k]) (List.getElem_mem hkl)
        have HE2 : Hid (l' ++ enc (ls[k]) = l ++ enc m ++ encL (ls.take (k + 1))) := Lib.hid (by rw [encL_take hkl, HE.out, List.append_assoc _ (encL _)])
        obtain ⟨z, ez⟩ : ∃ z, ls[k] = z := ⟨_, rfl⟩
        rw [ez] at e1 hz HE2
        obtain ⟨z1, z2⟩ := hz
        have c2 : (k : Int) < (m : Int) := by omega
        clear ez hkl hb hcell
        go_wp2_with fail
        refine (appended_any _ n' l' z wr (.inl HA1.out) HB2.out.size hn'.out z1 z2).mono ?_
        rintro e w2 ⟨v2, rfl, ho, hb2⟩
        have HA2 := Lib.hid ho
        have HB3 : Hid (Below w.heap.size w w2) := Lib.hid (HB2.out.trans hb2)
        clear ho hb2
        go_wp2_with fail
        go_roundw
        case rel => exact ⟨k + 1, _, _, by omega, by go_num, HA2, HB3, HE2⟩
        case measure => simp [intOf]; omega
    · obtain rfl : m = k := by omega
      have HR := Lib.hid (puts_end HA1.out HM.out HE.out)
      go_wp2_with fail
      go_ret
      exact ⟨_, rfl, HR.out, HB2.out⟩
theorem rputints_any (p : Option Addr) (n c : Nat) (l : List UInt8) (q : Option Addr) (m d : Nat) (ls : List Int) (w : World) (hb : Byt w p n l) (hi : Ints w q m ls) (hn : Hid (n + 10 * m < 140737488354000)) (hf : Hid (∀ x ∈ ls, Fits x)) :
    Calls Try.prog 17 #[.slice p n c, .slice q m d] w (Owned w.heap.size (l ++ encI ls) w) := by
  have hm2 : m ≤ 9223372036854775807 := hi.2.1
  have HB := Lib.hid hb
  have HI := Lib.hid hi
  have HL := Lib.hid hb.1
  have HM := Lib.hid hi.1
  have hcm : (m : Int) ≤ 9223372036854775807 := by omega
  clear hb hi
  go_enter Try.func17, Try.ntmps17
  go_wp2_with fail
  refine (rputint_any p n c l (m : Int) w HB.out (Lib.hid (by have := hn.out; omega)) (by omega) (by omega)).mono ?_
  rintro e w1 ⟨v, rfl, ho, hb1⟩
  have HA := Lib.hid ho
  have HB1 := Lib.hid hb1
  clear ho hb1
  go_wp2_with fail
  go_loopw [5, 6] (fun v i wr => ∃ (k n' : Nat) (l' : List UInt8), k ≤ m ∧ i = .int .i64 k ∧ Hid (wr.ownsRow w.heap.size 5 1 v n' (bv l')) ∧ Hid (Below w.heap.size w wr) ∧ Hid (l' = l ++ enc m ++ encL (ls.take k))) (fun _ i _ => m - (intOf i).toNat)
  case atStart => exact ⟨0, _, _, Nat.zero_le _, rfl, HA, HB1, Lib.hid (by rw [List.take_zero, encL_nil, List.append_nil])⟩
  case round =>
    obtain ⟨k, n', l', hk, rfl, HA1, HB2, HE⟩ := hrel
    have c1 : (0 : Int) ≤ (k : Int) := by omega
    have hn' : Hid (n' < 140737488355000) := Lib.hid (put_len HL.out HM.out hk hm2 hf.out (byt_len HA1.out) HE.out hn.out)
    rcases Nat.lt_or_ge k m with h | h
    · have hkl : k < ls.length := by rw [HM.out]; exact h
      obtain ⟨-, -, h0 | ⟨b, o, rfl, hb, hcell⟩⟩ := HI.out
      · omega
      · have e1 := (HB2.out.cell (p := ⟨b, o + k, none⟩) hb).trans (hcell.out k hkl)
        have hz := hf.out (ls[k]) (List.getElem_mem hkl)
        have HE2 : Hid (l' ++ enc (ls[k]) = l ++ enc m ++ encL (ls.take (k + 1))) := Lib.hid (by rw [encL_take hkl, HE.out, List.append_assoc _ (encL _)])
        obtain ⟨z, ez⟩ : ∃ z, ls[k] = z := ⟨_, rfl⟩
        rw [ez] at e1 hz HE2
        obtain ⟨z1, z2⟩ := hz
        have c2 : (k : Int) < (m : Int) := by omega
        obtain ⟨pv, dv, rfl, -, hbv⟩ := byt_own HA1.out (by have := hn'.out; omega)
        have HBV := Lib.hid hbv
        clear ez hkl hb hcell hbv
        go_wp2_with fail
        refine (rputint_any pv n' dv l' z wr HBV.out hn' z1 z2).mono ?_
        rintro e w2 ⟨v2, rfl, ho, hb2⟩
        have HA2 := Lib.hid (own_more ho HB2.out.size)
        have HB3 : Hid (Below w.heap.size w w2) := Lib.hid (HB2.out.trans (hb2.mono HB2.out.size))
        clear ho hb2
        go_wp2_with fail
        go_roundw
        case rel => exact ⟨k + 1, _, _, by omega, by go_num, HA2, HB3, HE2⟩
        case measure => simp [intOf]; omega
    · obtain rfl : m = k := by omega
      have HR := Lib.hid (puts_end HA1.out HM.out HE.out)
      go_wp2_with fail
      go_ret
      exact ⟨_, rfl, HR.out, HB2.out⟩
end Go.Proofs.Ytnfddeoddjmpkaa.Co
