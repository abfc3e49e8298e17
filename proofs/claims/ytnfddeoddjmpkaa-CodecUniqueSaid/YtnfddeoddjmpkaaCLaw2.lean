/-
  The law of writing, walked.
-/
import Derived.Test.YtnfddeoddjmpkaaCLaw3
import Derived.Deep.RegionHeldLaw
namespace Go.Proofs.Ytnfddeoddjmpkaa.Co
open Go.RowKit
set_option maxHeartbeats 4000000
/-- The capacity, and the world, that []byte(s) gives. -/
def bytesC (w : World) (S : ByteArray) : Nat := grownCap w S.size 0 5
def bytesWd (w : World) (S : ByteArray) : World := w.drew.alloc (.cells (bytesRow S (bytesC w S)) 5 ((bytesRow S (bytesC w S)).size, (bytesRow S (bytesC w S)).size + 1))
theorem bytes_run {l : List UInt8} {S : ByteArray} {n : Nat} (hS : (⟨l.toArray⟩ : ByteArray) = S) (hl : l.length = n) (w : World) : (convert 9 22 (.string S)).run Try.prog w = .ok (.slice (some ⟨w.heap.size, 0, none⟩) n (bytesC w S)) (bytesWd w S) := by
  subst hS
  subst hl
  exact run_bytes_of_string w _ _ 5 _ Try.underlying9 Try.underlying22 Try.underlying5
theorem bytes_byt {l : List UInt8} {S : ByteArray} {n : Nat} (hS : (⟨l.toArray⟩ : ByteArray) = S) (hl : l.length = n) (hn : n ≤ 9223372036854775807) (w : World) : Byt (bytesWd w S) (some ⟨w.heap.size, 0, none⟩) n l := by
  subst hS
  subst hl
  refine ⟨rfl, hn, .inr ⟨_, _, rfl, by unfold bytesWd; simp, Lib.hid fun i hi => ?_⟩⟩
  have e : (bytesWd w ⟨l.toArray⟩).cell? ⟨w.drew.heap.size, 0 + i, none⟩ = _ := World.cell?_alloc_mark _ _ _ _ _
  rw [show w.drew.heap.size = w.heap.size from rfl] at e
  rw [e, Nat.zero_add, bytesRow_at _ _ _ (by simpa using hi)]
  simp
theorem bl_bytes {a w : World} {S : ByteArray} (h : Below a.heap.size a w) : Below a.heap.size a (bytesWd w S) := bl_alloc (bl_drew h)
theorem bytes_cap {l : List UInt8} {S : ByteArray} {n : Nat} (hS : (⟨l.toArray⟩ : ByteArray) = S) (hl : l.length = n) (w : World) : n ≤ bytesC w S := by
  subst hS
  subst hl
  exact grownCap_ge _ _ _ _
set_option maxRecDepth 100000 in
theorem codecWrites_walk (p : Option Addr) (n c : Nat) (l : List UInt8) (k : Int) (s : ByteArray) (q : Option Addr) (m d : Nat) (ls : List Int) (w : World) (hc : n ≤ c) (hb : Byt w p n l) (k1 : -9223372036854775808 ≤ k) (k2 : k ≤ 9223372036854775807) (_ : s.size ≤ maxLen) (_ : m ≤ d) (hi : Ints w q m ls) (hf : ∀ x ∈ ls, Fits x) :
    Calls Try.prog 3 #[.slice p n c, .int .i64 k, .string s, .slice q m d] w (Gives (.bool true) w) := by
  by_cases h3 : n ≤ 300 ∧ s.size ≤ 300 ∧ m ≤ 300
  · have HF := Lib.hid (fewB_yes h3)
    have HB := Lib.hid hb
    have HI := Lib.hid hi
    have HFI := Lib.hid hf
    obtain ⟨S0, hS0⟩ : ∃ S : ByteArray, (⟨l.toArray⟩ : ByteArray) = S := ⟨_, rfl⟩
    obtain ⟨L1, hL1⟩ : ∃ L, l ++ enc k = L := ⟨_, rfl⟩
    obtain ⟨L2, hL2⟩ : ∃ L, l ++ encT s.data.toList = L := ⟨_, rfl⟩
    obtain ⟨L3, hL3⟩ : ∃ L, l ++ encI ls = L := ⟨_, rfl⟩
    obtain ⟨S1, hS1⟩ : ∃ S : ByteArray, (⟨L1.toArray⟩ : ByteArray) = S := ⟨_, rfl⟩
    obtain ⟨S2, hS2⟩ : ∃ S : ByteArray, (⟨L2.toArray⟩ : ByteArray) = S := ⟨_, rfl⟩
    obtain ⟨S3, hS3⟩ : ∃ S : ByteArray, (⟨L3.toArray⟩ : ByteArray) = S := ⟨_, rfl⟩
    have hl := hb.1
    have hbig : L1.length ≤ 9223372036854775807 ∧ L2.length ≤ 9223372036854775807 ∧ L3.length ≤ 9223372036854775807 := by
      have h1 := enc_len (n := k) ⟨k1, k2⟩
      have h2 := enc_len (n := (s.size : Int)) ⟨by omega, by omega⟩
      have h4 := enc_len (n := (ls.length : Int)) ⟨by omega, by have := hi.1; omega⟩
      have h5 := encL_len hf
      have h6 := hi.1
      rw [← hL1, ← hL2, ← hL3]
      unfold encT encI
      rw [bytes_len]
      simp only [List.length_append, bytes_len]
      omega
    have HG := Lib.hid hbig
    have H0 := Lib.hid hS0
    have H1 := Lib.hid hS1
    have H2 := Lib.hid hS2
    have H3 := Lib.hid hS3
    have q0 := conv_S (c := c) hb hS0
    have BR := bytes_run hS0 hl
    have BB := Lib.hid (bytes_byt hS0 hl hb.2.1)
    have A1 := Lib.hid fun w' (hb : Byt w' p n l) => putint_any p n c l k w' hb (Lib.hid (by omega)) hc k1 k2
    have A2 := Lib.hid fun w' (hb : Byt w' p n l) => puttext_any p n c l s w' hb (Lib.hid (by omega)) hc
    have A3 := Lib.hid fun w' (hb : Byt w' p n l) (hi : Ints w' q m ls) => putints_any p n c l q m d ls w' hb hi (Lib.hid (by omega)) hc HFI
    have R1 := Lib.hid fun p c w' (hb : Byt w' p n l) => rputint_any p n c l k w' hb (Lib.hid (by omega)) k1 k2
    have R2 := Lib.hid fun p c w' (hb : Byt w' p n l) => rputtext_any p n c l s w' hb (Lib.hid (by omega))
    have R3 := Lib.hid fun p c w' (hb : Byt w' p n l) (hi : Ints w' q m ls) => rputints_any p n c l q m d ls w' hb hi (Lib.hid (by omega)) HFI
    rw [hL1] at A1 R1
    rw [hL2] at A2 R2
    rw [hL3] at A3 R3
    clear hS0 hS1 hS2 hS3 hL1 hL2 hL3 hbig hl hb hi hf h3
    go_enter Try.func3, Try.ntmps3
    go_wp2_with fail
    refine (few_any p n c s q m d _).mono ?_
    rintro e w0 ⟨rfl, rfl⟩
    rw [HF.out]
    clear HF
    go_wp2_with fail
    refine (A1.out _ HB.out).mono ?_
    rintro e w1 ⟨v1, rfl, ho1, hb1⟩
    obtain ⟨p1, d1, rfl, -, hq1⟩ := byt_own ho1 HG.out.1
    have HB1 := Lib.hid hb1
    have HQ1 := Lib.hid hq1
    clear hb1 ho1 hq1
    go_wp2_with fail
    refine (A2.out _ (HB.out.on HB1.out)).mono ?_
    rintro e w2 ⟨v2, rfl, ho2, hb2⟩
    obtain ⟨p2, d2, rfl, -, hq2⟩ := byt_own ho2 HG.out.2.1
    have HB2 := Lib.hid (bl_call HB1.out hb2)
    have HQ2 := Lib.hid hq2
    have HQ12 := Lib.hid (HQ1.out.on hb2)
    clear hb2 ho2 hq2 HB1 HQ1
    go_wp2_with fail
    refine (A3.out _ (HB.out.on HB2.out) (HI.out.on HB2.out)).mono ?_
    rintro e w3 ⟨v3, rfl, ho3, hb3⟩
    obtain ⟨p3, d3, rfl, -, hq3⟩ := byt_own ho3 HG.out.2.2
    have HB3 := Lib.hid (bl_call HB2.out hb3)
    have HQ3 := Lib.hid hq3
    have HQ22 := Lib.hid (HQ2.out.on hb3)
    have HQ13 := Lib.hid (HQ12.out.on hb3)
    have HI3 := Lib.hid (HI.out.on HB3.out)
    clear hb3 ho3 hq3 HB2 HQ2 HQ12
    have KS := Lib.hid fun (w' : World) (h : Below w3.heap.size w3 w') => And.intro h (And.intro (conv_S (c := d1) (HQ13.out.on h) H1.out) (And.intro (conv_S (c := d2) (HQ22.out.on h) H2.out) (And.intro (conv_S (c := d3) (HQ3.out.on h) H3.out) (conv_S (c := c) (HB.out.on (bl_call HB3.out h)) H0.out))))
    obtain ⟨N1, hN1⟩ : ∃ N, L1.length = N := ⟨_, rfl⟩
    obtain ⟨N2, hN2⟩ : ∃ N, L2.length = N := ⟨_, rfl⟩
    obtain ⟨N3, hN3⟩ : ∃ N, L3.length = N := ⟨_, rfl⟩
    have HG2 := Lib.hid HG.out
    rw [hN1, hN2, hN3] at KS
    clear HG HQ13 HQ22 HQ3 A1 A2 A3 q0 HFI
    rw [hN1, hN2, hN3]
    clear hN1 hN2 hN3
    go_wp2_with fail
    go_region_held_law (fun w' => Below w3.heap.size w3 w' ∧ (convert 22 9 (.slice p1 N1 d1)).run Try.prog w' = .ok (.string S1) w' ∧ (convert 22 9 (.slice p2 N2 d2)).run Try.prog w' = .ok (.string S2) w' ∧ (convert 22 9 (.slice p3 N3 d3)).run Try.prog w' = .ok (.string S3) w' ∧ (convert 22 9 (.slice p n c)).run Try.prog w' = .ok (.string S0) w') ((refine KS.out _ ?_; (repeat (first | (with_reducible exact Below.refl _ _) | (with_reducible assumption) | (exact And.left (by assumption)) | (with_reducible apply bl_bytes) | (with_reducible apply bl_alloc) | (with_reducible apply bl_drew) | (with_reducible refine bl_call ?_ (by assumption))))))
      (first
        | (go_at_call 15; refine (R1.out _ _ _ (BB.out _)).mono ?_; rintro e w4 ⟨v4, rfl, ho4, hb4⟩; have q4 := own_S ho4 H1.out HG2.out.1)
        | (go_at_call 16; refine (R2.out _ _ _ (BB.out _)).mono ?_; rintro e w5 ⟨v5, rfl, ho5, hb5⟩; have q5 := own_S ho5 H2.out HG2.out.2.1)
        | (go_at_call 17; refine (R3.out _ _ _ (BB.out _) (HI3.out.on (by (repeat (first | (with_reducible exact Below.refl _ _) | (with_reducible assumption) | (exact And.left (by assumption)) | (with_reducible apply bl_bytes) | (with_reducible apply bl_alloc) | (with_reducible apply bl_drew) | (with_reducible refine bl_call ?_ (by assumption))))))).mono ?_; rintro e w6 ⟨v6, rfl, ho6, hb6⟩; have q6 := own_S ho6 H3.out HG2.out.2.2)
        | (go_at_call 11; refine (awake_any _).mono ?_; rintro e w7 ⟨rfl, hb7⟩))
    all_goals
      go_wp2_with fail
      go_ret
      exact ⟨rfl, by have HBB := HB3.out; (repeat (first | (with_reducible exact Below.refl _ _) | (with_reducible assumption) | (exact And.left (by assumption)) | (with_reducible apply bl_bytes) | (with_reducible apply bl_alloc) | (with_reducible apply bl_drew) | (with_reducible refine bl_call ?_ (by assumption))))⟩
  · have HF := Lib.hid (fewB_no h3)
    clear h3 hb hi
    go_enter Try.func3, Try.ntmps3
    go_wp2_with fail
    refine (few_any p n c s q m d _).mono ?_
    rintro e w0 ⟨rfl, rfl⟩
    rw [HF.out]
    go_wp2_with fail
    refine (awake_any _).mono ?_
    rintro e w8 ⟨rfl, hb8⟩
    go_wp2_with fail
    go_ret
    exact ⟨rfl, hb8⟩
end Go.Proofs.Ytnfddeoddjmpkaa.Co
