/-
  Parts of this proof: The law of Finds.
-/
import Derived.Test.YtaaffmbnhjaebaaGreatZQRrkxb
import Derived.Test.YtaaffmbnhjaebaaGreatZQRlkxab
import Derived.Test.YtaaffmbnhjaebaaGreatZQAwk
namespace Go.Proofs.YtaaffmbnhjaebaaGreat.Md
open Go.RowKit Go.Maps
open Go.Proofs.YtaaffmbnhjaebaaGreat.Ex (Lo Gives)
set_option maxHeartbeats 8000000
set_option linter.unusedVariables false
set_option maxRecDepth 100000 in
theorem modelFinds_walk (x : Mdl) (P : PMdl) (s1 s2 : ByteArray) (w : World) (hx : OMdl (Lo w.heap.size) w x P) (hf : Fit x) : Calls Tryz.prog 4 #[.agg (cMdl x P), .string s1, .string s2] w (Gives (.bool true) w) := by
 have HX := Lib.hid hx
 have HI := Lib.hid hx.si
 obtain ⟨hil, him⟩ := hx.si.len
 have HNw := Lib.hid hf.n
 have FX := far (w := w) 26 (cMdl x P)
 obtain ⟨n4, hn4⟩ : ∃ n : Nat, 4 = n := ⟨_, rfl⟩
 have hsz4 : ∀ w, (sizeOf 26).run Tryz.prog w = .ok n4 w := fun w => by rw [Tryz.sizeOf26, hn4]
 have HN4 := Lib.hid hn4
 obtain ⟨ms, hms⟩ : ∃ n, P.sim = n := ⟨_, rfl⟩
 have FM : Hid (∀ W, Below (w.alloc (.cells (cMdl x P) 26)).heap.size (w.alloc (.cells (cMdl x P) 26)) W → (loadCellsFrom ⟨w.heap.size, 0, none⟩ 0 n4 #[]).run Tryz.prog W = .ok (cMdl x P) W) := Lib.hid fun W hb => (FX.out W hb).cell.ldN (by rw [cMdl_size]; exact hn4)
 have FK : Hid (∀ W, Below (w.alloc (.cells (cMdl x P) 26)).heap.size (w.alloc (.cells (cMdl x P) 26)) W → W.cell? ⟨w.heap.size, 2, none⟩ = some (.slice P.sip ms P.sic)) := Lib.hid fun W hb => by rw [← hms]; exact (FX.out W hb).get (cMdl2 x P)
 rw [hms] at hil him HI
 have HIL := Lib.hid hil
 have ld0 := FM.out (w.alloc (.cells (cMdl x P) 26)) (Below.refl _ _)
 obtain ⟨lb, hlb⟩ : ∃ b, lightB x = b := ⟨_, rfl⟩
 obtain ⟨r, hr⟩ : ∃ r, lnkV x.li s1 s2 = r := ⟨_, rfl⟩
 obtain ⟨ln, lo⟩ := r
 obtain ⟨i1, hi1⟩ : ∃ v, siteI x.si s1 = v := ⟨_, rfl⟩
 have CL := Lib.hid (fun W (hW : Below w.heap.size w W) => light_at hlb W (HX.out.on hW) hf)
 have C1 := Lib.hid (fun W (hW : Below w.heap.size w W) => (show Calls Tryz.prog 12 #[.agg (cMdl x P), .string s1, .string s2] W (Gives (.tuple #[.int .i64 ln, .bool lo]) W) by have h := link_any x P s1 s2 W (HX.out.on hW).li; rw [hr] at h; exact h))
 have C2 := Lib.hid (fun W (hW : Below w.heap.size w W) => (show Calls Tryz.prog 13 #[.agg (cMdl x P), .string s1, .string s2] W (Gives (.tuple #[.int .i64 ln, .bool lo]) W) by have h := rlink_any x P s1 s2 W (HX.out.on hW).li; rw [hr] at h; exact h))
 have C3 := Lib.hid (fun W (hW : Below w.heap.size w W) => (show Calls Tryz.prog 14 #[.agg (cMdl x P), .string s1] W (Gives (.int .i64 i1) W) by rw [← hi1]; exact site_any x P s1 W (HX.out.on hW).si))
 have C4 := Lib.hid (fun W (hW : Below w.heap.size w W) => (show Calls Tryz.prog 15 #[.agg (cMdl x P), .string s1] W (Gives (.int .i64 i1) W) by rw [← hi1]; exact rsite_any x P s1 W (HX.out.on hW).si))
 have t3 : (ms : Int) ≤ 9223372036854775807 := by omega
 clear hx hf hn4 hlb hr hi1 hil him hms
 cases lb with
 | false =>
  go_enter Tryz.func4, Tryz.ntmps4
  go_wp2_with fail
  refine (CL.out _ bl).mono ?_
  rintro e w1 ⟨rfl, hb1⟩
  go_wp2_with fail
  refine (awake_any _).mono ?_
  rintro e wz ⟨rfl, hbz⟩
  go_wp2_with fail
  go_ret
  exact ⟨rfl, bl⟩
 | true =>
  go_enter Tryz.func4, Tryz.ntmps4
  go_wp2_with fail
  refine (CL.out _ bl).mono ?_
  rintro e w1 ⟨rfl, hb1⟩
  have HB1 : Hid (Below (w.alloc (.cells (cMdl x P) 26)).heap.size (w.alloc (.cells (cMdl x P) 26)) w1) := Lib.hid bl
  have ld1 := FM.out w1 HB1.out
  clear ld0 hb1
  go_wp2_with fail
  refine (C1.out _ (by have h := HB1.out; exact bl)).mono ?_
  rintro e w2 ⟨rfl, hb2⟩
  have HB2 : Hid (Below (w.alloc (.cells (cMdl x P) 26)).heap.size (w.alloc (.cells (cMdl x P) 26)) w2) := Lib.hid (by have h := HB1.out; exact bl)
  have ld2 := FM.out w2 HB2.out
  clear ld1 hb2
  go_wp2_with fail
  refine (C2.out _ (by have h := HB2.out; exact bl)).mono ?_
  rintro e w3 ⟨rfl, hb3⟩
  have HB3 : Hid (Below (w.alloc (.cells (cMdl x P) 26)).heap.size (w.alloc (.cells (cMdl x P) 26)) w3) := Lib.hid (by have h := HB2.out; exact bl)
  clear ld2 hb3
  go_wp2_with fail
  go_region_held3 (fun W => (loadCellsFrom ⟨w.heap.size, 0, none⟩ 0 n4 #[]).run Tryz.prog W = .ok (cMdl x P) W) (first | (refine FM.out _ ?_; have h := HB3.out; exact bl; done) | (go_keep; done)) (first
   | (have t := hb4; go_at_call 15; refine (C4.out _ (by have h := HB3.out; exact bl)).mono ?_; rintro e w5 ⟨rfl, hb5⟩)
   | (go_at_call 14; refine (C3.out _ (by have h := HB3.out; exact bl)).mono ?_; rintro e w4 ⟨rfl, hb4⟩))
  all_goals
   have HB5 : Hid (Below (w.alloc (.cells (cMdl x P) 26)).heap.size (w.alloc (.cells (cMdl x P) 26)) w5) := Lib.hid (by have h := HB3.out; exact bl)
   clear hb4 hb5
   obtain ⟨kk, hkk⟩ : ∃ n : Nat, 13 = n := ⟨_, rfl⟩
   have hsz13 : ∀ w, (sizeOf 42).run Tryz.prog w = .ok kk w := fun w => by rw [Tryz.sizeOf42, hkk]
   have HKK := Lib.hid hkk
   clear hkk
   go_wp2_with fail
   go_loopw [11] (fun i wr => ∃ k : Nat, k ≤ ms ∧ i = .int .i64 (k : Nat) ∧ Hid (Below (w.alloc (.cells (cMdl x P) 26)).heap.size (w.alloc (.cells (cMdl x P) 26)) wr)) (fun i _ => ms - (intOf i).toNat)
   case atStart => exact ⟨0, Nat.zero_le _, rfl, Lib.hid (by have h := HB5.out; exact bl)⟩
   case round =>
    obtain ⟨k, hk, rfl, HW⟩ := hrel
    have k0 : (0 : Int) ≤ (k : Int) := by omega
    have HBW : Hid (Below w.heap.size w wr) := Lib.hid (by have h := HW.out; exact bl)
    have g2 := FK.out wr HW.out
    rcases Nat.lt_or_ge k ms with h | h
    · have k1 : (k : Int) < (ms : Int) := by omega
      have hkl : k < x.si.length := by rw [HIL.out]; exact h
      obtain ⟨b, o, hp, hbG, hG, hcell⟩ := (HI.out.on RSte.map HBW.out).rows (by omega)
      obtain ⟨d, hds, hat, hR⟩ := hcell.out k hkl
      obtain ⟨y, hy⟩ : ∃ y, x.si[k] = y := ⟨_, rfl⟩
      have HNy := Lib.hid (show NwSte y by rw [← hy]; exact HNw.out _ (List.getElem_mem hkl))
      rw [hy] at hR
      obtain ⟨Q, rfl, hQ⟩ := hR
      have HQ := Lib.hid hQ
      rw [hp] at g2
      have bt : Big 42 (cSte y Q).size := bSte
      have hat2 := hat.at HKK.out
      have l1 := hat2.ldN HKK.out
      have l2 := hat2.ldV bt
      have l3 := hat2.ldA bt
      have st1 := fun (z : Array Value) (hz : z.size = 13) => put_C bt (cSte_one y Q) z (by rw [hz]; rfl)
      have st2 := fun (z : Array Value) (hz : z.size = 13) => put_V bt (cSte_one y Q) z (by rw [hz]; rfl)
      have st3 := fun (z : Array Value) (hz : z.size = 13) => put_A bt (cSte_one y Q) z (by rw [hz]; rfl)
      have FU := far (w := wr) 42 (cSte y Q)
      have FS : Hid (∀ W, Below (wr.alloc (.cells (cSte y Q) 42)).heap.size (wr.alloc (.cells (cSte y Q) 42)) W → (loadCellsFrom ⟨wr.heap.size, 0, none⟩ 0 kk #[]).run Tryz.prog W = .ok (cSte y Q) W) := Lib.hid fun W hW => (FU.out W hW).cell.ldN (by rw [cSte_size]; exact HKK.out)
      obtain ⟨a1, ha1⟩ : ∃ v, rouI y.ro s1 = v := ⟨_, rfl⟩
      obtain ⟨a2, ha2⟩ : ∃ v, kindV y s1 = v := ⟨_, rfl⟩
      obtain ⟨a3, ha3⟩ : ∃ v, idxV y s1 = v := ⟨_, rfl⟩
      have D1 := Lib.hid (fun W (hW : Below wr.heap.size wr W) => (show Calls Tryz.prog 16 #[.agg (cSte y Q), .string s1] W (Gives (.int .i64 a1) W) by rw [← ha1]; exact routine_any y Q s1 W (HQ.out.on hW).ro))
      have D2 := Lib.hid (fun W (hW : Below wr.heap.size wr W) => (show Calls Tryz.prog 17 #[.agg (cSte y Q), .string s1] W (Gives (.int .i64 a1) W) by rw [← ha1]; exact rroutine_any y Q s1 W (HQ.out.on hW) HNy.out.nz))
      have D3 := Lib.hid (fun W (hW : Below wr.heap.size wr W) => (show Calls Tryz.prog 18 #[.agg (cSte y Q), .string s1] W (Gives (.string a2) W) by rw [← ha2]; exact kind_any y Q s1 W (HQ.out.on hW)))
      have D4 := Lib.hid (fun W (hW : Below wr.heap.size wr W) => (show Calls Tryz.prog 19 #[.agg (cSte y Q), .string s1] W (Gives (.string a2) W) by rw [← ha2]; exact rkind_any y Q s1 W (HQ.out.on hW) HNy.out.nz))
      have D5 := Lib.hid (fun W (hW : Below wr.heap.size wr W) => (show Calls Tryz.prog 20 #[.agg (cSte y Q), .string s1] W (Gives (.int .i64 a3) W) by rw [← ha3]; exact index_any y Q s1 W (HQ.out.on hW)))
      have D6 := Lib.hid (fun W (hW : Below wr.heap.size wr W) => (show Calls Tryz.prog 21 #[.agg (cSte y Q), .string s1] W (Gives (.int .i64 a3) W) by rw [← ha3]; exact rindex_any y Q s1 W (HQ.out.on hW) HNy.out.nz))
      have e2 : (a2.toList != a2.toList) = false := by rw [bne, beq_self_eq_true]; rfl
      have e3 : (a2.toList == a2.toList) = true := beq_self_eq_true _
      clear hcell hds hat hat2 hy hkl bt ha1 ha2 ha3 hQ hbG hG hp
      go_wp2_with fail
      clear l1 l2 l3 st1 st2 st3 g2
      go_region_held3 (fun W => (loadCellsFrom ⟨wr.heap.size, 0, none⟩ 0 kk #[]).run Tryz.prog W = .ok (cSte y Q) W) (first | (refine FS.out _ ?_; exact bl; done) | (go_keep; done)) (first
       | (have t := hb5; go_at_call 21; refine (D6.out _ bl).mono ?_; rintro e w6 ⟨rfl, hb6⟩)
       | (have t := hb4; go_at_call 20; refine (D5.out _ bl).mono ?_; rintro e v5 ⟨rfl, hb5⟩)
       | (have t := hb3; go_at_call 19; refine (D4.out _ bl).mono ?_; rintro e v4 ⟨rfl, hb4⟩)
       | (have t := hb2; go_at_call 18; refine (D3.out _ bl).mono ?_; rintro e v3 ⟨rfl, hb3⟩)
       | (have t := hb1; go_at_call 17; refine (D2.out _ bl).mono ?_; rintro e v2 ⟨rfl, hb2⟩)
       | (go_at_call 16; refine (D1.out _ bl).mono ?_; rintro e v1 ⟨rfl, hb1⟩))
      all_goals
       have HB6 : Hid (Below wr.heap.size wr w6) := Lib.hid bl
       clear hb1 hb2 hb3 hb4 hb5 hb6
       go_wp2_with fail
       go_roundw
       case rel => first | exact ⟨k + 1, by omega, by go_num, Lib.hid (by have h := HW.out; have h2 := HB6.out; exact bl)⟩ | ((repeat apply Exists.intro); refine And.intro ?_ rfl; exact ⟨k + 1, by omega, by go_num, Lib.hid (by have h := HW.out; have h2 := HB6.out; exact bl)⟩)
       case measure => simp [intOf]; omega
    · obtain rfl : ms = k := by omega
      go_wp2_with fail
      refine (awake_any _).mono ?_
      rintro e wz ⟨rfl, hbz⟩
      go_wp2_with fail
      go_ret
      exact ⟨rfl, by have h := HBW.out; exact bl⟩
end Go.Proofs.YtaaffmbnhjaebaaGreat.Md
