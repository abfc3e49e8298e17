/-
  Parts of this proof: The contract of the reference's Schedule. The contract of the reference's Keyword. The contract of the reference's Check. The contract of the reference's check of a node and its parts, and of the reference's Check and CheckCode. The reference's check of a node, by forms.
-/
import Derived.Test.YtaaffmbnhjaebaaGreatZMathxa
import Derived.Test.YtaaffmbnhjaebaaGreatZQFrm
import Derived.Test.YtaaffmbnhjaebaaGreatZNmFindxab
namespace Go.Proofs.YtaaffmbnhjaebaaGreat.Md
open Go.RowKit Go.Maps
open Go.Proofs.YtaaffmbnhjaebaaGreat.Ex (Lo Gives ret_int)
attribute [local go_sem] cChg0 cChg1
set_option maxHeartbeats 4000000
set_option linter.unusedVariables false
theorem within_gives {lo n hi : Int} {b : Bool} (h : btw lo n hi = b) (w : World) : Calls Tryz.prog 70 #[.int .i64 n, .int .i64 lo, .int .i64 hi] w (Stay (.bool b) w) := by rw [← h]; exact within_any lo n hi w
theorem zQRsda_0 {p : Prop} (h : p := by
 go_wp2_with fail
 go_ret
 exact ⟨ret_int HN.out.symm, by have HBB := HBW.out; exact bl⟩
 ) : p := h
set_option maxRecDepth 100000 in
theorem rschedule_any (x : Res) (P : PRes) (w : World) (hx : Rw 2 RChg (Lo w.heap.size) w x.sh P.shp P.shm) : Calls Tryz.prog 141 #[.agg (cRes x P)] w (Gives (.int .i64 (schE x.sh x.cy)) w) := by
 have HH := Lib.hid hx
 obtain ⟨hlm, hm⟩ := hx.len
 obtain ⟨l, hlx⟩ : ∃ l, x.sh = l := ⟨_, rfl⟩
 obtain ⟨m, hmx⟩ : ∃ m, P.shm = m := ⟨_, rfl⟩
 obtain ⟨cy, hcx⟩ : ∃ c, x.cy = c := ⟨_, rfl⟩
 have FX := far (w := w) 92 (cRes x P)
 have hc2 : (cRes x P)[2]? = some (.slice P.shp m P.shc) := by rw [cRes2, hmx]
 have hc3 : (cRes x P)[3]? = some (.int .i64 cy) := by rw [cRes3, hcx]
 have FK : Hid (∀ W, Below (w.alloc (.cells (cRes x P) 92)).heap.size (w.alloc (.cells (cRes x P) 92)) W → W.cell? ⟨w.heap.size, 2, none⟩ = some (.slice P.shp m P.shc) ∧ W.cell? ⟨w.heap.size, 3, none⟩ = some (.int .i64 cy)) := Lib.hid fun W hb => ⟨(FX.out W hb).get hc2, (FX.out W hb).get hc3⟩
 rw [hlx] at HH hlm ⊢
 rw [hmx] at HH hlm hm
 rw [hcx]
 obtain ⟨e2, e3⟩ := FK.out (w.alloc (.cells (cRes x P) 92)) (Below.refl _ _)
 have HL := Lib.hid hlm
 clear hx hlx hmx hcx hc2 hc3
 by_cases hm0 : m = 0
 · subst hm0
   obtain ⟨b, hb⟩ : ∃ b, (cy == 0) = b := ⟨_, rfl⟩
   rw [show schE l cy = unl b 1 by
    unfold schE unl
    rw [hlm, if_pos rfl, ← hb]
    by_cases h : cy = 0
    · subst h; rfl
    · rw [if_neg h, beq_eq_false_iff_ne.2 h]; rfl]
   clear hlm hm
   have CU := Lib.hid (fun W => unless_any b 1 W)
   go_enter Tryz.func141, Tryz.ntmps141
   go_wp2_with fail
   refine (CU.out _).mono ?_
   rintro e w2 ⟨rfl, rfl⟩
   go_wp2_with fail
   go_ret
   exact ⟨rfl, bl⟩
 have e1 : ((m : Int) == 0) = false := beq_eq_false_iff_ne.2 (by omega)
 by_cases h20 : 20 < m
 · have e4 : decide ((20 : Int) < (m : Int)) = true := decide_eq_true (by omega)
   have e5 : (20 : Int) < (m : Int) := by omega
   rw [show schE l cy = 6 by unfold schE; rw [hlm, if_neg hm0, if_pos h20]]
   clear hlm hm hm0 h20
   go_enter Tryz.func141, Tryz.ntmps141
   go_wp2_with fail
   go_ret
   exact ⟨rfl, bl⟩
 have e4 : decide ((20 : Int) < (m : Int)) = false := decide_eq_false (by omega)
 have e5 : (m : Int) ≤ 20 := by omega
 obtain ⟨r, hr⟩ : ∃ r, btw 1 cy 1000000000 = r := ⟨_, rfl⟩
 have CB := Lib.hid (fun W => within_gives hr W)
 have HE : Hid (schE l cy = if r then chgL cy none l else 2) := Lib.hid (by unfold schE; rw [hlm, if_neg hm0, if_neg h20, hr])
 cases r with
 | false =>
  rw [show schE l cy = 2 from HE.out]
  clear hlm hm hm0 h20 hr
  go_enter Tryz.func141, Tryz.ntmps141
  go_wp2_with fail
  refine (CB.out _).mono ?_
  rintro e w2 ⟨rfl, rfl⟩
  go_wp2_with fail
  go_ret
  exact ⟨rfl, bl⟩
 | true =>
  rw [show schE l cy = chgL cy none l from HE.out]
  have hcy : 1 ≤ cy ∧ cy ≤ 1000000000 := by
   unfold btw at hr
   simpa using hr
  have cy1 := hcy.1
  have cy2 := hcy.2
  have cy3 : IntKind.i64.wrap (cy - 1) = cy - 1 := by rw [IntKind.wrap_i64]; omega
  clear hlm hm hm0 h20 hr hcy
  obtain ⟨kk, hkk⟩ : ∃ n : Nat, 2 = n := ⟨_, rfl⟩
  have hsz : ∀ w, (sizeOf 163).run Tryz.prog w = .ok kk w := fun w => by rw [Tryz.sizeOf163, hkk]
  have HKK := Lib.hid hkk
  clear hkk
  go_enter Tryz.func141, Tryz.ntmps141
  go_wp2_with fail
  refine (CB.out _).mono ?_
  rintro e w2 ⟨rfl, rfl⟩
  go_wp2_with fail
  clear e2 e3
  go_loopw [3] (fun i wr => ∃ k : Nat, k ≤ m ∧ i = .int .i64 (k : Nat) ∧ Hid (Below (w.alloc (.cells (cRes x P) 92)).heap.size (w.alloc (.cells (cRes x P) 92)) wr) ∧ Hid (chgL cy none (l.take k) = 0)) (fun i _ => m - (intOf i).toNat)
  case atStart => exact ⟨0, Nat.zero_le _, rfl, Lib.hid bl, Lib.hid rfl⟩
  case round =>
   obtain ⟨k, hk, rfl, HW, HA⟩ := hrel
   have k0 : (0 : Int) ≤ (k : Int) := by omega
   have HBW : Hid (Below w.heap.size w wr) := Lib.hid (by have HBB := HW.out; exact bl)
   obtain ⟨e2, e3⟩ := FK.out wr HW.out
   rcases Nat.lt_or_ge k m with h | h
   · have k1 : (k : Int) < (m : Int) := by omega
     have hkl : k < l.length := by rw [HL.out]; exact h
     have hgx := List.getElem?_eq_getElem hkl
     obtain ⟨b, o, hp, hbG, hG, hcell⟩ := (HH.out.below RChg.map HBW.out).rows (by omega)
     rw [hp] at e2 FK
     obtain ⟨d, hds, hat, hR⟩ := hcell.out k hkl
     have HCL := hcell
     have HG := Lib.hid hG
     obtain ⟨y, hy⟩ : ∃ y, l[k] = y := ⟨_, rfl⟩
     rw [hy] at hgx hR
     obtain rfl : d = cChg y := hR
     have hcsz : (cChg y).size = kk := by rw [hds, HKK.out]
     have hat2 := hat.at HKK.out
     have bt : Big 163 (cChg y).size := by rw [hds]; exact bChg
     have ld1 := hat2.ldN hcsz
     have ld2 := hat2.ldV bt
     have ld3 := hat2.ldA bt
     have st1 := fun (z : Array Value) (hz : z.size = 2) => put_C bt (cChg_one y) z (by rw [hz, hds])
     have st2 := fun (z : Array Value) (hz : z.size = 2) => put_V bt (cChg_one y) z (by rw [hz, hds])
     have st3 := fun (z : Array Value) (hz : z.size = 2) => put_A bt (cChg_one y) z (by rw [hz, hds])
     obtain ⟨s2, s3⟩ := FK.out (wr.alloc (.cells (cChg y) 163)) (by have HBB := HW.out; exact bl)
     have HX := Lib.hid hgx
     obtain ⟨q1, hq1⟩ : ∃ r, btw 0 y.t (cy - 1) = r := ⟨_, rfl⟩
     obtain ⟨q2, hq2⟩ : ∃ r, isU y.u = r := ⟨_, rfl⟩
     have C1 := Lib.hid (fun W => within_gives hq1 W)
     have C2 := Lib.hid (fun W => (show Calls Tryz.prog 70 #[.int .i64 y.u, .int .i64 0, .int .i64 1000] W (Stay (.bool q2) W) by rw [← hq2]; exact within_any _ _ _ W))
     have HEx : Hid (∀ pr, chgE cy pr y = if q1 && q2 then (match pr with | none => 0 | some d => if y.t ≤ d.t then 12 else 0) else 2) := Lib.hid (fun pr => by unfold chgE; rw [hq1, hq2]; cases pr <;> rfl)
     clear hcell hds hat hat2 hgx hy hkl hq1 hq2 bt hcsz hp
     cases q1 with
     | false =>
      have HN := Lib.hid (chgL_stop HX.out HA.out (by rw [HEx.out]; simp))
      rw [show chgE cy (prevC l k) y = 2 by rw [HEx.out]; rfl] at HN
      clear HEx HCL hG
      go_wp2_with fail
      refine (C1.out _).mono ?_
      rintro e w3 ⟨rfl, rfl⟩
      exact zQRsda_0
     | true =>
      cases q2 with
      | false =>
       have HN := Lib.hid (chgL_stop HX.out HA.out (by rw [HEx.out]; simp))
       rw [show chgE cy (prevC l k) y = 2 by rw [HEx.out]; rfl] at HN
       clear HEx HCL hG
       go_wp2_with fail
       refine (C1.out _).mono ?_
       rintro e w3 ⟨rfl, rfl⟩
       go_wp2_with fail
       refine (C2.out _).mono ?_
       rintro e w3 ⟨rfl, rfl⟩
       exact zQRsda_0
      | true =>
       rcases Nat.eq_zero_or_pos k with hk0 | hk0
       · subst hk0
         rw [show o + 0 * kk = o by omega] at ld1 ld2 ld3
         have HN := Lib.hid (chgL_next HX.out HA.out (by rw [HEx.out]; rfl))
         clear HEx HCL hG
         go_wp2_with fail
         refine (C1.out _).mono ?_
         rintro e w3 ⟨rfl, rfl⟩
         go_wp2_with fail
         refine (C2.out _).mono ?_
         rintro e w3 ⟨rfl, rfl⟩
         go_wp2_with fail
         try (go_quiet (fail); go_wp2_with fail)
         go_roundw
         case rel => exact ⟨0 + 1, by omega, by go_num, Lib.hid (by have HBB := HW.out; exact bl), HN⟩
         case measure => simp [intOf]; omega
       · obtain ⟨j, hj⟩ : ∃ j, k = j + 1 := ⟨k - 1, by omega⟩
         have hjl : j < l.length := by rw [HL.out]; omega
         obtain ⟨d, hds, hat, hR⟩ := HCL.out j hjl
         have hgy := List.getElem?_eq_getElem hjl
         obtain ⟨z, hy⟩ : ∃ y, l[j] = y := ⟨_, rfl⟩
         rw [hy] at hgy hR
         have f0 := (hat.on (show Below wr.heap.size wr (wr.alloc (.cells (cChg y) 163)) by exact bl) HG.out).get (r := 0) (v := .int .i64 z.t) (by rw [hR]; rfl)
         rw [show o + j * 2 + 0 = o + j * kk by rw [← HKK.out, Nat.add_zero]] at f0
         have HP : Hid (prevC l k = some z) := Lib.hid (by rw [hj]; exact prev_succ hgy)
         have HO : Hid (k = j + 1) := Lib.hid hj
         have g1 : (k : Int) - 1 = (j : Int) := by omega
         have g2 : (0 : Int) ≤ (j : Int) := by omega
         have g3 : (j : Int) < (m : Int) := by omega
         have g4 : IntKind.i64.wrap (j : Int) = (j : Int) := by rw [IntKind.wrap_i64]; omega
         have g5 : decide ((0 : Int) < (k : Int)) = true := decide_eq_true (by omega)
         have g6 : decide (0 < k) = true := decide_eq_true hk0
         clear hjl hds hat hR hgy hy hj HCL hG
         by_cases hxy : y.t ≤ z.t
         · have HN := Lib.hid (chgL_stop HX.out HA.out (by rw [HEx.out, HP.out]; simp [hxy]))
           rw [show chgE cy (prevC l k) y = 12 by rw [HEx.out, HP.out]; exact if_pos hxy] at HN
           have g7 := decide_eq_true hxy
           clear HEx HP
           go_wp2_with fail
           refine (C1.out _).mono ?_
           rintro e w3 ⟨rfl, rfl⟩
           go_wp2_with fail
           refine (C2.out _).mono ?_
           rintro e w3 ⟨rfl, rfl⟩
           go_wp2_with fail
           go_quiet (fail)
           exact zQRsda_0
         · have HN := Lib.hid (chgL_next HX.out HA.out (by rw [HEx.out, HP.out]; exact if_neg hxy))
           have g7 := decide_eq_false hxy
           clear HEx HP
           go_wp2_with fail
           refine (C1.out _).mono ?_
           rintro e w3 ⟨rfl, rfl⟩
           go_wp2_with fail
           refine (C2.out _).mono ?_
           rintro e w3 ⟨rfl, rfl⟩
           go_wp2_with fail
           go_quiet (fail)
           go_wp2_with fail
           go_roundw
           case rel => exact ⟨k + 1, by omega, by go_num, Lib.hid (by have HBB := HW.out; exact bl), HN⟩
           case measure => simp [intOf]; omega
   · obtain rfl : m = k := by omega
     have HT := Lib.hid (show chgL cy none l = 0 by have h1 := HA.out; rwa [List.take_of_length_le (by rw [HL.out]; exact Nat.le_refl _)] at h1)
     go_wp2_with fail
     go_ret
     exact ⟨ret_int HT.out.symm, HBW.out⟩
end Go.Proofs.YtaaffmbnhjaebaaGreat.Md
namespace Go.Proofs.YtaaffmbnhjaebaaGreat.Na
open Go.RowKit
set_option maxHeartbeats 2000000
def sv (l : List ByteArray) : List Value := l.map Value.string
theorem sv_get {l : List ByteArray} {i : Nat} (h : i < l.length) : (sv l)[i]? = some (.string (l[i])) := by unfold sv; simp [h]
theorem strs_lit {w : World} {l : List ByteArray} {cs : Array Value} (h : (sv l).toArray = cs) (hl : l.length ≤ 9223372036854775807) : Strs (w.alloc (.cells cs 9)) (some ⟨w.heap.size, 0, none⟩) l.length l := by
 subst h
 refine ⟨rfl, hl, .inr ⟨_, _, rfl, by simp, Lib.hid fun i hi => ?_⟩⟩
 rw [World.cell?_alloc_mark, Nat.zero_add, List.getElem?_toArray]
 exact sv_get hi
def mkS (l : List UInt8) : ByteArray := ⟨l.toArray⟩
def kwS : List ByteArray := kwl.map mkS
theorem fst_has (s : ByteArray) : ∀ L : List (List UInt8), decide (0 ≤ fst (L.map mkS) s) = L.contains (bs s)
 | [] => rfl
 | x :: t => by
  have ih := fst_has s t
  have h0 : (fst ((x :: t).map mkS) s) = if x = bs s then 0 else if fst (t.map mkS) s = -1 then -1 else fst (t.map mkS) s + 1 := rfl
  rw [h0, List.contains_cons, ← ih]
  by_cases h : x = bs s
  · rw [if_pos h, h]; simp
  · rw [if_neg h]
    have hb : (bs s == x) = false := beq_eq_false_iff_ne.2 fun g => h g.symm
    rw [hb, Bool.false_or]
    have := fst_ge s (t.map mkS)
    by_cases h2 : fst (t.map mkS) s = -1
    · rw [if_pos h2, h2]
    · rw [if_neg h2]
      rw [decide_eq_decide]
      omega
theorem fst_kw (s : ByteArray) : decide (0 ≤ fst kwS s) = isKw (bs s) := fst_has s kwl
set_option maxRecDepth 100000 in
theorem keywords_any (w : World) : Calls Tryz.prog 116 #[] w fun e w' => e = .returned (.slice (some ⟨w.heap.size, 0, none⟩) 73 73) ∧ Strs w' (some ⟨w.heap.size, 0, none⟩) 73 kwS ∧ Below w.heap.size w w' := by
 go_enter Tryz.func116, Tryz.ntmps116
 go_wp2_with fail
 go_ret
 exact ⟨rfl, strs_lit (l := kwS) (by kernel_rfl) (by decide), bl_alloc (Below.refl _ _)⟩
theorem rkeyword_any (s : ByteArray) (w : World) : Calls Tryz.prog 64 #[.string s] w (Gives (.bool (isKw (bs s))) w) := by
 have HR := Lib.hid (fst_kw s)
 go_enter Tryz.func64, Tryz.ntmps64
 go_wp2_with fail
 refine (keywords_any w).mono ?_
 rintro e w1 ⟨rfl, hs, hb1⟩
 have I1 := rfind_any (some ⟨w.heap.size, 0, none⟩) 73 73 kwS s w1 hs
 obtain ⟨x, hx⟩ : ∃ x, fst kwS s = x := ⟨_, rfl⟩
 rw [hx] at I1 HR
 clear hs hx
 go_wp2_with fail
 refine I1.mono ?_
 rintro e w2 ⟨rfl, rfl⟩
 clear I1
 by_cases h : 0 ≤ x
 · have t : decide (0 ≤ x) = true := decide_eq_true h
   rw [t] at HR
   go_wp2_with fail
   go_ret
   exact ⟨ret_bool HR.out, hb1⟩
 · have t : decide (0 ≤ x) = false := decide_eq_false h
   rw [t] at HR
   go_wp2_with fail
   go_ret
   exact ⟨ret_bool HR.out, hb1⟩
end Go.Proofs.YtaaffmbnhjaebaaGreat.Na
namespace Go.Proofs.YtaaffmbnhjaebaaGreat.Na
open Go.RowKit
set_option maxHeartbeats 2000000
theorem rkeyword_at {s : ByteArray} {b : Bool} (h : isKw (bs s) = b) (w : World) : Calls Tryz.prog 64 #[.string s] w (Gives (.bool b) w) := by rw [← h]; exact rkeyword_any s w
theorem dig_yes {x : Int} (h1 : ¬ x < 48) (h2 : ¬ 57 < x) : digI x = true := by unfold digI; simp; omega
theorem dig_no {x : Int} (h : x < 48 ∨ 57 < x) : digI x = false := by unfold digI; simp; omega
theorem zNmRChecka_0 {p : Prop} (h : p := by
 rintro e w3 ⟨rfl, rfl⟩
 go_wp2_with fail
 go_round
 case rel => exact ⟨k + 1, by omega, by go_num, HY2⟩
 case measure => simp [intOf]; omega
 ) : p := h
theorem zNmRChecka_1 {p : Prop} (h : p := by
 clear HY HN g1
 go_wp2_with fail
 refine (rletter_at g1' w2).mono ?_
 rintro e w3 ⟨rfl, rfl⟩
 go_wp2_with fail
 go_ret
 exact ⟨ret_int HR.out.symm, hb2⟩
 ) : p := h
set_option maxRecDepth 100000 in
theorem rcheck_any (s : ByteArray) (w : World) (hs : s.size ≤ 9223372036854775807) : Calls Tryz.prog 33 #[.string s] w (Gives (.int .i64 (chk (bs s))) w) := by
 have hs' : (s.size : Int) ≤ 9223372036854775807 := by omega
 by_cases h1 : s.size < 1
 · have t1 : decide ((s.size : Int) < 1) = true := decide_eq_true (by omega)
   have HR := Lib.hid (bad_short (l := bs s) (by rw [bs_len]; exact h1))
   go_enter Tryz.func33, Tryz.ntmps33
   go_wp2_with fail
   go_ret
   exact ⟨ret_int HR.out.symm, Below.refl _ _⟩
 have t1 : decide ((s.size : Int) < 1) = false := decide_eq_false (by omega)
 by_cases h2 : 24 < s.size
 · have t2 : decide (24 < (s.size : Int)) = true := decide_eq_true (by omega)
   have HR := Lib.hid (bad_long (l := bs s) (by rw [bs_len]; exact h2))
   go_enter Tryz.func33, Tryz.ntmps33
   go_wp2_with fail
   go_ret
   exact ⟨ret_int HR.out.symm, Below.refl _ _⟩
 have t2 : decide (24 < (s.size : Int)) = false := decide_eq_false (by omega)
 have c0 : (0 : Int) < (s.size : Int) := by omega
 have hs0 : 0 < s.size := by omega
 by_cases h3 : ltrI ((s[0]).toNat : Int) = true
 · by_cases h4 : isKw (bs s) = true
   · have HR := Lib.hid (bad_kw h4)
     go_enter Tryz.func33, Tryz.ntmps33
     go_wp2_with fail
     refine (rletter_at h3 w).mono ?_
     rintro e w1 ⟨rfl, rfl⟩
     go_wp2_with fail
     refine (rkeyword_at h4 w1).mono ?_
     rintro e w2 ⟨rfl, hb2⟩
     go_wp2_with fail
     go_ret
     exact ⟨ret_int HR.out.symm, hb2⟩
   · have h4' : isKw (bs s) = false := by simpa using h4
     have HL : Hid (1 ≤ (bs s).length ∧ (bs s).length ≤ 24) := Lib.hid (by rw [bs_len]; omega)
     have HC := Lib.hid (show ltrC (bs s)[0] = true from h3)
     have HK := Lib.hid h4'
     have HLs := Lib.hid (bs_len s)
     go_enter Tryz.func33, Tryz.ntmps33
     go_wp2_with fail
     refine (rletter_at h3 w).mono ?_
     rintro e w1 ⟨rfl, rfl⟩
     go_wp2_with fail
     refine (rkeyword_at h4' w1).mono ?_
     rintro e w2 ⟨rfl, hb2⟩
     go_wp2_with fail
     go_loop [3] (fun i => ∃ k : Nat, k ≤ s.size ∧ i = .int .i64 (k : Nat) ∧ Hid (Good (bs s) k)) (fun i => s.size - (intOf i).toNat)
     case atStart => exact ⟨0, Nat.zero_le _, rfl, Lib.hid good_zero⟩
     case round =>
      obtain ⟨k, hk, rfl, HG⟩ := hrel
      have d1 : (0 : Int) ≤ (k : Int) := by omega
      rcases Nat.lt_or_ge k s.size with h | h
      · have hks : k < (bs s).length := by rw [HLs.out]; exact h
        have d2 : (k : Int) < (s.size : Int) := by omega
        have HY : Hid (goodI ((s[k]).toNat : Int) = true → Good (bs s) (k + 1)) := Lib.hid (fun h => good_step hks HG.out h)
        have HN : Hid (goodI ((s[k]).toNat : Int) = false → chk (bs s) = 3) := Lib.hid (fun h => bad_at hks h)
        by_cases g1 : ltrI ((s[k]).toNat : Int) = true
        · have HY2 := Lib.hid (HY.out (good_let g1))
          clear HY HN
          go_wp2_with fail
          refine (rletter_at g1 w2).mono ?_
          exact zNmRChecka_0
        have g1' : ltrI ((s[k]).toNat : Int) = false := by simpa using g1
        by_cases g3 : ((s[k]).toNat : Int) = 95
        · have HY2 := Lib.hid (HY.out (good_low g3))
          have q3 : (((s[k]).toNat : Int) == 95) = true := beq_iff_eq.2 g3
          have q3b : (((s[k]).toNat : Int) != 95) = false := by simp [g3]
          clear HY HN g1
          go_wp2_with fail
          refine (rletter_at (x := 95) (b := false) (by decide) w2).mono ?_
          exact zNmRChecka_0
        have q3 : (((s[k]).toNat : Int) == 95) = false := beq_eq_false_iff_ne.2 g3
        have q3b : (((s[k]).toNat : Int) != 95) = true := by simp only [bne, q3]; rfl
        by_cases g4 : ((s[k]).toNat : Int) < 48
        · have HR := Lib.hid (HN.out (good_not g1' (dig_no (.inl g4)) g3))
          have q4 : decide (((s[k]).toNat : Int) < 48) = true := decide_eq_true g4
          exact zNmRChecka_1
        have q4 : decide (((s[k]).toNat : Int) < 48) = false := decide_eq_false g4
        by_cases g5 : 57 < ((s[k]).toNat : Int)
        · have HR := Lib.hid (HN.out (good_not g1' (dig_no (.inr g5)) g3))
          have q5 : decide (57 < ((s[k]).toNat : Int)) = true := decide_eq_true g5
          exact zNmRChecka_1
        · have HY2 := Lib.hid (HY.out (good_dig (dig_yes g4 g5)))
          have q5 : decide (57 < ((s[k]).toNat : Int)) = false := decide_eq_false g5
          clear HY HN g1
          go_wp2_with fail
          refine (rletter_at g1' w2).mono ?_
          exact zNmRChecka_0
      · have hk' : k = s.size := by omega
        have HR := Lib.hid (good_end HG.out (by rw [HLs.out, hk']) HL.out.1 HL.out.2 HC.out HK.out)
        have q : decide ((k : Int) < (s.size : Int)) = false := decide_eq_false (by omega)
        clear hk'
        go_wp2_with fail
        go_ret
        exact ⟨ret_int HR.out.symm, hb2⟩
 · have h3' : ltrI ((s[0]).toNat : Int) = false := by simpa using h3
   have HR := Lib.hid (bad_head (l := bs s) (by rw [bs_len]; exact hs0) h3')
   go_enter Tryz.func33, Tryz.ntmps33
   go_wp2_with fail
   refine (rletter_at h3' w).mono ?_
   rintro e w1 ⟨rfl, rfl⟩
   go_wp2_with fail
   go_ret
   exact ⟨ret_int HR.out.symm, Below.refl _ _⟩
end Go.Proofs.YtaaffmbnhjaebaaGreat.Na
namespace Go.Proofs.YtaaffmbnhjaebaaGreat.Ex
open Go.RowKit
open Go.Proofs.YtaaffmbnhjaebaaGreat.Na (bs chk)
set_option maxHeartbeats 4000000
set_option linter.unusedVariables false
theorem bad_mk {c : Bool} {o n : Int} {s : ByteArray} {l : List Ex} : bad c (pre (.mk o s n l)) = if nd c o (bs s) n l.length = 0 then bad c (preL l) else nd c o (bs s) n l.length := by rw [pre_one, bad]; rfl
theorem badL_step {c : Bool} {l : List Ex} {k : Nat} {x : Ex} (hx : l[k]? = some x) (h : bad c (preL (l.take k)) = 0) : bad c (preL (l.take (k + 1))) = bad c (pre x) := by rw [preL_take hx, bad_app_yes h]
theorem badL_stop {c : Bool} {l : List Ex} {k : Nat} {x : Ex} (hx : l[k]? = some x) (h : bad c (preL (l.take k)) = 0) (g : ¬ bad c (pre x) = 0) : bad c (preL l) = bad c (pre x) := by
 have h1 := badL_step hx h
 have h2 := preL_app (l.take (k + 1)) (l.drop (k + 1))
 rw [List.take_append_drop] at h2
 rw [h2, bad_app_no (by rw [h1]; exact g), h1]
theorem emp_no' {s : ByteArray} (h : ¬ bs s = []) : s.toList.isEmpty = false := by
 rw [Lib.toList_data]
 show (bs s).isEmpty = false
 cases g : bs s with
 | nil => exact absurd g h
 | cons x t => rfl
theorem emp_yes' {s : ByteArray} (h : bs s = []) : s.toList.isEmpty = true := by
 rw [Lib.toList_data]
 show (bs s).isEmpty = true
 rw [h]; rfl
theorem box4_drewN {w : World} {g : Nat} {o : Int} {s : ByteArray} {n : Int} {p : Option Addr} {m c : Nat} (h : box4 w g o s n p m c) (k : Nat) : box4 (w.drewN k) g o s n p m c := h
theorem arity_gives {o x : Int} (h : ari o = x) (w : World) : Calls Tryz.prog 202 #[.int .i64 o] w fun e w' => e = .returned (.int .i64 x) ∧ w' = w := by rw [← h]; exact arity_any o w
theorem object_gives {o : Int} {x : Bool} (h : obj o = x) (w : World) : Calls Tryz.prog 203 #[.int .i64 o] w fun e w' => e = .returned (.bool x) ∧ w' = w := by rw [← h]; exact object_any o w
theorem rcheck_gives {s : ByteArray} {x : Int} (h : chk (bs s) = x) (hs : s.size ≤ 9223372036854775807) (w : World) : Calls Tryz.prog 33 #[.string s] w (Gives (.int .i64 x) w) := by rw [← h]; exact Na.rcheck_any s w hs
theorem most_gives {o x : Int} (h : most o = x) (w : World) : Calls Tryz.prog 204 #[.int .i64 o] w fun e w' => e = .returned (.int .i64 x) ∧ w' = w := by rw [← h]; exact most_any o w
theorem rin_gives {n : Int} {x : Bool} (h : inI n = x) (w : World) : Calls Tryz.prog 117 #[.int .i64 n] w fun e w' => e = .returned (.bool x) ∧ w' = w := by rw [← h]; exact rin_any n w
section
variable {c : Bool} {o n : Int} {s : List UInt8} {m : Nat}
theorem nb_bad (h : badF c o s n m = true) : nd c o s n m = 1 := by unfold nd; rw [if_pos h]
theorem nb_kn (h : known c o = false) : nd c o s n m = 1 := nb_bad (by unfold badF; rw [h]; simp)
theorem nb_s (h : named c o = false) (g : ¬ s = []) : nd c o s n m = 1 := nb_bad (by unfold badF; rw [h, decide_eq_false g]; simp)
theorem nb_n (h : numbered c o = false) (g : ¬ n = 0) : nd c o s n m = 1 := nb_bad (by unfold badF; rw [h, decide_eq_false g]; simp)
theorem nb_m {A : Int} (h : ari o = A) (g : ¬ (m : Int) = A) : nd c o s n m = 1 := nb_bad (by unfold badF; rw [h, decide_eq_false g]; simp)
theorem nb_fair {a b : Bool} {A : Int} (h : known c o = true) (hn : named c o = a) (hb : numbered c o = b) (hA : ari o = A) (h1 : a = true ∨ s = []) (h2 : b = true ∨ n = 0) (h3 : (m : Int) = A) : nd c o s n m = if badR c o n then 2 else if a then chk s else 0 := by
 have hf : badF c o s n m = false := by
  unfold badF
  rw [h, hn, hb, hA, decide_eq_true h3]
  rcases h1 with h1 | h1 <;> rcases h2 with h2 | h2 <;> simp [h1, h2]
 unfold nd
 rw [if_neg (by rw [hf]; decide), hn]
end
def IHn (cc : Bool) (l : List Ex) : Prop := ∀ x ∈ l, ∀ (p : Option Addr) (m c : Nat) (w : World), In w x p m → Sz x → Calls Tryz.prog 201 #[.agg #[.int .i64 x.o, .string x.s, .int .i64 x.n, .slice p m c], .bool cc] w (Gives (.int .i64 (bad cc (pre x))) w)
end Go.Proofs.YtaaffmbnhjaebaaGreat.Ex
namespace Go.Proofs.YtaaffmbnhjaebaaGreat.Ex
open Go.RowKit
open Go.Proofs.YtaaffmbnhjaebaaGreat.Na (bs)
set_option maxHeartbeats 4000000
set_option linter.unusedVariables false
set_option linter.unusedSimpArgs false
theorem zERNo8a_0 {p : Prop} (h : p := by
 rw [HV.out, if_neg (by decide)]
 clear hkn hA hB
 go_enter Tryz.func201, Tryz.ntmps201
 go_wp2_with (first | (go_at_call 202; refine (HA.out _).mono ?_; rintro e w1 ⟨rfl, rfl⟩) | (go_at_call 203; refine (HB.out _).mono ?_; rintro e w1 ⟨rfl, rfl⟩))
 go_ret
 exact ⟨rfl, bl⟩
 ) : p := h
set_option maxRecDepth 100000 in
theorem rn_SlotF (l : List Ex) (ih : IHn false l) (s : ByteArray) (n : Int) (p : Option Addr) (m c : Nat) (w : World) (h : In w (.mk (25) s n l) p m) (hs : Sz (.mk (25) s n l)) : Calls Tryz.prog 201 #[.agg #[.int .i64 (25), .string s, .int .i64 n, .slice p m c], .bool false] w (Gives (.int .i64 (bad false (pre (.mk (25) s n l)))) w) := by
 have HH := Lib.hid h
 have HI := Lib.hid ih
 obtain ⟨hl, hm⟩ := h.len
 have HL := Lib.hid hl
 have HS := Lib.hid hs
 have hsz := hs.self
 rw [bad_mk, hl]
 clear ih h hl hs
 have hA : ari (25) = 0 := rfl
 have hB : obj (25) = false := rfl
 have HA := Lib.hid (fun W => arity_gives hA W)
 have HB := Lib.hid (fun W => object_gives hB W)
 have hkn : known false (25) = false := rfl
 have HV := Lib.hid (show nd false (25) (bs s) n m = 1 from nb_kn hkn)
 exact zERNo8a_0
set_option maxRecDepth 100000 in
theorem rn_VarF (l : List Ex) (ih : IHn false l) (s : ByteArray) (n : Int) (p : Option Addr) (m c : Nat) (w : World) (h : In w (.mk (26) s n l) p m) (hs : Sz (.mk (26) s n l)) : Calls Tryz.prog 201 #[.agg #[.int .i64 (26), .string s, .int .i64 n, .slice p m c], .bool false] w (Gives (.int .i64 (bad false (pre (.mk (26) s n l)))) w) := by
 have HH := Lib.hid h
 have HI := Lib.hid ih
 obtain ⟨hl, hm⟩ := h.len
 have HL := Lib.hid hl
 have HS := Lib.hid hs
 have hsz := hs.self
 rw [bad_mk, hl]
 clear ih h hl hs
 have hA : ari (26) = 0 := rfl
 have hB : obj (26) = false := rfl
 have HA := Lib.hid (fun W => arity_gives hA W)
 have HB := Lib.hid (fun W => object_gives hB W)
 have hkn : known false (26) = false := rfl
 have HV := Lib.hid (show nd false (26) (bs s) n m = 1 from nb_kn hkn)
 exact zERNo8a_0
end Go.Proofs.YtaaffmbnhjaebaaGreat.Ex
