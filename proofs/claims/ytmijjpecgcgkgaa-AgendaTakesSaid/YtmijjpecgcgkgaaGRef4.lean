/-
  The contract of the reference's Drop.
-/
import Derived.Test.YtmijjpecgcgkgaaGRef3
import Derived.Test.YtmijjpecgcgkgaaGRef2
namespace Go.Proofs.Ytmijjpecgcgkgaa.Ag
open Go.RowKit
set_option maxHeartbeats 4000000
/-- A list, an event and a yes or no, wherever the list lies. -/
def ListEvR (w : World) (m : Nat) (z : Bool) (x : Ev) (E : Nat → Ev) (e : Ending) (w' : World) : Prop := ∃ p c, e = .returned (.tuple #[.slice p m c, .agg #[.int .i64 x.t, .int .i64 x.p, .int .i64 x.f, .int .i64 x.s, .int .i64 x.st, .int .i64 x.k, .int .i64 x.a, .int .i64 x.b, .slice x.ap x.al x.ac], .bool z]) ∧ Evs w' p m E ∧ Below w.heap.size w w'
theorem rdrop_no (p : Option Addr) (n c : Nat) (E : Nat → Ev) (a : Int) (w : World) (hE : Evs w p n E) (h : chkE E n ≠ 0) : Calls Try.prog 26 #[.slice p n c, .int .i64 a] w (ListEvR w 0 false zeroEv E) := by
  have Z0 : zblk (w.alloc (.cells #[.int .i64 0, .int .i64 0, .int .i64 0, .int .i64 0, .int .i64 0, .int .i64 0, .int .i64 0, .int .i64 0, .slice none 0 0] 25)) w.heap.size := zero_new
  have hz2 : (chkE E n != 0) = true := by rw [bne_iff_ne]; exact h
  clear h
  go_enter Try.func26, Try.ntmps26
  go_wp2_with fail
  refine (rcheck_any p n c E _ hE.alloc).mono ?_
  rintro e w1 ⟨rfl, hb1⟩
  obtain ⟨ZN, f1⟩ := zblk.on hb1 Z0
  obtain ⟨z0, z1, z2, z3, z4, z5, z6, z7, z8, z9⟩ := ZN
  have ZN : nine _ _ _ := ⟨z0, z1, z2, z3, z4, z5, z6, z7, z8, z9⟩
  go_wp2_with fail
  exact bodyPost_ret (v := .tuple #[.slice none 0 0, .agg #[.int .i64 0, .int .i64 0, .int .i64 0, .int .i64 0, .int .i64 0, .int .i64 0, .int .i64 0, .int .i64 0, .slice none 0 0], .bool false]) (by simp [results, Try.results26, go_sem, *]) rfl ⟨none, 0, rfl, Evs.nil, by (repeat (first | (with_reducible exact Below.refl _ _) | (with_reducible assumption) | (with_reducible apply bl_alloc) | (with_reducible apply bl_drewN) | (with_reducible apply bl_drew) | (with_reducible refine bl_set ?_ (by first | (simp; done) | (simp; omega)) _) | (with_reducible refine bl_call ?_ (by assumption))))⟩
/-- A list that does not lie in block R, nor do its arguments. -/
def EvsNe (R : Nat) (w : World) (p : Option Addr) (n : Nat) (F : Nat → Ev) : Prop := Evs w p n F ∧ (∀ a, p = some a → a.block ≠ R) ∧ ∀ i, i < n → RowNe R w (F i).ap (F i).al (F i).V
theorem EvsNe.set {R j : Nat} {w : World} {u : Value} {p : Option Addr} {n : Nat} {F : Nat → Ev} (h : EvsNe R w p n F) : EvsNe R (w.setCell ⟨R, j, none⟩ u) p n F := by
  obtain ⟨⟨hl, h | ⟨b, o, rfl, h1, h2⟩⟩, hf, hr⟩ := h
  · exact ⟨⟨hl, .inl h⟩, hf, fun i hi => (hr i hi).set⟩
  · have hb : b ≠ R := hf _ rfl
    refine ⟨⟨hl, .inr ⟨b, o, rfl, by simpa [World.setCell] using h1, Lib.hid fun i hi => ⟨?_, ((hr i hi).set).row⟩⟩⟩, hf, fun i hi => (hr i hi).set⟩
    obtain ⟨g0, g1, g2, g3, g4, g5, g6, g7, g8⟩ := (h2.out i hi).1
    exact ⟨(cell_far hb).trans g0, (cell_far hb).trans g1, (cell_far hb).trans g2, (cell_far hb).trans g3, (cell_far hb).trans g4, (cell_far hb).trans g5, (cell_far hb).trans g6, (cell_far hb).trans g7, (cell_far hb).trans g8⟩
theorem own_ne {lo R : Nat} {w : World} {v : Value} {N : Nat} {F : Nat → Ev} (h : w.ownsRow lo 25 9 v N (flat F N)) (hR : R < lo) (hN2 : N ≤ 20000) (hok : ∀ i, i < N → RowNe R w (F i).ap (F i).al (F i).V) : ∃ p d, v = .slice p N d ∧ EvsNe R w p N F := by
  rcases h.2 with ⟨rfl, rfl⟩ | ⟨g, cap, cur, rfl, hg, hcur, hcap, -⟩
  · exact ⟨none, 0, rfl, Evs.nil, fun a ha => (by cases ha), hok⟩
  · exact ⟨_, cap, rfl, ⟨by omega, .inr ⟨g, 0, rfl, (Array.getElem?_eq_some_iff.1 hcur).1, Lib.hid fun i hi => ⟨cells_own h hi, (hok i hi).row⟩⟩⟩, fun a ha => (by cases ha; show g ≠ R; omega), hok⟩
theorem flat_del {E : Nat → Ev} {n a K : Nat} (ha : a < n) (hK : K = a + 1) : flat (glue (glue E 0 E) (0 + a) (fun i => E (K + i))) (0 + a + (n - K)) = flat (delE E a) (n - 1) := by
  subst hK
  rw [show 0 + a + (n - (a + 1)) = n - 1 by omega]
  refine flat_congr fun i _ => ?_
  unfold glue delE
  rcases Nat.lt_or_ge i a with h | h
  · rw [if_pos (by omega), if_neg (by omega), if_pos h]; rfl
  · rw [if_neg (by omega), if_neg (by omega)]
    show E (a + 1 + (i - (0 + a))) = E (i + 1)
    rw [show a + 1 + (i - (0 + a)) = i + 1 by omega]
def dropM (o : Option Nat) (n : Nat) : Nat := match o with | some _ => n - 1 | none => 0
def dropB (o : Option Nat) : Bool := match o with | some _ => true | none => false
def dropX (o : Option Nat) (E : Nat → Ev) : Ev := match o with | some a => E a | none => zeroEv
def dropE (o : Option Nat) (E : Nat → Ev) : Nat → Ev := match o with | some a => delE E a | none => E
theorem rdrop_yes (p : Option Addr) (n c : Nat) (E : Nat → Ev) (v : Int) (w : World) (hE : Evs w p n E) (hW : WL p n c) (hG : Good E n) : Calls Try.prog 26 #[.slice p n c, .int .i64 v] w (ListEvR w (dropM (idx E v n) n) (dropB (idx E v n)) (dropX (idx E v n) E) (dropE (idx E v n) E)) := by
  have CK := Lib.hid (chkE_zero.2 hG)
  have hn5 := hG.1
  have hc := hW.1
  have Z0 : zblk (w.alloc (.cells #[.int .i64 0, .int .i64 0, .int .i64 0, .int .i64 0, .int .i64 0, .int .i64 0, .int .i64 0, .int .i64 0, .slice none 0 0] 25)) w.heap.size := zero_new
  clear hG
  go_enter Try.func26, Try.ntmps26
  go_wp2_with fail
  refine (rcheck_any p n c E _ hE.alloc).mono ?_
  rintro e w1 ⟨rfl, hb1⟩
  rw [CK.out]
  have Z1 := zblk.on hb1 Z0
  have hE1 := hE.alloc.on hb1
  have B1 : Below w.heap.size w w1 := by (repeat (first | (with_reducible exact Below.refl _ _) | (with_reducible assumption) | (with_reducible apply bl_alloc) | (with_reducible apply bl_drewN) | (with_reducible apply bl_drew) | (with_reducible refine bl_set ?_ (by first | (simp; done) | (simp; omega)) _) | (with_reducible refine bl_call ?_ (by assumption))))
  go_wp2_with fail
  go_loop [7] (fun i => ∃ k : Nat, k ≤ n ∧ i = .int .i64 k ∧ Hid (idx E v k = none)) (fun i => n - (intOf i).toNat)
  case atStart => exact ⟨0, Nat.zero_le _, rfl, Lib.hid rfl⟩
  case round =>
    obtain ⟨k, hk, rfl, HA⟩ := hrel
    have c0 : (0 : Int) ≤ (k : Int) := by omega
    have c1 : (k : Int) ≤ (c : Int) := by omega
    have c5 : (n : Int) ≤ 5000 := by omega
    have c6 : (n : Int) ≤ (c : Int) := by omega
    rcases Nat.lt_or_ge k n with h | h
    · have c2 : (k : Int) < (n : Int) := by omega
      obtain ⟨hl, h0 | ⟨b, o, rfl, hb, hcell⟩⟩ := hE1
      · omega
      have CK1 := (hcell.out k h).1
      have CK2 := CK1
      obtain ⟨e0, e1, e2, e3, e4, e5, e6, e7, e8⟩ := CK1
      cases h1 : ((E k).k == 2)
      · have HN := Lib.hid (idx_miss HA.out (show resB (E k) v = false by unfold resB; rw [h1]; rfl))
        go_wp2_with fail
        go_round
        case rel => exact ⟨k + 1, by omega, by go_num, HN⟩
        case measure => simp [intOf]; omega
      · cases h2 : ((E k).a == v)
        · have HN := Lib.hid (idx_miss HA.out (show resB (E k) v = false by unfold resB; rw [h1, h2]; rfl))
          go_wp2_with fail
          go_round
          case rel => exact ⟨k + 1, by omega, by go_num, HN⟩
          case measure => simp [intOf]; omega
        · have HN := Lib.hid (idx_hit HA.out (show resB (E k) v = true by unfold resB; rw [h1, h2]; rfl) h)
          obtain ⟨K, HK⟩ : ∃ K, Hid (K = k + 1) := ⟨k + 1, Lib.hid rfl⟩
          have wK : IntKind.i64.wrap ((k : Int) + 1) = (K : Int) := by have := HK.out; rw [IntKind.wrap_i64]; omega
          have K0 : (0 : Int) ≤ (K : Int) := by omega
          have K1 : (K : Int) ≤ (c : Int) := by have := HK.out; omega
          have K2 : (K : Int) ≤ (n : Int) := by have := HK.out; omega
          have O0 : (w1.alloc (.cells #[] 25)).ownsRow w1.heap.size 25 9 (.slice (some ⟨w1.heap.size, 0, none⟩) 0 0) 0 (flat E 0) := World.ownsRow_lit (w := w1) (base := w1.heap.size) (e := 25) (size := 9) #[] 0 (Nat.le_refl _) (by unfold maxLen; omega) rfl
          have hE1 : Evs w1 (some ⟨b, o, none⟩) n E := ⟨hl, .inr ⟨b, o, rfl, hb, hcell⟩⟩
          obtain ⟨v1, w3, run1, O1, B3⟩ := append_evs O0 (c := c) ((hE1.take hk).alloc (o := .cells #[] 25)) (by omega) (by simp)
          have B3 := B3 w1 rfl (by (repeat (first | (with_reducible exact Below.refl _ _) | (with_reducible assumption) | (with_reducible apply bl_alloc) | (with_reducible apply bl_drewN) | (with_reducible apply bl_drew) | (with_reducible refine bl_set ?_ (by first | (simp; done) | (simp; omega)) _) | (with_reducible refine bl_call ?_ (by assumption)))))
          have B3d : Below w1.heap.size w1 w3.drew := B3.drew
          have hE3 : Evs w3.drew (some ⟨b, o, none⟩) n E := Evs.on B3d hE1
          have hRl : w.heap.size < w1.heap.size := Z1.1.2.2.2.2.2.2.2.2.2
          have hbw : b < w.heap.size := by
            obtain ⟨-, h0 | ⟨b', o', he, hb', -⟩⟩ := hE
            · omega
            · cases he; exact hb'
          have hne : b ≠ w.heap.size := by omega
          have Z3 := zblk.on B3d Z1
          have C3 : cell9 w3.drew b (o + k * 9) (E k) := cell9.on B3d hb CK2
          by_cases hcK : c = K
          · have EP : Evs w3.drew (some ⟨b, o, none⟩) (n - K) (fun i => E (K + i)) := by rw [show n - K = 0 by omega]; exact Evs.nil
            obtain ⟨v2, w4, run2, O2, B4⟩ := append_evs (World.ownsRow.drew O1) (p := some ⟨b, o, none⟩) (m := n - K) (c := c - K) (F := fun i => E (K + i)) EP (by have := HK.out; omega) B3.size
            have B4 := B4 w1 rfl B3d
            rw [flat_del h HK.out, show 0 + k + (n - K) = n - 1 by have := HK.out; omega] at O2
            have B4w : Below w.heap.size w w4 := bl_call B1 B4
            have C4 : cell9 w4 b (o + k * 9) (E k) := cell9.on B4 hb CK2
            have Z4 := zblk.on B4 Z1
            obtain ⟨p5, d, rfl, hEv⟩ := own_ne (R := w.heap.size) O2 hRl (by omega) (delE_all (P := fun y => RowNe w.heap.size w4 y.ap y.al y.V) h (fun i hi => Row.ne (hE.get i hi) B4w (Nat.le_refl _)))
            have HEv := Lib.hid hEv
            clear hEv O0 O1 O2 EP e0 e1 e2 e3 e4 e5 e6 e7 e8
            subst hcK
            rw [show n - c = 0 by omega, Nat.sub_self] at run2
            obtain ⟨ZN, f4⟩ := Z4
            obtain ⟨z0, z1, z2, z3, z4, z5, z6, z7, z8, z9⟩ := ZN
            have CK3 := CK2
            obtain ⟨e0, e1, e2, e3, e4, e5, e6, e7, e8⟩ := CK3
            go_upto_region 8 with (at_builtin; refine Lib.wpList_append_run _ rfl _ _ _ _ rfl _ _ rfl rfl _ _ run1 ?_)
            clear e0 e1 e2 e3 e4 e5 e6 e7 e8
            go_region_held3 (fun w' => w'.cell? ⟨b, (o + k * 9), none⟩ = some (.int .i64 (E k).t) ∧ w'.cell? ⟨b, (o + k * 9) + 1, none⟩ = some (.int .i64 (E k).p) ∧ w'.cell? ⟨b, (o + k * 9) + 2, none⟩ = some (.int .i64 (E k).f) ∧ w'.cell? ⟨b, (o + k * 9) + 3, none⟩ = some (.int .i64 (E k).s) ∧ w'.cell? ⟨b, (o + k * 9) + 4, none⟩ = some (.int .i64 (E k).st) ∧ w'.cell? ⟨b, (o + k * 9) + 5, none⟩ = some (.int .i64 (E k).k) ∧ w'.cell? ⟨b, (o + k * 9) + 6, none⟩ = some (.int .i64 (E k).a) ∧ w'.cell? ⟨b, (o + k * 9) + 7, none⟩ = some (.int .i64 (E k).b) ∧ w'.cell? ⟨b, (o + k * 9) + 8, none⟩ = some (.slice (E k).ap (E k).al (E k).ac)) (first | (with_reducible exact keepC9 (cell9.far C4 hne)) | (with_reducible exact keepC9 C4) | (with_reducible exact keepC9 C3) | (go_keep; done))
              ((rw [if_pos (by rfl)]; refine Lib.wp_append_run _ _ _ _ _ rfl _ _ rfl rfl _ _ run2 ?_))
            all_goals
              go_wp2_with fail
              refine bodyPost_ret (v := .tuple #[.slice p5 (n - 1) d, .agg #[.int .i64 (E k).t, .int .i64 (E k).p, .int .i64 (E k).f, .int .i64 (E k).s, .int .i64 (E k).st, .int .i64 (E k).k, .int .i64 (E k).a, .int .i64 (E k).b, .slice (E k).ap (E k).al (E k).ac], .bool true]) (by simp [results, Try.results26, go_sem, *]) rfl ?_
              rw [HN.out]
              exact ⟨p5, d, rfl, (EvsNe.set (EvsNe.set (EvsNe.set (EvsNe.set (EvsNe.set (EvsNe.set (EvsNe.set (EvsNe.set (EvsNe.set HEv.out))))))))).1, by (repeat (first | (with_reducible exact Below.refl _ _) | (with_reducible assumption) | (with_reducible apply bl_alloc) | (with_reducible apply bl_drewN) | (with_reducible apply bl_drew) | (with_reducible refine bl_set ?_ (by first | (simp; done) | (simp; omega)) _) | (with_reducible refine bl_call ?_ (by assumption))))⟩
          · have EP : Evs w3.drew (some ⟨b, o + K * 9, none⟩) (n - K) (fun i => E (K + i)) := hE3.drop (by omega)
            obtain ⟨v2, w4, run2, O2, B4⟩ := append_evs (World.ownsRow.drew O1) (p := some ⟨b, o + K * 9, none⟩) (m := n - K) (c := c - K) (F := fun i => E (K + i)) EP (by have := HK.out; omega) B3.size
            have B4 := B4 w1 rfl B3d
            rw [flat_del h HK.out, show 0 + k + (n - K) = n - 1 by have := HK.out; omega] at O2
            have B4w : Below w.heap.size w w4 := bl_call B1 B4
            have C4 : cell9 w4 b (o + k * 9) (E k) := cell9.on B4 hb CK2
            have Z4 := zblk.on B4 Z1
            obtain ⟨p5, d, rfl, hEv⟩ := own_ne (R := w.heap.size) O2 hRl (by omega) (delE_all (P := fun y => RowNe w.heap.size w4 y.ap y.al y.V) h (fun i hi => Row.ne (hE.get i hi) B4w (Nat.le_refl _)))
            have HEv := Lib.hid hEv
            clear hEv O0 O1 O2 EP e0 e1 e2 e3 e4 e5 e6 e7 e8
            obtain ⟨ZN, f4⟩ := Z4
            obtain ⟨z0, z1, z2, z3, z4, z5, z6, z7, z8, z9⟩ := ZN
            have CK3 := CK2
            obtain ⟨e0, e1, e2, e3, e4, e5, e6, e7, e8⟩ := CK3
            go_upto_region 8 with (at_builtin; refine Lib.wpList_append_run _ rfl _ _ _ _ rfl _ _ rfl rfl _ _ run1 ?_)
            clear e0 e1 e2 e3 e4 e5 e6 e7 e8
            go_region_held3 (fun w' => w'.cell? ⟨b, (o + k * 9), none⟩ = some (.int .i64 (E k).t) ∧ w'.cell? ⟨b, (o + k * 9) + 1, none⟩ = some (.int .i64 (E k).p) ∧ w'.cell? ⟨b, (o + k * 9) + 2, none⟩ = some (.int .i64 (E k).f) ∧ w'.cell? ⟨b, (o + k * 9) + 3, none⟩ = some (.int .i64 (E k).s) ∧ w'.cell? ⟨b, (o + k * 9) + 4, none⟩ = some (.int .i64 (E k).st) ∧ w'.cell? ⟨b, (o + k * 9) + 5, none⟩ = some (.int .i64 (E k).k) ∧ w'.cell? ⟨b, (o + k * 9) + 6, none⟩ = some (.int .i64 (E k).a) ∧ w'.cell? ⟨b, (o + k * 9) + 7, none⟩ = some (.int .i64 (E k).b) ∧ w'.cell? ⟨b, (o + k * 9) + 8, none⟩ = some (.slice (E k).ap (E k).al (E k).ac)) (first | (with_reducible exact keepC9 (cell9.far C4 hne)) | (with_reducible exact keepC9 C4) | (with_reducible exact keepC9 C3) | (go_keep; done))
              ((rw [if_pos (by rfl)]; refine Lib.wp_append_run _ _ _ _ _ rfl _ _ rfl rfl _ _ run2 ?_))
            all_goals
              go_wp2_with fail
              refine bodyPost_ret (v := .tuple #[.slice p5 (n - 1) d, .agg #[.int .i64 (E k).t, .int .i64 (E k).p, .int .i64 (E k).f, .int .i64 (E k).s, .int .i64 (E k).st, .int .i64 (E k).k, .int .i64 (E k).a, .int .i64 (E k).b, .slice (E k).ap (E k).al (E k).ac], .bool true]) (by simp [results, Try.results26, go_sem, *]) rfl ?_
              rw [HN.out]
              exact ⟨p5, d, rfl, (EvsNe.set (EvsNe.set (EvsNe.set (EvsNe.set (EvsNe.set (EvsNe.set (EvsNe.set (EvsNe.set (EvsNe.set HEv.out))))))))).1, by (repeat (first | (with_reducible exact Below.refl _ _) | (with_reducible assumption) | (with_reducible apply bl_alloc) | (with_reducible apply bl_drewN) | (with_reducible apply bl_drew) | (with_reducible refine bl_set ?_ (by first | (simp; done) | (simp; omega)) _) | (with_reducible refine bl_call ?_ (by assumption))))⟩
    · obtain rfl : n = k := by omega
      have c2 : (n : Int) ≤ (n : Int) := by omega
      obtain ⟨ZN, f1⟩ := Z1
      obtain ⟨z0, z1, z2, z3, z4, z5, z6, z7, z8, z9⟩ := ZN
      have ZN : nine _ _ _ := ⟨z0, z1, z2, z3, z4, z5, z6, z7, z8, z9⟩
      go_wp2_with fail
      refine bodyPost_ret (v := .tuple #[.slice none 0 0, .agg #[.int .i64 0, .int .i64 0, .int .i64 0, .int .i64 0, .int .i64 0, .int .i64 0, .int .i64 0, .int .i64 0, .slice none 0 0], .bool false]) (by simp [results, Try.results26, go_sem, *]) rfl ?_
      rw [HA.out]
      exact ⟨none, 0, rfl, Evs.nil, by (repeat (first | (with_reducible exact Below.refl _ _) | (with_reducible assumption) | (with_reducible apply bl_alloc) | (with_reducible apply bl_drewN) | (with_reducible apply bl_drew) | (with_reducible refine bl_set ?_ (by first | (simp; done) | (simp; omega)) _) | (with_reducible refine bl_call ?_ (by assumption))))⟩
end Go.Proofs.Ytmijjpecgcgkgaa.Ag
