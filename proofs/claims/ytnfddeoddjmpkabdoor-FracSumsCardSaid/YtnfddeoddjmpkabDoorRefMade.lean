/-
  The contracts of the reference's common (the greatest common divisor), Made and Valid.
-/
import Derived.Test.YtnfddeoddjmpkabDoorRefDiv
import Derived.Deep.LoopGhost
namespace Go.Proofs.YtnfddeoddjmpkabDoor
open Go.RowKit
set_option maxHeartbeats 8000000
def ComAt (w : World) (a b : Nat) (g : Nat) (wr : World) : Prop :=
  ∃ p ph pl qh ql : Nat, WV ph pl p ∧ WV qh ql g ∧ Nat.gcd p g = Nat.gcd a b ∧ p < 340282366920938463463374607431768211456 ∧ g < 170141183460469231731687303715884105728 ∧
    two wr w.heap.size (.int .u64 (ph : Nat)) (.int .u64 (pl : Nat)) ∧ two wr (w.heap.size + 1) (.int .u64 (qh : Nat)) (.int .u64 (ql : Nat)) ∧ two wr (w.heap.size + 1 + 1) (.int .u64 0) (.int .u64 0) ∧ Below w.heap.size w wr
theorem common_any {ah al a bh bl b zh zl : Nat} (ha : WV ah al a) (hb : WV bh bl b) (a1 : a < 340282366920938463463374607431768211456) (b1 : b < 170141183460469231731687303715884105728) (hz : WV zh zl (Nat.gcd a b)) (w : World) :
    Calls Tryd.prog 68 #[.agg #[.int .u64 (ah : Nat), .int .u64 (al : Nat)], .agg #[.int .u64 (bh : Nat), .int .u64 (bl : Nat)]] w (Gives (.agg #[.int .u64 (zh : Nat), .int .u64 (zl : Nat)]) w) := by
  have HA := Lib.hid ha
  have HB := Lib.hid hb
  have HZ := Lib.hid hz
  have H1 := Lib.hid a1
  have H2 := Lib.hid b1
  clear ha hb hz a1 b1
  go_enter Tryd.func68, Tryd.ntmps68
  go_wp2_with fail
  go_loopg [] b (ComAt w a b)
  case atStart =>
    refine ⟨a, ah, al, bh, bl, HA.out, HB.out, rfl, H1.out, H2.out, ?_, ?_, ?_, by repeat (first | exact Below.refl _ _ | assumption | apply bl_alloc | apply bl_drewN | apply bl_drew | (refine bl_set ?_ (by first | (simp; done) | (simp; omega)) _) | (refine bl_call ?_ (by assumption)))⟩
    all_goals
      refine ⟨?_, ?_, ?_, ?_, ?_⟩ <;> first | (go_simp; done) | (simp; done) | (simp; omega)
  case round =>
    obtain ⟨p, ph, pl, qh, ql, hp, hq, hg, p1, q1, A0, B0, C0, hB⟩ := hrel
    by_cases h0 : gk = 0
    · subst h0
      rw [Nat.gcd_zero_right] at hg
      subst hg
      obtain ⟨rfl, rfl⟩ := wv_eq hp HZ.out
      obtain ⟨rfl, rfl⟩ := wv_eq hq wv_zero
      clear hp hq p1 q1
      obtain ⟨a0, a1, a2, a3, a4⟩ := A0
      have A0 : two _ _ _ _ := ⟨a0, a1, a2, a3, a4⟩
      obtain ⟨b0, b1, b2, b3, b4⟩ := B0
      have B0 : two _ _ _ _ := ⟨b0, b1, b2, b3, b4⟩
      obtain ⟨c0, c1, c2, c3, c4⟩ := C0
      have C0 : two _ _ _ _ := ⟨c0, c1, c2, c3, c4⟩
      go_wp2_with fail
      exact bodyPost_ret (v := .agg #[.int .u64 (ph : Nat), .int .u64 (pl : Nat)]) (by simp [results, Tryd.results68, go_sem, *]) rfl ⟨rfl, by repeat (first | exact Below.refl _ _ | assumption | apply bl_alloc | apply bl_drewN | apply bl_drew | (refine bl_set ?_ (by first | (simp; done) | (simp; omega)) _) | (refine bl_call ?_ (by assumption)))⟩
    · obtain ⟨xh, xl, hx⟩ := wv (p / gk)
      obtain ⟨yh, yl, hy⟩ := wv (p % gk)
      have D := Lib.hid (divide_any hp hq p1 (by omega) q1 hx hy)
      have hne : ¬ qh = 0 ∨ qh = 0 ∧ ¬ ql = 0 := by unfold WV at hq; omega
      have hm : p % gk < gk := Nat.mod_lt _ (by omega)
      have F := Lib.hid (And.intro hq (And.intro hy (And.intro ((gcd_turn p gk).trans hg) (And.intro hm q1))))
      clear hp hq hg p1 q1 hx hy hm h0
      obtain ⟨a0, a1, a2, a3, a4⟩ := A0
      have A0 : two _ _ _ _ := ⟨a0, a1, a2, a3, a4⟩
      obtain ⟨b0, b1, b2, b3, b4⟩ := B0
      have B0 : two _ _ _ _ := ⟨b0, b1, b2, b3, b4⟩
      obtain ⟨c0, c1, c2, c3, c4⟩ := C0
      have C0 : two _ _ _ _ := ⟨c0, c1, c2, c3, c4⟩
      rcases hne with hn | ⟨rfl, hn⟩
      all_goals
        go_wp2_with fail
        refine (D.out _).mono ?_
        rintro e w1 ⟨rfl, hb1⟩
        have A1 := two.on hb1 A0
        have B1 := two.on hb1 B0
        have C1 := two.on hb1 C0
        clear a0 a1 a2 a3 a4 b0 b1 b2 b3 b4 c0 c1 c2 c3 c4
        obtain ⟨a0, a1, a2, a3, a4⟩ := A1
        have A1 : two _ _ _ _ := ⟨a0, a1, a2, a3, a4⟩
        obtain ⟨b0, b1, b2, b3, b4⟩ := B1
        have B1 : two _ _ _ _ := ⟨b0, b1, b2, b3, b4⟩
        obtain ⟨c0, c1, c2, c3, c4⟩ := C1
        have C1 : two _ _ _ _ := ⟨c0, c1, c2, c3, c4⟩
        go_wp2_with fail
        go_roundg (p % gk)
        case measure => exact F.out.2.2.2.1
        case rel =>
          exact ⟨gk, _, _, yh, yl, F.out.1, F.out.2.1, F.out.2.2.1, by have := F.out.2.2.2.2; omega, by have := F.out.2.2.2; omega, ((two.far (two.set2 A1) (by omega)).alloc).alloc, ((two.set2 (two.far B1 (by omega))).alloc).alloc, ((two.far (two.far C1 (by omega)) (by omega)).alloc).alloc, by repeat (first | exact Below.refl _ _ | assumption | apply bl_alloc | apply bl_drewN | apply bl_drew | (refine bl_set ?_ (by first | (simp; done) | (simp; omega)) _) | (refine bl_call ?_ (by assumption)))⟩
/-- A block of three cells. -/
def tri (w : World) (b : Nat) (x y z : Value) : Prop := w.cell? ⟨b, 0, none⟩ = some x ∧ w.cell? ⟨b, 1, none⟩ = some y ∧ w.cell? ⟨b, 2, none⟩ = some z ∧ b < w.heap.size
theorem tri.on {w w2 : World} {b : Nat} {x y z : Value} (hb : Below w.heap.size w w2) (h : tri w b x y z) : tri w2 b x y z := by
  obtain ⟨h1, h2, h3, h5⟩ := h
  exact ⟨(hb.cell (p := ⟨b, 0, none⟩) h5).trans h1, (hb.cell (p := ⟨b, 1, none⟩) h5).trans h2, (hb.cell (p := ⟨b, 2, none⟩) h5).trans h3, Nat.lt_of_lt_of_le h5 hb.size⟩
theorem tri.alloc {w : World} {b : Nat} {x y z : Value} {o : Obj} (h : tri w b x y z) : tri (w.alloc o) b x y z := tri.on ((Below.refl _ _).alloc (Nat.le_refl _) o) h
theorem made_any {th tl t dh dl d : Nat} (m : Bool) (ht : WV th tl t) (hd : WV dh dl d) (t1 : t < 340282366920938463463374607431768211456) (d0 : 0 < d) (d1 : d < 170141183460469231731687303715884105728) (w : World) :
    Calls Tryd.prog 45 #[.agg #[.bool m, .int .u64 (th : Nat), .int .u64 (tl : Nat)], .agg #[.int .u64 (dh : Nat), .int .u64 (dl : Nat)]] w (Gives (.tuple #[.agg #[.int .i64 (oN (cut (sg m (t / Nat.gcd t d)) (d / Nat.gcd t d))), .int .i64 (oD (cut (sg m (t / Nat.gcd t d)) (d / Nat.gcd t d)))], .bool (oB (cut (sg m (t / Nat.gcd t d)) (d / Nat.gcd t d)))]) w) := by
  obtain ⟨g, eg⟩ : ∃ g, Nat.gcd t d = g := ⟨_, rfl⟩
  have g0 : 0 < g := by rw [← eg]; exact Nat.gcd_pos_of_pos_right _ d0
  have g1 : g ≤ d := by rw [← eg]; exact Nat.gcd_le_right _ d0
  obtain ⟨gh, gl, hg⟩ := wv g
  have C := Lib.hid (common_any ht hd t1 d1 (by rw [eg]; exact hg))
  rw [eg]
  obtain ⟨a, ea⟩ : ∃ x, t / g = x := ⟨_, rfl⟩
  obtain ⟨b, eb⟩ : ∃ x, d / g = x := ⟨_, rfl⟩
  obtain ⟨ah, al, ha⟩ := wv a
  obtain ⟨bh, bl, hb⟩ := wv b
  obtain ⟨xh, xl, hx⟩ := wv (t % g)
  obtain ⟨yh, yl, hy⟩ := wv (d % g)
  have D1 := Lib.hid (divide_any ht hg t1 g0 (by omega) (by rw [ea]; exact ha) hx)
  have D2 := Lib.hid (divide_any hd hg (by omega) g0 (by omega) (by rw [eb]; exact hb) hy)
  rw [ea, eb]
  obtain ⟨n, en⟩ : ∃ n, cut (sg m a) b = n := ⟨_, rfl⟩
  have hc : (n = none ∧ (¬ ah = 0 ∨ ah = 0 ∧ 4611686018427387904 < al ∨ ah = 0 ∧ al ≤ 4611686018427387904 ∧ ¬ bh = 0 ∨ ah = 0 ∧ al ≤ 4611686018427387904 ∧ bh = 0 ∧ 1000000000000000 < bl)) ∨
      (n = some (sg m al, (bl : Int)) ∧ ah = 0 ∧ al ≤ 4611686018427387904 ∧ bh = 0 ∧ bl ≤ 1000000000000000) := by
    unfold WV at ha hb
    by_cases hk : a ≤ 4611686018427387904 ∧ b ≤ 1000000000000000
    · right
      obtain rfl : ah = 0 := by omega
      obtain rfl : bh = 0 := by omega
      obtain rfl : al = a := by omega
      obtain rfl : bl = b := by omega
      exact ⟨by rw [← en]; exact cut_yes (by rw [sg_natAbs]; exact hk), rfl, hk.1, rfl, hk.2⟩
    · left
      exact ⟨by rw [← en]; exact cut_no (by rw [sg_natAbs]; exact hk), by omega⟩
  rw [en]
  clear eg ea eb en ht hd t1 d0 d1 g0 g1 hg ha hb hx hy
  go_enter Tryd.func45, Tryd.ntmps45
  go_wp2_with fail
  refine (C.out _).mono ?_
  rintro e w1 ⟨rfl, hb1⟩
  have T1 : tri w1 w.heap.size (.bool m) (.int .u64 (th : Nat)) (.int .u64 (tl : Nat)) := tri.on hb1 (by refine ⟨?_, ?_, ?_, ?_⟩ <;> first | (go_simp; done) | (simp; done) | (simp; omega))
  have E1 : two w1 (w.heap.size + 1) (.int .u64 (dh : Nat)) (.int .u64 (dl : Nat)) := two.call (by refine ⟨?_, ?_, ?_, ?_, ?_⟩ <;> first | (go_simp; done) | (simp; done) | (simp; omega)) hb1
  have R1 : two w1 (w.heap.size + 1 + 1) (.int .i64 0) (.int .i64 0) := two.call (by refine ⟨?_, ?_, ?_, ?_, ?_⟩ <;> first | (go_simp; done) | (simp; done) | (simp; omega)) hb1
  have X1 := T1
  obtain ⟨t0, t1, t2, t3⟩ := X1
  go_wp2_with fail
  refine (D1.out _).mono ?_
  rintro e w2 ⟨rfl, hb2⟩
  have T2 := tri.on hb2 T1.alloc
  have E2 := two.on hb2 E1.alloc
  have R2 := two.on hb2 R1.alloc
  have G2 := two.on hb2 two.new
  clear t0 t1 t2 t3
  have e0 := fun o1 o2 => ((E2.alloc (o := o1)).alloc (o := o2)).1
  have e1 := fun o1 o2 => ((E2.alloc (o := o1)).alloc (o := o2)).2.1
  have e2 := fun o1 o2 => ((E2.alloc (o := o1)).alloc (o := o2)).2.2.1
  have e3 := fun o1 o2 => ((E2.alloc (o := o1)).alloc (o := o2)).2.2.2.1
  have g0 := fun o1 o2 => ((G2.alloc (o := o1)).alloc (o := o2)).1
  have g1 := fun o1 o2 => ((G2.alloc (o := o1)).alloc (o := o2)).2.1
  have g2 := fun o1 o2 => ((G2.alloc (o := o1)).alloc (o := o2)).2.2.1
  have g3 := fun o1 o2 => ((G2.alloc (o := o1)).alloc (o := o2)).2.2.2.1
  go_wp2_with fail
  refine (D2.out _).mono ?_
  rintro e w3 ⟨rfl, hb3⟩
  have T3 := tri.on hb3 T2.alloc.alloc
  have R3 := two.on hb3 R2.alloc.alloc
  have A3 := two.on hb3 (two.alloc two.new)
  clear e0 e1 e2 e3 g0 g1 g2 g3
  have t0 := fun o1 o2 => ((T3.alloc (o := o1)).alloc (o := o2)).1
  have r0 := fun o1 o2 => ((R3.alloc (o := o1)).alloc (o := o2)).1
  have r1 := fun o1 o2 => ((R3.alloc (o := o1)).alloc (o := o2)).2.1
  have r2 := fun o1 o2 => ((R3.alloc (o := o1)).alloc (o := o2)).2.2.1
  have r3 := fun o1 o2 => ((R3.alloc (o := o1)).alloc (o := o2)).2.2.2.1
  have a0 := fun o1 o2 => ((A3.alloc (o := o1)).alloc (o := o2)).1
  have a1 := fun o1 o2 => ((A3.alloc (o := o1)).alloc (o := o2)).2.1
  have a2 := fun o1 o2 => ((A3.alloc (o := o1)).alloc (o := o2)).2.2.1
  have a3 := fun o1 o2 => ((A3.alloc (o := o1)).alloc (o := o2)).2.2.2.1
  rcases hc with ⟨rfl, hc⟩ | ⟨rfl, rfl, c2, rfl, c4⟩
  · rcases hc with c1 | ⟨rfl, c1⟩ | ⟨rfl, c1, c2⟩ | ⟨rfl, c1, rfl, c3⟩
    all_goals
      go_wp2_with fail
      exact bodyPost_ret (v := .tuple #[.agg #[.int .i64 (oN (none)), .int .i64 (oD (none))], .bool (oB (none))]) (by simp [results, Tryd.results45, go_sem, oN, oD, oB, *]) rfl ⟨rfl, by repeat (first | exact Below.refl _ _ | assumption | apply bl_alloc | apply bl_drewN | apply bl_drew | (refine bl_set ?_ (by first | (simp; done) | (simp; omega)) _) | (refine bl_call ?_ (by assumption)))⟩
  · cases m
    · go_wp2_with fail
      exact bodyPost_ret (v := .tuple #[.agg #[.int .i64 (al : Nat), .int .i64 (bl : Nat)], .bool true]) (by simp [results, Tryd.results45, go_sem, *]) rfl ⟨rfl, by repeat (first | exact Below.refl _ _ | assumption | apply bl_alloc | apply bl_drewN | apply bl_drew | (refine bl_set ?_ (by first | (simp; done) | (simp; omega)) _) | (refine bl_call ?_ (by assumption)))⟩
    · go_wp2_with fail
      exact bodyPost_ret (v := .tuple #[.agg #[.int .i64 (-(al : Int)), .int .i64 (bl : Nat)], .bool true]) (by simp [results, Tryd.results45, go_sem, *]) rfl ⟨rfl, by repeat (first | exact Below.refl _ _ | assumption | apply bl_alloc | apply bl_drewN | apply bl_drew | (refine bl_set ?_ (by first | (simp; done) | (simp; omega)) _) | (refine bl_call ?_ (by assumption)))⟩
theorem rvalid_any (n d : Int) (n0 : -9223372036854775808 ≤ n) (n1 : n ≤ 9223372036854775807) (d0 : -9223372036854775808 ≤ d) (d1 : d ≤ 9223372036854775807) (w : World) :
    Calls Tryd.prog 44 #[.agg #[.int .i64 n, .int .i64 d]] w (Gives (.bool (okF n d)) w) := by
  have k1 := absN_le n0 n1
  have k2 := absN_le d0 d1
  have hx : (d < 1 ∨ 1 ≤ d ∧ 1000000000000000 < d ∨ 1 ≤ d ∧ d ≤ 1000000000000000 ∧ n < -4611686018427387904 ∨ 1 ≤ d ∧ d ≤ 1000000000000000 ∧ -4611686018427387904 ≤ n ∧ 4611686018427387904 < n) ∨ 1 ≤ d ∧ d ≤ 1000000000000000 ∧ -4611686018427387904 ≤ n ∧ n ≤ 4611686018427387904 := by omega
  rcases hx with hx | ⟨x1, x2, x3, x4⟩
  · rw [okF_out (by unfold inR; omega)]
    rcases hx with x1 | ⟨x1, x2⟩ | ⟨x1, x2, x3⟩ | ⟨x1, x2, x3, x4⟩
    all_goals
      go_enter Tryd.func44, Tryd.ntmps44
      go_wp2
      go_ret
      exact ⟨rfl, by repeat (first | exact Below.refl _ _ | assumption | apply bl_alloc | apply bl_drewN | apply bl_drew | (refine bl_set ?_ (by first | (simp; done) | (simp; omega)) _) | (refine bl_call ?_ (by assumption)))⟩
  · rw [okF_in ⟨x1, x2, x3, x4⟩]
    have z2 : 0 < absN d := by unfold absN; omega
    have hgl : Nat.gcd (absN n) (absN d) ≤ absN d := Nat.gcd_le_right _ z2
    have C := Lib.hid (common_any (wv_low (n := absN n) (by omega)) (wv_low (n := absN d) (by omega)) (by omega) (by omega) (wv_low (n := Nat.gcd (absN n) (absN d)) (by omega)))
    obtain ⟨g, eg⟩ : ∃ g, Nat.gcd (absN n) (absN d) = g := ⟨_, rfl⟩
    rw [eg] at C hgl ⊢
    have hb : ((g : Int) == 1) = true ∨ ((g : Int) == 1) = false := by cases ((g : Int) == 1) <;> simp
    clear eg hgl
    rcases hb with hb | hb
    all_goals
      rw [hb]
      go_enter Tryd.func44, Tryd.ntmps44
      go_wp2_with fail
      go_region_held3 (fun w' => w'.cell? ⟨w.heap.size, 0, none⟩ = some (.int .i64 n) ∧ w'.cell? ⟨w.heap.size, 1, none⟩ = some (.int .i64 d)) (first | (go_keep; done) | exact ⟨N1.1, N1.2.1⟩)
        (first
          | (go_at_call 49; refine (size_any _ (by omega) (by omega) _).mono ?_; rintro e w' ⟨rfl, rfl⟩)
          | (go_at_call 68; refine (C.out _).mono ?_; rintro e w1 ⟨rfl, hb1⟩; have N1 : two w1 w.heap.size (.int .i64 n) (.int .i64 d) := two.on hb1 two.new))
      go_wp2_with fail
      go_ret
      exact ⟨rfl, by repeat (first | exact Below.refl _ _ | assumption | apply bl_alloc | apply bl_drewN | apply bl_drew | (refine bl_set ?_ (by first | (simp; done) | (simp; omega)) _) | (refine bl_call ?_ (by assumption)))⟩
end Go.Proofs.YtnfddeoddjmpkabDoor
