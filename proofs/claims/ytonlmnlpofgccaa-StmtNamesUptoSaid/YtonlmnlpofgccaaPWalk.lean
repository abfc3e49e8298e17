/-
  The contracts of walk, of the closure of statements and of statements: an iterator over statements in order, whatever a round of the loop does.
-/
import Derived.Test.YtonlmnlpofgccaaPBase
import Derived.Test.YtonlmnlpofgccaaEWalk
namespace Go.Proofs.Ytonlmnlpofgccaa.Sm
open Go.RowKit Go.Shelf
open Go.Proofs.Ytonlmnlpofgccaa.Na (bs bs_inj chk)
open Go.Proofs.Ytonlmnlpofgccaa.Ex (Ex Nm Kin In Sz Lo Gives bl_alloc bl_drewN bl_drew bl_set bl_call block_lt add_off take_one take_snoc yield_any_depth abides_below)
attribute [local go_sem] Oper.semAt_some
attribute [local go_sem] cs0 cs1 cs2 cs3 cs4 cs5 cs6 cs7 cs8 cs9 cs10 cs11 cs12 cs13 cs14 cs15 cs16 cs17 cs18 cs19 cs20
set_option maxHeartbeats 400000
set_option linter.unusedVariables false
/-- A statement as a round gets it. -/
structure Nd (n₀ : Nat) (W0 : World) where
  x : St
  P : Pl
  hi : Sin (Lo n₀) W0 x P
  hs : SzS x
def encN {n₀ : Nat} {W0 : World} (r : Nd n₀ W0) : Array Value := #[.agg (cs r.x r.P)]
/-- What a round that goes on keeps: all below a block, and all boxed statements from another one on. -/
structure Kp (n₀ T : Nat) (W W' : World) : Prop where
  below : Below n₀ W W'
  same : ∀ (k : Nat) (C : Array Value) (fr : Nat × Nat), T ≤ k → W.heap[k]? = some (.cells C 47 fr) → W'.heap[k]? = some (.cells C 47 fr)
theorem Kp.refl (n₀ T : Nat) (W : World) : Kp n₀ T W W := ⟨Below.refl _ _, fun _ _ _ _ h => h⟩
theorem Kp.trans {n₀ T : Nat} {A B C : World} (h : Kp n₀ T A B) (k : Kp n₀ T B C) : Kp n₀ T A C := ⟨h.below.trans k.below, fun i c fr hi hc => k.same i c fr hi (h.same i c fr hi hc)⟩
theorem Kp.of_below {n₀ T : Nat} {W W' : World} (h : Below W.heap.size W W') (hn : n₀ ≤ W.heap.size) : Kp n₀ T W W' := ⟨h.mono hn, fun k c fr _ hc => (h.block k (Array.getElem?_eq_some_iff.1 hc).1).trans hc⟩
theorem Kp.box {n₀ T g : Nat} {W W' : World} {x : St} {P : Pl} (h : Kp n₀ T W W') (hT : T ≤ g) (hb : box21 W g x P) : box21 W' g x P := h.same g _ _ hT hb
theorem Kp.put {n₀ T : Nat} {w : World} (hn : n₀ ≤ w.heap.size) (W : World) (l : Nat) (o o' : Obj) (hl : w.heap.size ≤ l) (h : W.heap[l]? = some o) (h1 : o.isCells = false) (h2 : o.isWalk = false) : Kp n₀ T W (W.putObj l o') :=
  ⟨belowK_b hn W l o o' hl h h1 h2, fun k c fr _ hc => by
    rw [World.putObj_heap_other]
    · exact hc
    · intro e
      subst e
      rw [h] at hc
      cases hc
      cases h1⟩
theorem Kp.set {n₀ T : Nat} {W : World} {B : Nat} (h0 : n₀ ≤ B) (hT : B < T) (v : Value) : Kp n₀ T W (W.setCell ⟨B, 0, none⟩ v) :=
  ⟨(Below.refl n₀ W).setCell (p := ⟨B, 0, none⟩) h0 v, fun k c fr hk hc => ((grownBy_setCell' W B v).block k (Array.getElem?_eq_some_iff.1 hc).1 (fun e => by cases e; omega)).trans hc⟩
theorem ord_pre {sl : List St} {k : Nat} {x : St} {q : List St} (h : sl[k]? = some x) (hq : q <+: ord x) : ordL (sl.take k) ++ q <+: ordL sl := by
  have h2 := ordL_app (sl.take (k + 1)) (sl.drop (k + 1))
  rw [List.take_append_drop, ordL_take h, List.append_assoc] at h2
  rw [h2, List.prefix_append_right_inj]
  exact hq.trans (List.prefix_append _ _)
theorem ord_pre0 (x : St) : [x] <+: ord x := by rw [ord_one]; exact ⟨_, rfl⟩
theorem ord_pre1 {x : St} {q : List St} (h : q <+: ordL x.bo) : x :: q <+: ord x := by
  rw [ord_one, List.cons_prefix_cons]
  exact ⟨rfl, h.trans (List.prefix_append _ _)⟩
theorem ord_pre2 {x : St} {q : List St} (h : q <+: ordL x.el) : x :: (ordL x.bo ++ q) <+: ord x := by
  rw [ord_one, List.cons_prefix_cons]
  exact ⟨rfl, by rw [List.prefix_append_right_inj]; exact h⟩
set_option maxRecDepth 100000 in
theorem wlkd_in (F : Fence) (hd : F.depth = none) (hf : F.fn 39) (hro : F.round = none) (l n₀ T N : Nat) (W0 : World) (hn : n₀ ≤ W0.heap.size) (J Jx : List (Nd n₀ W0) → World → Prop)
    (hJ : ∀ s W W', J s W → Below W.heap.size W W' → J s W')
    (hY : ∀ m ps r W, J ps W → ps.length < N → YieldAt F m Try.prog l (encN r) W fun e W' =>
      (e = .returned (.bool true) ∧ J (ps ++ [r]) W' ∧ Kp n₀ T W W') ∨ (e = .returned (.bool false) ∧ Jx (ps ++ [r]) W')) (sl : List St) :
    ∀ (n : Nat) (p : Option Addr) (m c : Nat) (ps : List (Nd n₀ W0)) (W : World), Lin (Lo n₀) W0 sl p m → SzL sl → Below n₀ W0 W → T ≤ W.heap.size → J ps W → ps.length + cnL sl ≤ N →
      CallsIn F n Try.prog 39 #[.slice p m c, .func (.yield l) #[] #[]] W fun r W' =>
        (r = .returned (.bool true) ∧ ∃ ys, ys.map Nd.x = ordL sl ∧ J (ps ++ ys) W' ∧ Kp n₀ T W W') ∨ (r = .returned (.bool false) ∧ ∃ q, q.map Nd.x <+: ordL sl ∧ Jx (ps ++ q) W') := by
  induction sl using lst_ind with
  | h sl ih =>
    intro n p m c ps W ht hsz hb0 hT hJ0 hN
    have hdd : ∀ k : Nat, (F.depth.isSome = true → 1 ≤ k) := fun k h => by rw [hd] at h; cases h
    obtain ⟨hl, hm⟩ := ht.len
    have HH := Lib.hid ht
    have HI := Lib.hid ih
    have HL := Lib.hid hl
    have HSZ := Lib.hid hsz
    have HJ := Lib.hid hJ
    have HY := Lib.hid hY
    have HN := Lib.hid hN
    have HB0 := Lib.hid hb0
    have HNN := Lib.hid hn
    have HTT := Lib.hid hT
    have HJ0 := Lib.hid hJ0
    clear hY hJ hJ0 hN ih ht hsz hn hT hl hb0
    obtain ⟨n21, hn21⟩ : ∃ n : Nat, 21 = n := ⟨_, rfl⟩
    have hsz : ∀ w, (sizeOf 47).run Try.prog w = .ok n21 w := fun w => by rw [Try.sizeOf47, hn21]
    have HN21 := Lib.hid hn21
    clear hn21
    refine callsIn_of_wp Try.func39 rfl hf ?_ hro
    simp only [Try.ntmps39, List.size_toArray, List.length_cons, List.length_nil, Nat.reduceAdd, Nat.reduceSub, Array.replicate_succ, Array.replicate_zero, List.push_toArray, List.append_toArray, List.nil_append, List.cons_append]
    gi_wp2_with fail
    gi_loopw [9] (fun i wr => ∃ (k : Nat) (ys : List (Nd n₀ W0)), k ≤ m ∧ i = .int .i64 (k : Nat) ∧ Hid (ys.map Nd.x = ordL (sl.take k) ∧ J (ps ++ ys) wr ∧ Kp n₀ T W wr)) (fun i _ => m - (intOf i).toNat)
    case atStart => exact ⟨0, [], Nat.zero_le _, rfl, Lib.hid ⟨by rw [List.take_zero, ordL]; rfl, by rw [List.append_nil]; exact HJ0.out, Kp.refl _ _ _⟩⟩
    case round =>
      obtain ⟨k, ys, hk, rfl, HS⟩ := hrel
      have k0 : (0 : Int) ≤ (k : Int) := by omega
      rcases Nat.lt_or_ge k m with h | h
      · have k1 : (k : Int) < (m : Int) := by omega
        obtain ⟨b, o', rfl, hG, hbs, hcell⟩ := HH.out.rows (by omega)
        have hkl : k < sl.length := by rw [HL.out]; omega
        obtain ⟨P, hc21, hsin⟩ := hcell.out k hkl
        have hmem : sl[k] ∈ sl := List.getElem_mem hkl
        have hgx : sl[k]? = some sl[k] := List.getElem?_eq_getElem hkl
        obtain ⟨x, hx⟩ : ∃ x, sl[k] = x := ⟨_, rfl⟩
        rw [hx] at hc21 hsin hmem hgx
        have HSIN := Lib.hid hsin
        have HX := Lib.hid hgx
        have HM := Lib.hid hmem
        have HB1 := Lib.hid (HB0.out.trans HS.out.2.2.below)
        have hcw := (hc21.keep (HB1.out.block b hG)).at HN21.out
        have hbr : b < wr.heap.size := Nat.lt_of_lt_of_le hbs HB1.out.size
        have hcsz : (cs x P).size = n21 := HN21.out
        have ld1 := (hcw).ldN HN21.out
        have ld2 := (hcw).loadVar
        have ld3 := (hcw).loadAt
        have st1 := st_store x P
        have st2 := st_storeVar x P
        have st3 := st_storeAt x P
        clear hcell hc21 hsin hx hmem hgx hkl hcw
        gi_wp2_with fail
        have hbW : Below wr.heap.size wr (wr.alloc (.cells (cs x P) 47)) := by (repeat (first | (with_reducible exact Below.refl _ _) | (with_reducible assumption) | (with_reducible apply bl_alloc) | (with_reducible apply bl_drewN) | (with_reducible apply bl_drew) | (with_reducible refine bl_set ?_ (by first | (simp; done) | (simp; omega)) _) | (with_reducible refine bl_call ?_ (by assumption))))
        have hle := HB1.out.size
        have hcap : cnL (sl.take k) + cn x ≤ cnL sl := by rw [← cnL_take HX.out]; exact cnL_le _ _
        have hcn := cn_one x
        have hlen : ys.length = cnL (sl.take k) := by
          have := congrArg List.length HS.out.1
          rwa [List.length_map, ordL_len] at this
        have hN := HN.out
        have hnn := HNN.out
        have hTT := HTT.out
        have hsw := HS.out.2.2.below.size
        have hy := HY.out (n - 1) (ps ++ ys) ⟨x, P, HSIN.out, HSZ.out.mem HM.out⟩ _ (HJ.out _ _ _ HS.out.2.1 hbW) (by rw [List.length_append]; omega)
        obtain ⟨r0, hr0⟩ : ∃ r0 : Nd n₀ W0, r0 = ⟨x, P, HSIN.out, HSZ.out.mem HM.out⟩ := ⟨_, rfl⟩
        rw [← hr0] at hy
        have hr1 : encN r0 = #[.agg (cs x P)] := by rw [hr0]; rfl
        have HR0 : Hid (r0.x = x) := Lib.hid (by rw [hr0])
        rw [hr1] at hy
        clear hr0 hr1
        have HBW := Lib.hid hbW
        have hy2 := YieldAt.mono hy (R' := fun e W2 => (e = .returned (.bool true) ∧ Hid (J (ps ++ (ys ++ [r0])) W2) ∧ Hid (Kp n₀ T W W2) ∧ Hid (box21 W2 wr.heap.size x P) ∧ Hid (wr.heap.size < W2.heap.size)) ∨ (e = .returned (.bool false) ∧ Hid (Jx (ps ++ (ys ++ [r0])) W2)))
          (fun e W2 h => h.elim (fun ⟨he, hj, hk⟩ => .inl ⟨he, Lib.hid (by rwa [List.append_assoc] at hj), Lib.hid ((HS.out.2.2.trans (Kp.of_below HBW.out (by omega))).trans hk), Lib.hid (hk.box (by omega) box_new21), Lib.hid (hk.box (by omega) box_new21).lt⟩) fun ⟨he, hj⟩ => .inr ⟨he, Lib.hid (by rwa [List.append_assoc] at hj)⟩)
        obtain ⟨fn, tmps, assign, body, hy3, hR⟩ := hy2
        have ldb := (box21.cell (box_new21 (w := wr) (x := x) (P := P))).ldN HN21.out
        have HI0 := HI.out x HM.out
        have HLE : Hid (ps.length + (ys.length + cn x) ≤ N) := Lib.hid (by omega)
        have HCN := Lib.hid hcn
        have HSX := Lib.hid (HSZ.out)
        have HWW : Hid (n₀ ≤ W.heap.size ∧ T ≤ W.heap.size) := Lib.hid ⟨by have := HB0.out.size; omega, hTT⟩
        clear hy hbW hle hcap hcn hlen hN hnn hTT hsw
        go_simp
        gi_wp2_with ((try refine ⟨hdd _, ?_⟩); refine hR.mono ?_; clear hR; rintro e W2 (⟨rfl, HJ2, HK2, HX2, HZ2⟩ | ⟨rfl, HX2⟩) <;> (try have q19 := HX2.out.c19))
        · refine ((HI0.1 (n - 1) P.bp P.bm P.bc (ps ++ (ys ++ [r0])) W2 HSIN.out.bo (HSX.out.bo HM.out) (HB0.out.trans HK2.out.below) (Nat.le_trans HWW.out.2 HK2.out.below.size) HJ2.out (by simp only [List.length_append, List.length_cons, List.length_nil]; have := HLE.out; have := HCN.out; omega))).mono ?_
          rintro e W3 (⟨rfl, zs, hz1, hz2, hz3⟩ | ⟨rfl, q, hq1, hq2⟩)
          · have HX3 := Lib.hid (hz3.box (Nat.le_trans HWW.out.2 HS.out.2.2.below.size) HX2.out)
            have q20 := HX3.out.c20
            have HK3 := Lib.hid (HK2.out.trans hz3)
            have HJ3 := Lib.hid hz2
            have HZ3 := Lib.hid hz1
            clear hz1 hz2 hz3
            have hzl : zs.length = cnL x.bo := by
              have := congrArg List.length HZ3.out
              rwa [List.length_map, ordL_len] at this
            have HZL := Lib.hid hzl
            clear hzl
            gi_wp2_with fail
            refine ((HI0.2 (n - 1) P.lp P.lm P.lc (ps ++ (ys ++ [r0]) ++ zs) W3 HSIN.out.el (HSX.out.el HM.out) (HB0.out.trans HK3.out.below) (Nat.le_trans HWW.out.2 HK3.out.below.size) HJ3.out (by simp only [List.length_append, List.length_cons, List.length_nil]; have := HLE.out; have := HCN.out; have := HZL.out; omega))).mono ?_
            rintro e W4 (⟨rfl, us, hu1, hu2, hu3⟩ | ⟨rfl, q, hq1, hq2⟩)
            · have HK4 := Lib.hid (HK3.out.trans hu3)
              have HR : Hid ((ys ++ ([r0] ++ (zs ++ us))).map Nd.x = ordL (sl.take (k + 1)) ∧ J (ps ++ (ys ++ ([r0] ++ (zs ++ us)))) W4 ∧ Kp n₀ T W W4) := Lib.hid ⟨by
                rw [ordL_take HX.out, List.map_append, HS.out.1, List.map_append, List.map_append, HZ3.out, hu1, ord_one]
                simp only [List.map_cons, List.map_nil, HR0.out, List.cons_append, List.nil_append], by simpa [List.append_assoc] using hu2, HK4.out⟩
              clear hu1 hu2 hu3
              gi_wp2_with fail
              go_roundw
              case rel => exact ⟨k + 1, _, by omega, by go_num, HR⟩
              case measure => simp [intOf]; omega
            · have HR : Hid (∃ q : List (Nd n₀ W0), q.map Nd.x <+: ordL sl ∧ Jx (ps ++ q) W4) := Lib.hid ⟨ys ++ ([r0] ++ (zs ++ q)), by
                rw [List.map_append, HS.out.1, List.map_append, List.map_append, HZ3.out]
                refine ord_pre HX.out ?_
                simp only [List.map_cons, List.map_nil, HR0.out, List.cons_append, List.nil_append]
                exact ord_pre2 hq1, by simpa [List.append_assoc] using hq2⟩
              clear hq1 hq2
              gi_wp2_with fail
              go_ret
              exact .inr ⟨rfl, HR.out⟩
          · have HR : Hid (∃ q : List (Nd n₀ W0), q.map Nd.x <+: ordL sl ∧ Jx (ps ++ q) W3) := Lib.hid ⟨ys ++ ([r0] ++ q), by
              rw [List.map_append, HS.out.1, List.map_append]
              refine ord_pre HX.out ?_
              simp only [List.map_cons, List.map_nil, HR0.out, List.cons_append, List.nil_append]
              exact ord_pre1 hq1, by simpa [List.append_assoc] using hq2⟩
            clear hq1 hq2
            gi_wp2_with fail
            go_ret
            exact .inr ⟨rfl, HR.out⟩
        · go_ret
          exact .inr ⟨rfl, ys ++ [r0], by
            rw [List.map_append, HS.out.1]
            refine ord_pre HX.out ?_
            simp only [List.map_cons, List.map_nil, HR0.out]
            exact ord_pre0 x, HX2.out⟩
      · obtain rfl : m = k := by omega
        have HT : Hid (sl.take m = sl) := Lib.hid (List.take_of_length_le (by rw [HL.out]; exact Nat.le_refl _))
        rw [HT.out] at HS
        gi_wp2
        go_ret
        exact .inl ⟨rfl, ys, HS.out⟩
set_option maxRecDepth 100000 in
theorem iter_in (F : Fence) (hd : F.depth = none) (hf : F.fn 39) (hg : F.fn 38) (hro : F.round = none) (n l B n₀ T : Nat) (W0 : World) (hn : n₀ ≤ W0.heap.size) (J Jx : List (Nd n₀ W0) → World → Prop) (sl : List St)
    (hJ : ∀ s W W', J s W → Below W.heap.size W W' → J s W')
    (hY : ∀ ps r W, J ps W → ps.length < cnL sl → YieldAt F (n - 1) Try.prog l (encN r) W fun e W' =>
      (e = .returned (.bool true) ∧ J (ps ++ [r]) W' ∧ Kp n₀ T W W') ∨ (e = .returned (.bool false) ∧ Jx (ps ++ [r]) W'))
    (p : Option Addr) (m c : Nat) (W : World) (hx : W.cell? ⟨B, 0, none⟩ = some (.slice p m c)) (hk : Lin (Lo n₀) W0 sl p m) (hs : SzL sl) (hb : Below n₀ W0 W) (hT : T ≤ W.heap.size) (h0 : J [] W) :
    CallsIn F n Try.prog 38 #[.func (.yield l) #[] #[], .pointer (some ⟨B, 0, none⟩)] W fun e' W' => (∃ v, e' = .returned v) ∧
      ((∃ ys, ys.map Nd.x = ordL sl ∧ J ys W') ∨ (∃ q, q.map Nd.x <+: ordL sl ∧ Jx q W')) := by
  have hdd : ∀ k : Nat, (F.depth.isSome = true → 1 ≤ k) := fun k h => by rw [hd] at h; cases h
  have hp := wlkd_in F hd hf hro l n₀ T (cnL sl) W0 hn J Jx hJ (fun m ps r W hj hl => yield_any_depth hd m (hY ps r W hj hl)) sl (n - 1) p m c [] W hk hs hb hT h0 (by simp)
  clear hY hk hs hn hT h0 hJ
  refine callsIn_of_wp Try.func38 rfl hg ?_ hro
  simp only [Try.ntmps38, List.size_toArray, List.length_cons, List.length_nil, Nat.reduceAdd, Nat.reduceSub, Array.replicate_succ, Array.replicate_zero, List.push_toArray, List.append_toArray, List.nil_append, List.cons_append]
  gi_wp2_with ((try refine ⟨hdd _, ?_⟩); gi_at_call 39; refine hp.mono ?_; clear hp; rintro e W1 (⟨rfl, ys, h1, h2, -⟩ | ⟨rfl, q, h1, h2⟩))
  · go_end0
    exact ⟨⟨_, rfl⟩, .inl ⟨ys, h1, by simpa using h2⟩⟩
  · go_end0
    exact ⟨⟨_, rfl⟩, .inr ⟨q, h1, by simpa using h2⟩⟩
theorem statements_in (F : Fence) (n : Nat) (hf : F.fn 24) (hro : F.round = none) (p : Option Addr) (m c : Nat) (w : World) :
    CallsIn F n Try.prog 24 #[.slice p m c] w fun e w' => e = .returned (.func (.func 38) #[] #[.pointer (some ⟨w.heap.size, 0, none⟩)]) ∧ w' = w.alloc (.cells #[.slice p m c] 22) := by
  refine callsIn_of_wp Try.func24 rfl hf ?_ hro
  simp only [Try.ntmps24, List.size_toArray, List.length_cons, List.length_nil, Nat.reduceAdd, Nat.reduceSub, Array.replicate_succ, Array.replicate_zero, List.push_toArray, List.append_toArray, List.nil_append, List.cons_append]
  gi_wp2
  go_ret
  exact ⟨rfl, rfl⟩
theorem stmts_stops (F : Fence) (hd : F.depth = none) (hf : F.fn 39) (hg : F.fn 38) (hro : F.round = none) (n B n₀ T : Nat) (W0 : World) (hn : n₀ ≤ W0.heap.size) (sl : List St) (p : Option Addr) (m c : Nat) (w : World) (hx : w.cell? ⟨B, 0, none⟩ = some (.slice p m c)) (hk : Lin (Lo n₀) W0 sl p m) (hs : SzL sl) (hb : Below n₀ W0 w) (hT : T ≤ w.heap.size) :
    SeqStopsK F n Try.prog 38 #[.pointer (some ⟨B, 0, none⟩)] (encN (n₀ := n₀) (W0 := W0)) (Kp n₀ T) (fun ys => ys.map Nd.x = ordL sl) (fun q => q.map Nd.x <+: ordL sl) (cnL sl) w := fun l J Jx W hW hJ _ hY h0 =>
  iter_in F hd hf hg hro n l B n₀ T W0 hn J Jx sl (fun s W W' h hb => abides_below hJ h hb) hY p m c W ((hW.cell (p := ⟨B, 0, none⟩) (block_lt hx)).trans hx) hk hs (hb.trans (hW.mono (Nat.le_trans hn hb.size))) (Nat.le_trans hT hW.size) h0
end Go.Proofs.Ytonlmnlpofgccaa.Sm
