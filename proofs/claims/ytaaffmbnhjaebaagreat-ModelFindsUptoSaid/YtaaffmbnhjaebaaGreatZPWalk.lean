/-
  Parts of this proof: The contracts of walk, of the closure of statements and of statements. The contracts of Count and of hasMore. The contract of Depth.
-/
import Derived.Test.YtaaffmbnhjaebaaGreatZQIdx
import Derived.Laws.Cover1
namespace Go.Proofs.YtaaffmbnhjaebaaGreat.Sm
open Go.RowKit Go.Shelf
open Go.Proofs.YtaaffmbnhjaebaaGreat.Ex (Lo block_lt yield_any_depth abides_below)
attribute [local go_sem] Oper.semAt_some
attribute [local go_sem] cs0 cs1 cs2 cs3 cs4 cs5 cs6 cs7 cs8 cs9 cs10 cs11 cs12 cs13 cs14 cs15 cs16 cs17 cs18 cs19 cs20
set_option maxHeartbeats 400000
set_option linter.unusedVariables false
structure Nd (n₀ : Nat) (W0 : World) where
 x : St
 P : Pl
 hi : Sin (Lo n₀) W0 x P
 hs : SzS x
def encN {n₀ : Nat} {W0 : World} (r : Nd n₀ W0) : Array Value := #[.agg (cs r.x r.P)]
structure Kp (n₀ T : Nat) (W W' : World) : Prop where
 below : Below n₀ W W'
 same : ∀ (k : Nat) (C : Array Value) (fr : Nat × Nat), T ≤ k → W.heap[k]? = some (.cells C 173 fr) → W'.heap[k]? = some (.cells C 173 fr)
theorem Kp.refl (n₀ T : Nat) (W : World) : Kp n₀ T W W := ⟨Below.refl _ _, fun _ _ _ _ h => h⟩
theorem Kp.trans {n₀ T : Nat} {A B C : World} (h : Kp n₀ T A B) (k : Kp n₀ T B C) : Kp n₀ T A C := ⟨h.below.trans k.below, fun i c fr hi hc => k.same i c fr hi (h.same i c fr hi hc)⟩
theorem Kp.of_below {n₀ T : Nat} {W W' : World} (h : Below W.heap.size W W') (hn : n₀ ≤ W.heap.size) : Kp n₀ T W W' := ⟨h.mono hn, fun k c fr _ hc => (h.block k (Array.getElem?_eq_some_iff.1 hc).1).trans hc⟩
theorem Kp.box {n₀ T g : Nat} {W W' : World} {x : St} {P : Pl} (h : Kp n₀ T W W') (hT : T ≤ g) (hb : box21 W g x P) : box21 W' g x P := h.same g _ _ hT hb
theorem Kp.put {n₀ T : Nat} {w : World} (hn : n₀ ≤ w.heap.size) (W : World) (l : Nat) (o o' : Obj) (hl : w.heap.size ≤ l) (h : W.heap[l]? = some o) (h1 : o.isCells = false) (h2 : o.isWalk = false) : Kp n₀ T W (W.putObj l o') :=
 ⟨belowK_b hn W l o o' hl h h1 h2, fun k c fr _ hc => by
   rw [World.putObj_heap_other]
   · exact hc
   · intro e
     subst e
     rw [h] at hc
     cases hc
     cases h1⟩
theorem Kp.set {n₀ T : Nat} {W : World} {B : Nat} (h0 : n₀ ≤ B) (hT : B < T) (v : Value) : Kp n₀ T W (W.setCell ⟨B, 0, none⟩ v) :=
 ⟨(Below.refl n₀ W).setCell (p := ⟨B, 0, none⟩) h0 v, fun k c fr hk hc => ((grownBy_setCell' W B v).block k (Array.getElem?_eq_some_iff.1 hc).1 (fun e => by cases e; omega)).trans hc⟩
theorem ord_pre {sl : List St} {k : Nat} {x : St} {q : List St} (h : sl[k]? = some x) (hq : q <+: ord x) : ordL (sl.take k) ++ q <+: ordL sl := by
 have h2 := ordL_app (sl.take (k + 1)) (sl.drop (k + 1))
 rw [List.take_append_drop, ordL_take h, List.append_assoc] at h2
 rw [h2, List.prefix_append_right_inj]
 exact hq.trans (List.prefix_append _ _)
theorem ord_pre0 (x : St) : [x] <+: ord x := by rw [ord_one]; exact ⟨_, rfl⟩
theorem ord_pre1 {x : St} {q : List St} (h : q <+: ordL x.bo) : x :: q <+: ord x := by
 rw [ord_one, List.cons_prefix_cons]
 exact ⟨rfl, h.trans (List.prefix_append _ _)⟩
theorem ord_pre2 {x : St} {q : List St} (h : q <+: ordL x.el) : x :: (ordL x.bo ++ q) <+: ord x := by
 rw [ord_one, List.cons_prefix_cons]
 exact ⟨rfl, by rw [List.prefix_append_right_inj]; exact h⟩
set_option maxRecDepth 100000 in
theorem wlkd_in (F : Fence) (hd : F.depth = none) (hf : F.fn 170) (hro : F.round = none) (l n₀ T N : Nat) (W0 : World) (hn : n₀ ≤ W0.heap.size) (J Jx : List (Nd n₀ W0) → World → Prop)
 (hJ : ∀ s W W', J s W → Below W.heap.size W W' → J s W')
 (hY : ∀ m ps r W, J ps W → ps.length < N → YieldAt F m Tryz.prog l (encN r) W fun e W' =>
   (e = .returned (.bool true) ∧ J (ps ++ [r]) W' ∧ Kp n₀ T W W') ∨ (e = .returned (.bool false) ∧ Jx (ps ++ [r]) W')) (sl : List St) :
 ∀ (n : Nat) (p : Option Addr) (m c : Nat) (ps : List (Nd n₀ W0)) (W : World), Lin (Lo n₀) W0 sl p m → SzL sl → Below n₀ W0 W → T ≤ W.heap.size → J ps W → ps.length + cnL sl ≤ N →
  CallsIn F n Tryz.prog 170 #[.slice p m c, .func (.yield l) #[] #[]] W fun r W' =>
   (r = .returned (.bool true) ∧ ∃ ys, ys.map Nd.x = ordL sl ∧ J (ps ++ ys) W' ∧ Kp n₀ T W W') ∨ (r = .returned (.bool false) ∧ ∃ q, q.map Nd.x <+: ordL sl ∧ Jx (ps ++ q) W') := by
 induction sl using lst_ind with
 | h sl ih =>
  intro n p m c ps W ht hsz hb0 hT hJ0 hN
  have hdd : ∀ k : Nat, (F.depth.isSome = true → 1 ≤ k) := fun k h => by rw [hd] at h; cases h
  obtain ⟨hl, hm⟩ := ht.len
  have HH := Lib.hid ht
  have HI := Lib.hid ih
  have HL := Lib.hid hl
  have HSZ := Lib.hid hsz
  have HJ := Lib.hid hJ
  have HY := Lib.hid hY
  have HN := Lib.hid hN
  have HB0 := Lib.hid hb0
  have HNN := Lib.hid hn
  have HTT := Lib.hid hT
  have HJ0 := Lib.hid hJ0
  clear hY hJ hJ0 hN ih ht hsz hn hT hl hb0
  obtain ⟨n21, hn21⟩ : ∃ n : Nat, 21 = n := ⟨_, rfl⟩
  have hsz : ∀ w, (sizeOf 173).run Tryz.prog w = .ok n21 w := fun w => by rw [Tryz.sizeOf173, hn21]
  have HN21 := Lib.hid hn21
  clear hn21
  refine callsIn_of_wp Tryz.func170 rfl hf ?_ hro
  simp only [Tryz.ntmps170, List.size_toArray, List.length_cons, List.length_nil, Nat.reduceAdd, Nat.reduceSub, Array.replicate_succ, Array.replicate_zero, List.push_toArray, List.append_toArray, List.nil_append, List.cons_append]
  gi_wp2_with fail
  gi_loopw [9] (fun i wr => ∃ (k : Nat) (ys : List (Nd n₀ W0)), k ≤ m ∧ i = .int .i64 (k : Nat) ∧ Hid (ys.map Nd.x = ordL (sl.take k) ∧ J (ps ++ ys) wr ∧ Kp n₀ T W wr)) (fun i _ => m - (intOf i).toNat)
  case atStart => exact ⟨0, [], Nat.zero_le _, rfl, Lib.hid ⟨by rw [List.take_zero, ordL]; rfl, by rw [List.append_nil]; exact HJ0.out, Kp.refl _ _ _⟩⟩
  case round =>
   obtain ⟨k, ys, hk, rfl, HS⟩ := hrel
   have k0 : (0 : Int) ≤ (k : Int) := by omega
   rcases Nat.lt_or_ge k m with h | h
   · have k1 : (k : Int) < (m : Int) := by omega
     obtain ⟨b, o', rfl, hG, hbs, hcell⟩ := HH.out.rows (by omega)
     have hkl : k < sl.length := by rw [HL.out]; omega
     obtain ⟨P, hc21, hsin⟩ := hcell.out k hkl
     have hmem : sl[k] ∈ sl := List.getElem_mem hkl
     have hgx : sl[k]? = some sl[k] := List.getElem?_eq_getElem hkl
     obtain ⟨x, hx⟩ : ∃ x, sl[k] = x := ⟨_, rfl⟩
     rw [hx] at hc21 hsin hmem hgx
     have HSIN := Lib.hid hsin
     have HX := Lib.hid hgx
     have HM := Lib.hid hmem
     have HB1 := Lib.hid (HB0.out.trans HS.out.2.2.below)
     have hcw := (hc21.keep (HB1.out.block b hG)).at HN21.out
     have hbr : b < wr.heap.size := Nat.lt_of_lt_of_le hbs HB1.out.size
     have hcsz : (cs x P).size = n21 := HN21.out
     have ld1 := (hcw).ldN HN21.out
     have ld2 := (hcw).loadVar
     have ld3 := (hcw).loadAt
     have st1 := st_store x P
     have st2 := st_storeVar x P
     have st3 := st_storeAt x P
     clear hcell hc21 hsin hx hmem hgx hkl hcw
     gi_wp2_with fail
     have hbW : Below wr.heap.size wr (wr.alloc (.cells (cs x P) 173)) := bl
     have hle := HB1.out.size
     have hcap : cnL (sl.take k) + cn x ≤ cnL sl := by rw [← cnL_take HX.out]; exact cnL_le _ _
     have hcn := cn_one x
     have hlen : ys.length = cnL (sl.take k) := by
      have := congrArg List.length HS.out.1
      rwa [List.length_map, ordL_len] at this
     have hN := HN.out
     have hnn := HNN.out
     have hTT := HTT.out
     have hsw := HS.out.2.2.below.size
     have hy := HY.out (n - 1) (ps ++ ys) ⟨x, P, HSIN.out, HSZ.out.mem HM.out⟩ _ (HJ.out _ _ _ HS.out.2.1 hbW) (by rw [List.length_append]; omega)
     obtain ⟨r0, hr0⟩ : ∃ r0 : Nd n₀ W0, r0 = ⟨x, P, HSIN.out, HSZ.out.mem HM.out⟩ := ⟨_, rfl⟩
     rw [← hr0] at hy
     have hr1 : encN r0 = #[.agg (cs x P)] := by rw [hr0]; rfl
     have HR0 : Hid (r0.x = x) := Lib.hid (by rw [hr0])
     rw [hr1] at hy
     clear hr0 hr1
     have HBW := Lib.hid hbW
     have hy2 := YieldAt.mono hy (R' := fun e W2 => (e = .returned (.bool true) ∧ Hid (J (ps ++ (ys ++ [r0])) W2) ∧ Hid (Kp n₀ T W W2) ∧ Hid (box21 W2 wr.heap.size x P) ∧ Hid (wr.heap.size < W2.heap.size)) ∨ (e = .returned (.bool false) ∧ Hid (Jx (ps ++ (ys ++ [r0])) W2)))
      (fun e W2 h => h.elim (fun ⟨he, hj, hk⟩ => .inl ⟨he, Lib.hid (by rwa [List.append_assoc] at hj), Lib.hid ((HS.out.2.2.trans (Kp.of_below HBW.out (by omega))).trans hk), Lib.hid (hk.box (by omega) box_new21), Lib.hid (hk.box (by omega) box_new21).lt⟩) fun ⟨he, hj⟩ => .inr ⟨he, Lib.hid (by rwa [List.append_assoc] at hj)⟩)
     obtain ⟨fn, tmps, assign, body, hy3, hR⟩ := hy2
     have ldb := (box21.cell (box_new21 (w := wr) (x := x) (P := P))).ldN HN21.out
     have HI0 := HI.out x HM.out
     have HLE : Hid (ps.length + (ys.length + cn x) ≤ N) := Lib.hid (by omega)
     have HCN := Lib.hid hcn
     have HSX := Lib.hid (HSZ.out)
     have HWW : Hid (n₀ ≤ W.heap.size ∧ T ≤ W.heap.size) := Lib.hid ⟨by have := HB0.out.size; omega, hTT⟩
     clear hy hbW hle hcap hcn hlen hN hnn hTT hsw
     go_simp
     gi_wp2_with ((try refine ⟨hdd _, ?_⟩); refine hR.mono ?_; clear hR; rintro e W2 (⟨rfl, HJ2, HK2, HX2, HZ2⟩ | ⟨rfl, HX2⟩) <;> (try have q19 := HX2.out.c19))
     · refine ((HI0.1 (n - 1) P.bp P.bm P.bc (ps ++ (ys ++ [r0])) W2 HSIN.out.bo (HSX.out.bo HM.out) (HB0.out.trans HK2.out.below) (Nat.le_trans HWW.out.2 HK2.out.below.size) HJ2.out (by simp only [List.length_append, List.length_cons, List.length_nil]; have := HLE.out; have := HCN.out; omega))).mono ?_
       rintro e W3 (⟨rfl, zs, hz1, hz2, hz3⟩ | ⟨rfl, q, hq1, hq2⟩)
       · have HX3 := Lib.hid (hz3.box (Nat.le_trans HWW.out.2 HS.out.2.2.below.size) HX2.out)
         have q20 := HX3.out.c20
         have HK3 := Lib.hid (HK2.out.trans hz3)
         have HJ3 := Lib.hid hz2
         have HZ3 := Lib.hid hz1
         clear hz1 hz2 hz3
         have hzl : zs.length = cnL x.bo := by
          have := congrArg List.length HZ3.out
          rwa [List.length_map, ordL_len] at this
         have HZL := Lib.hid hzl
         clear hzl
         gi_wp2_with fail
         refine ((HI0.2 (n - 1) P.lp P.lm P.lc (ps ++ (ys ++ [r0]) ++ zs) W3 HSIN.out.el (HSX.out.el HM.out) (HB0.out.trans HK3.out.below) (Nat.le_trans HWW.out.2 HK3.out.below.size) HJ3.out (by simp only [List.length_append, List.length_cons, List.length_nil]; have := HLE.out; have := HCN.out; have := HZL.out; omega))).mono ?_
         rintro e W4 (⟨rfl, us, hu1, hu2, hu3⟩ | ⟨rfl, q, hq1, hq2⟩)
         · have HK4 := Lib.hid (HK3.out.trans hu3)
           have HR : Hid ((ys ++ ([r0] ++ (zs ++ us))).map Nd.x = ordL (sl.take (k + 1)) ∧ J (ps ++ (ys ++ ([r0] ++ (zs ++ us)))) W4 ∧ Kp n₀ T W W4) := Lib.hid ⟨by
            rw [ordL_take HX.out, List.map_append, HS.out.1, List.map_append, List.map_append, HZ3.out, hu1, ord_one]
            simp only [List.map_cons, List.map_nil, HR0.out, List.cons_append, List.nil_append], by simpa [List.append_assoc] using hu2, HK4.out⟩
           clear hu1 hu2 hu3
           gi_wp2_with fail
           go_roundw
           case rel => exact ⟨k + 1, _, by omega, by go_num, HR⟩
           case measure => simp [intOf]; omega
         · have HR : Hid (∃ q : List (Nd n₀ W0), q.map Nd.x <+: ordL sl ∧ Jx (ps ++ q) W4) := Lib.hid ⟨ys ++ ([r0] ++ (zs ++ q)), by
            rw [List.map_append, HS.out.1, List.map_append, List.map_append, HZ3.out]
            refine ord_pre HX.out ?_
            simp only [List.map_cons, List.map_nil, HR0.out, List.cons_append, List.nil_append]
            exact ord_pre2 hq1, by simpa [List.append_assoc] using hq2⟩
           clear hq1 hq2
           gi_wp2_with fail
           go_ret
           exact .inr ⟨rfl, HR.out⟩
       · have HR : Hid (∃ q : List (Nd n₀ W0), q.map Nd.x <+: ordL sl ∧ Jx (ps ++ q) W3) := Lib.hid ⟨ys ++ ([r0] ++ q), by
          rw [List.map_append, HS.out.1, List.map_append]
          refine ord_pre HX.out ?_
          simp only [List.map_cons, List.map_nil, HR0.out, List.cons_append, List.nil_append]
          exact ord_pre1 hq1, by simpa [List.append_assoc] using hq2⟩
         clear hq1 hq2
         gi_wp2_with fail
         go_ret
         exact .inr ⟨rfl, HR.out⟩
     · go_ret
       exact .inr ⟨rfl, ys ++ [r0], by
        rw [List.map_append, HS.out.1]
        refine ord_pre HX.out ?_
        simp only [List.map_cons, List.map_nil, HR0.out]
        exact ord_pre0 x, HX2.out⟩
   · obtain rfl : m = k := by omega
     have HT : Hid (sl.take m = sl) := Lib.hid (List.take_of_length_le (by rw [HL.out]; exact Nat.le_refl _))
     rw [HT.out] at HS
     gi_wp2
     go_ret
     exact .inl ⟨rfl, ys, HS.out⟩
set_option maxRecDepth 100000 in
theorem iter_in (F : Fence) (hd : F.depth = none) (hf : F.fn 170) (hg : F.fn 169) (hro : F.round = none) (n l B n₀ T : Nat) (W0 : World) (hn : n₀ ≤ W0.heap.size) (J Jx : List (Nd n₀ W0) → World → Prop) (sl : List St)
 (hJ : ∀ s W W', J s W → Below W.heap.size W W' → J s W')
 (hY : ∀ ps r W, J ps W → ps.length < cnL sl → YieldAt F (n - 1) Tryz.prog l (encN r) W fun e W' =>
   (e = .returned (.bool true) ∧ J (ps ++ [r]) W' ∧ Kp n₀ T W W') ∨ (e = .returned (.bool false) ∧ Jx (ps ++ [r]) W'))
 (p : Option Addr) (m c : Nat) (W : World) (hx : W.cell? ⟨B, 0, none⟩ = some (.slice p m c)) (hk : Lin (Lo n₀) W0 sl p m) (hs : SzL sl) (hb : Below n₀ W0 W) (hT : T ≤ W.heap.size) (h0 : J [] W) :
 CallsIn F n Tryz.prog 169 #[.func (.yield l) #[] #[], .pointer (some ⟨B, 0, none⟩)] W fun e' W' => (∃ v, e' = .returned v) ∧
  ((∃ ys, ys.map Nd.x = ordL sl ∧ J ys W') ∨ (∃ q, q.map Nd.x <+: ordL sl ∧ Jx q W')) := by
 have hdd : ∀ k : Nat, (F.depth.isSome = true → 1 ≤ k) := fun k h => by rw [hd] at h; cases h
 have hp := wlkd_in F hd hf hro l n₀ T (cnL sl) W0 hn J Jx hJ (fun m ps r W hj hl => yield_any_depth hd m (hY ps r W hj hl)) sl (n - 1) p m c [] W hk hs hb hT h0 (by simp)
 clear hY hk hs hn hT h0 hJ
 refine callsIn_of_wp Tryz.func169 rfl hg ?_ hro
 simp only [Tryz.ntmps169, List.size_toArray, List.length_cons, List.length_nil, Nat.reduceAdd, Nat.reduceSub, Array.replicate_succ, Array.replicate_zero, List.push_toArray, List.append_toArray, List.nil_append, List.cons_append]
 gi_wp2_with ((try refine ⟨hdd _, ?_⟩); gi_at_call 170; refine hp.mono ?_; clear hp; rintro e W1 (⟨rfl, ys, h1, h2, -⟩ | ⟨rfl, q, h1, h2⟩))
 · go_end0
   exact ⟨⟨_, rfl⟩, .inl ⟨ys, h1, by simpa using h2⟩⟩
 · go_end0
   exact ⟨⟨_, rfl⟩, .inr ⟨q, h1, by simpa using h2⟩⟩
theorem statements_in (F : Fence) (n : Nat) (hf : F.fn 153) (hro : F.round = none) (p : Option Addr) (m c : Nat) (w : World) :
 CallsIn F n Tryz.prog 153 #[.slice p m c] w fun e w' => e = .returned (.func (.func 169) #[] #[.pointer (some ⟨w.heap.size, 0, none⟩)]) ∧ w' = w.alloc (.cells #[.slice p m c] 77) := by
 refine callsIn_of_wp Tryz.func153 rfl hf ?_ hro
 simp only [Tryz.ntmps153, List.size_toArray, List.length_cons, List.length_nil, Nat.reduceAdd, Nat.reduceSub, Array.replicate_succ, Array.replicate_zero, List.push_toArray, List.append_toArray, List.nil_append, List.cons_append]
 gi_wp2
 go_ret
 exact ⟨rfl, rfl⟩
theorem stmts_stops (F : Fence) (hd : F.depth = none) (hf : F.fn 170) (hg : F.fn 169) (hro : F.round = none) (n B n₀ T : Nat) (W0 : World) (hn : n₀ ≤ W0.heap.size) (sl : List St) (p : Option Addr) (m c : Nat) (w : World) (hx : w.cell? ⟨B, 0, none⟩ = some (.slice p m c)) (hk : Lin (Lo n₀) W0 sl p m) (hs : SzL sl) (hb : Below n₀ W0 w) (hT : T ≤ w.heap.size) :
 SeqStopsK F n Tryz.prog 169 #[.pointer (some ⟨B, 0, none⟩)] (encN (n₀ := n₀) (W0 := W0)) (Kp n₀ T) (fun ys => ys.map Nd.x = ordL sl) (fun q => q.map Nd.x <+: ordL sl) (cnL sl) w := fun l J Jx W hW hJ _ hY h0 =>
 iter_in F hd hf hg hro n l B n₀ T W0 hn J Jx sl (fun s W W' h hb => abides_below hJ h hb) hY p m c W ((hW.cell (p := ⟨B, 0, none⟩) (block_lt hx)).trans hx) hk hs (hb.trans (hW.mono (Nat.le_trans hn hb.size))) (Nat.le_trans hT hW.size) h0
end Go.Proofs.YtaaffmbnhjaebaaGreat.Sm
namespace Go.Proofs.YtaaffmbnhjaebaaGreat.Sm
open Go.RowKit Go.Shelf
open Go.Proofs.YtaaffmbnhjaebaaGreat.Ex (Gives cell_new set_other below_set)
attribute [local go_sem] Oper.semAt_some
set_option maxHeartbeats 1000000
set_option linter.unusedVariables false
theorem map_len {n₀ : Nat} {W0 : World} {ys : List (Nd n₀ W0)} {sl : List St} (h : ys.map Nd.x = ordL sl) : ys.length = cnL sl := by
 have := congrArg List.length h
 rwa [List.length_map, ordL_len] at this
theorem prefix_len {n₀ : Nat} {W0 : World} {q : List (Nd n₀ W0)} {sl : List St} (h : q.map Nd.x <+: ordL sl) : q.length ≤ cnL sl := by
 have := h.length_le
 rwa [List.length_map, ordL_len] at this
set_option maxRecDepth 100000 in
theorem more_any (sl : List St) (p : Option Addr) (m c : Nat) (w : World) (h : LIn w sl p m) (hs : SzL sl) : Calls Tryz.prog 151 #[.slice p m c, .int .i64 200] w (Gives (.bool (decide (200 < cnL sl))) w) := by
 have HH := Lib.hid h
 have HS := Lib.hid hs
 clear h hs
 refine (callsIn_wide (n := 3)).1 ?_
 refine callsIn_of_wp_marks Tryz.func151 rfl trivial ?_ rfl
 simp only [Tryz.ntmps151, List.size_toArray, List.length_cons, List.length_nil, Nat.reduceAdd, Nat.reduceSub, Array.replicate_succ, Array.replicate_zero, List.push_toArray, List.append_toArray, List.nil_append, List.cons_append]
 gi_wp2_with (refine ⟨trivial, ?_⟩; gi_at_call 153; refine (statements_in Fence.wide _ trivial rfl _ _ _ _).mono ?_; rintro e w' ⟨rfl, rfl⟩)
 obtain ⟨w2, hw2⟩ : ∃ w2, w.alloc (.cells #[.int .i64 200] 3) = w2 := ⟨_, rfl⟩
 have hz2 : w2.heap.size = w.heap.size + 1 := by rw [← hw2]; simp
 have hb2 : Below w.heap.size w w2 := by rw [← hw2]; exact bl
 have h2 := cell_new w (.int .i64 200) 3
 rw [hw2] at h2
 obtain ⟨w3, hw3⟩ : ∃ w3, w2.alloc (.cells #[.bool false] 4) = w3 := ⟨_, rfl⟩
 have hz3 : w3.heap.size = w.heap.size + 2 := by rw [← hw3]; simp [hz2]
 have hb3 : Below w2.heap.size w2 w3 := by rw [← hw3]; exact bl
 have h3 := cell_new w2 (.bool false) 4
 rw [hw3] at h3
 obtain ⟨w4, hw4⟩ : ∃ w4, w3.alloc (.cells #[.int .i64 0] 3) = w4 := ⟨_, rfl⟩
 have hz4 : w4.heap.size = w.heap.size + 3 := by rw [← hw4]; simp [hz3]
 have hb4 : Below w3.heap.size w3 w4 := by rw [← hw4]; exact bl
 have h4 := cell_new w3 (.int .i64 0) 3
 rw [hw4] at h4
 obtain ⟨w5, hw5⟩ : ∃ w5, w4.alloc (.cells #[.slice p m c] 77) = w5 := ⟨_, rfl⟩
 have hz5 : w5.heap.size = w.heap.size + 4 := by rw [← hw5]; simp [hz4]
 have hb5 : Below w4.heap.size w4 w5 := by rw [← hw5]; exact bl
 have h5 := cell_new w4 (.slice p m c) 77
 rw [hw5] at h5
 have g2 : w5.cell? ⟨w.heap.size, 0, none⟩ = some (.int .i64 200) := (hb5.cell (by simp; omega)).trans ((hb4.cell (by simp; omega)).trans ((hb3.cell (by simp; omega)).trans h2.1))
 have g3 : w5.cell? ⟨w2.heap.size, 0, none⟩ = some (.bool false) := (hb5.cell (by simp; omega)).trans ((hb4.cell (by simp; omega)).trans h3.1)
 have g3f : w5.frozen? ⟨w2.heap.size, 0, none⟩ = false := (hb5.frozen (by simp; omega)).trans ((hb4.frozen (by simp; omega)).trans h3.2)
 have g4 : w5.cell? ⟨w3.heap.size, 0, none⟩ = some (.int .i64 0) := (hb5.cell (by simp; omega)).trans h4.1
 have g4f : w5.frozen? ⟨w3.heap.size, 0, none⟩ = false := (hb5.frozen (by simp; omega)).trans h4.2
 have hb : Below w.heap.size w w5 := hb2.trans ((hb3.mono (by omega)).trans ((hb4.mono (by omega)).trans (hb5.mono (by omega))))
 have g5 := h5.1
 rw [hz2] at g3 g3f
 rw [hz3] at g4 g4f
 rw [hz4] at g5
 rw [hw2, hw3, hw4, hw5]
 clear hw2 hw3 hw4 hw5 hb2 hb3 hb4 hb5 h2 h3 h4 h5 hz2 hz3 hz4
 refine wpIn_rangeFunc_ownG rfl (by omega) (gf := 169) (lb := #[.pointer (some ⟨w.heap.size + 1 + 1 + 1, 0, none⟩)]) rfl trivial (enters_of Tryz.func169 (by kernel_rfl) rfl)
  (stmts_stops Fence.wide rfl trivial trivial rfl _ (w.heap.size + 1 + 1 + 1) w.heap.size w5.heap.size w (Nat.le_refl _) sl p m c w5 g5 HH.out HS.out hb (Nat.le_refl _)) (fun h k => h.trans k) (Kp.put (by omega)) (Below.refl _ _) (fun _ => rfl)
  (fun ps W => ((W.cell? ⟨w.heap.size + 1 + 1, 0, none⟩ = some (.int .i64 (ps.length : Nat)) ∧ W.frozen? ⟨w.heap.size + 1 + 1, 0, none⟩ = false) ∧ W.cell? ⟨w.heap.size, 0, none⟩ = some (.int .i64 200) ∧ W.cell? ⟨w.heap.size + 1, 0, none⟩ = some (.bool false) ∧ W.frozen? ⟨w.heap.size + 1, 0, none⟩ = false ∧ ps.length ≤ 200) ∧ Below w.heap.size w W)
  (fun c ps W => (c = .ret ∧ 200 < ps.length ∧ W.cell? ⟨w.heap.size + 1, 0, none⟩ = some (.bool true)) ∧ Below w.heap.size w W)
  (OwnFrom.and (Own.from (fun s A B row hs hg hr => ⟨⟨cell_kept hs.1.1 hg hr, (frozen_kept hs.1.1 hg hr).trans hs.1.2⟩, cell_kept hs.2.1 hg hr, cell_kept hs.2.2.1 hg hr, (frozen_kept hs.2.2.1 hg hr).trans hs.2.2.2.1, hs.2.2.2.2⟩) _) (ownFrom_below (Nat.le_refl _) (by omega)))
  (fun c => OwnFrom.and (Own.from (fun s A B row hs hg hr => ⟨hs.1, hs.2.1, cell_kept hs.2.2 hg hr⟩) _) (ownFrom_below (Nat.le_refl _) (by omega)))
  ⟨⟨⟨g4, g4f⟩, g2, g3, g3f, by simp⟩, hb⟩
  (fun x => { tmps := #[.slice p m c, .int .i64 200, undef, .pointer (some ⟨w.heap.size, 0, none⟩), .pointer (some ⟨w.heap.size + 1, 0, none⟩), .pointer (some ⟨w.heap.size + 1 + 1, 0, none⟩), .slice p m c, .func (.func 169) #[] #[.pointer (some ⟨w.heap.size + 1 + 1 + 1, 0, none⟩)], .agg (cs x.x x.P), undef, undef, undef, undef, undef], defers := [] }) ?assign ?body ?done ?stop
 case assign =>
  intro l x W K hK
  simp only [encN]
  gi_wp2
  simp [go_sem]
  exact hK
 case body =>
  rintro l ps x W ⟨⟨⟨hc, hf⟩, h60, hr, hrf, hle⟩, hB⟩ hlt
  have hlt2 : (ps.length : Int) ≤ 200 := by omega
  by_cases h6 : ps.length = 200
  · have e6 : (ps.length : Int) = 200 := by omega
    rw [e6] at hc
    clear hlt2 e6
    gi_wp2
    refine ⟨((KeepsOthers.setCell _ _ _).trans (KeepsOthers.setCell _ _ _)).from _, ⟨rfl, by rw [List.length_append, h6]; simp, ?_⟩, below_set (below_set hB (by omega) _) (by omega) _⟩
    exact World.cell?_setCell_same' _ _ _ (by rw [set_other hr (by omega)]; rfl)
  · have l6 : (ps.length : Int) + 1 ≤ 200 := by omega
    gi_wp2
    refine ⟨(KeepsOthers.setCell _ _ _).from _, Kp.set (by omega) (by omega) _, ⟨⟨?_, by rw [World.frozen?_setCell]; exact hf⟩, ?_, ?_, by rw [World.frozen?_setCell]; exact hrf, by rw [List.length_append]; simp; omega⟩, below_set hB (by omega) _⟩
    · rw [World.cell?_setCell_same' _ _ _ (by rw [hc]; rfl), List.length_append]
      congr 2
    · exact set_other h60 (by omega) _
    · exact set_other hr (by omega) _
 case done =>
  rintro D ys W hD hys ⟨⟨⟨hc, hf⟩, h60, hr, hrf, hle⟩, hB⟩ hK
  have hl := map_len hys
  have hv : decide (200 < cnL sl) = false := decide_eq_false (by omega)
  have HV := Lib.hid hv
  gi_wp2
  have hK' := (KeepsOthers.setCell W ⟨w.heap.size + 1, 0, none⟩ (.bool false)).same D _ hK rfl
  refine ⟨by simp, .inl ⟨_, _, rfl, run_takeDeferred hK', ?_⟩⟩
  have hc5 := cell_kept (World.cell?_setCell_same' W ⟨w.heap.size + 1, 0, none⟩ (.bool false) (by rw [hr]; rfl)) (grownBy_putObj' _ D (.deferred none)) (fun r e => by cases e; exact ⟨_, hK', rfl⟩)
  refine ⟨.bool false, ?_, by rw [HV.out], (below_set hB (by omega) _).trans (belowK_b (w := w) (Nat.le_refl _) _ D _ _ (by omega) hK' rfl rfl)⟩
  simp [results, Tryz.f151, go_sem, hc5]
 case stop =>
  rintro D c ps W hD hps ⟨⟨rfl, h6, hr⟩, hB⟩ hK
  have hl := prefix_len hps
  have hv : decide (200 < cnL sl) = true := decide_eq_true (by omega)
  have HV := Lib.hid hv
  gi_wp2
  refine ⟨by simp, .inl ⟨_, _, rfl, run_takeDeferred hK, ?_⟩⟩
  have hc5 := cell_kept hr (grownBy_putObj' _ D (.deferred none)) (fun r e => by cases e; exact ⟨_, hK, rfl⟩)
  refine ⟨.bool true, ?_, by rw [HV.out], hB.trans (belowK_b (w := w) (Nat.le_refl _) W D _ _ (by omega) hK rfl rfl)⟩
  simp [results, Tryz.f151, go_sem, hc5]
end Go.Proofs.YtaaffmbnhjaebaaGreat.Sm
namespace Go.Proofs.YtaaffmbnhjaebaaGreat.Sm
open Go.RowKit
open Go.Proofs.YtaaffmbnhjaebaaGreat.Ex (Gives)
attribute [local go_sem] cs0 cs1 cs2 cs3 cs4 cs5 cs6 cs7 cs8 cs9 cs10 cs11 cs12 cs13 cs14 cs15 cs16 cs17 cs18 cs19 cs20
set_option maxHeartbeats 1000000
set_option linter.unusedVariables false
theorem keep2 {w' : World} {g : Nat} {x : St} {P : Pl} (h : box21 w' g x P) : w'.cell? ⟨g, 19, none⟩ = some (.slice P.bp P.bm P.bc) ∧ w'.cell? ⟨g, 20, none⟩ = some (.slice P.lp P.lm P.lc) := ⟨h.c19, h.c20⟩
set_option maxRecDepth 100000 in
theorem depth_any (sl : List St) : ∀ (p : Option Addr) (m c : Nat) (w : World), LIn w sl p m → cnL sl ≤ 4000000 → Calls Tryz.prog 152 #[.slice p m c] w (Gives (.int .i64 (dpL sl : Nat)) w) := by
 induction sl using lst_ind with
 | h sl ih =>
  intro p m c w h hc
  have HH := Lib.hid h
  have HI := Lib.hid ih
  obtain ⟨hl, hm⟩ := h.len
  have HL := Lib.hid hl
  have HC := Lib.hid hc
  clear ih h hl hc
  rcases Nat.eq_zero_or_pos m with h0 | h0
  · have hz : sl = [] := List.length_eq_zero_iff.1 (by rw [HL.out, h0])
    subst h0
    rw [show dpL sl = 0 by rw [hz, dpL]]
    clear hz
    go_enter Tryz.func152, Tryz.ntmps152
    go_wp2_with fail
    go_ret
    exact ⟨rfl, bl⟩
  have hd := dpL_inL (l := sl) (by rw [HL.out]; exact h0)
  rw [hd]
  clear hd
  have t0 : ((m : Int) == 0) = false := beq_eq_false_iff_ne.2 (by omega)
  obtain ⟨n21, hn21⟩ : ∃ n : Nat, 21 = n := ⟨_, rfl⟩
  have hsz : ∀ w, (sizeOf 173).run Tryz.prog w = .ok n21 w := fun w => by rw [Tryz.sizeOf173, hn21]
  have HN21 := Lib.hid hn21
  clear hn21
  go_enter Tryz.func152, Tryz.ntmps152
  go_wp2_with fail
  go_loopw [3, 11] (fun d i wr => ∃ k : Nat, k ≤ m ∧ d = .int .i64 (inL (sl.take k) : Nat) ∧ i = .int .i64 (k : Nat) ∧ Hid (Below w.heap.size w wr)) (fun d i _ => m - (intOf i).toNat)
  case atStart => exact ⟨0, Nat.zero_le _, rfl, rfl, Lib.hid bl⟩
  case round =>
   obtain ⟨k, hk, rfl, rfl, HW⟩ := hrel
   have k0 : (0 : Int) ≤ (k : Int) := by omega
   rcases Nat.lt_or_ge k m with h | h
   · have k1 : (k : Int) < (m : Int) := by omega
     obtain ⟨b, o', rfl, -, hG, hcell⟩ := HH.out.rows (by omega)
     have hkl : k < sl.length := by rw [HL.out]; omega
     obtain ⟨P, hc21, hsin⟩ := hcell.out k hkl
     have hmem : sl[k] ∈ sl := List.getElem_mem hkl
     have hgx : sl[k]? = some sl[k] := List.getElem?_eq_getElem hkl
     obtain ⟨x, hx⟩ : ∃ x, sl[k] = x := ⟨_, rfl⟩
     rw [hx] at hc21 hsin hmem hgx
     have HSIN := Lib.hid hsin
     have HX := Lib.hid hgx
     have HM := Lib.hid hmem
     have hcw := (hc21.on HW.out hG).at HN21.out
     have hbr : b < wr.heap.size := Nat.lt_of_lt_of_le hG HW.out.size
     have hcsz : (cs x P).size = n21 := HN21.out
     have ld1 := (hcw).ldN HN21.out
     have ld2 := (hcw).loadVar
     have ld3 := (hcw).loadAt
     have st1 := st_store x P
     have st2 := st_storeVar x P
     have st3 := st_storeAt x P
     have HCW := Lib.hid hcw
     clear hcell hc21 hsin hx hmem hgx hkl hcw
     have d1 := inL_cap sl k
     have HK := Lib.hid (inL_take HX.out)
     obtain ⟨i1, i2⟩ := HI.out x HM.out
     have d2 := cn_mem HM.out
     rw [cn_one] at d2
     have c1 := dpL_le_cnL x.bo
     have c2 := dpL_le_cnL x.el
     obtain ⟨D, hD⟩ : ∃ D, inL (sl.take k) = D := ⟨_, rfl⟩
     obtain ⟨E, hE⟩ : ∃ E, dpL x.bo = E := ⟨_, rfl⟩
     obtain ⟨F, hF⟩ : ∃ F, dpL x.el = F := ⟨_, rfl⟩
     have hcc := HC.out
     have F1 := Lib.hid (fun W hi => i1 P.bp P.bm P.bc W hi (by omega))
     have F2 := Lib.hid (fun W hi => i2 P.lp P.lm P.lc W hi (by omega))
     rw [hD] at d1 HK ⊢
     rw [hE] at c1 HK F1
     rw [hF] at c2 HK F2
     have d3 : D ≤ 4000000 := by omega
     have d4 : E ≤ 4000000 := by omega
     have d5 : F ≤ 4000000 := by omega
     clear hD hE hF i1 i2 c1 c2 d1 d2 hcc
     have HBX : Hid (∀ W, Below (wr.alloc (.cells (cs x P) 173)).heap.size (wr.alloc (.cells (cs x P) 173)) W → box21 W wr.heap.size x P) := Lib.hid fun W hb => box_new21.on hb
     obtain ⟨M, hM⟩ : ∃ M, max D (max E F) = M := ⟨_, rfl⟩
     have hmx : ∀ (ts : Array TypeId) (t : TypeId) (W : World), (Builtin.max_ ts t #[.int .i64 (D : Int), .int .i64 (E : Int), .int .i64 (F : Int)]).run Tryz.prog W = .ok (.int .i64 (M : Int)) W := fun ts t W => by
      rw [run_max_int3]
      congr 2
      rw [← hM]
      split <;> split at * <;> omega
     rw [hM] at HK
     have hM2 : M ≤ 4000000 := by omega
     clear hM d3 d4 d5
     go_wp2_with fail
     go_region_held3 (fun w' => w'.cell? ⟨wr.heap.size, 19, none⟩ = some (.slice P.bp P.bm P.bc) ∧ w'.cell? ⟨wr.heap.size, 20, none⟩ = some (.slice P.lp P.lm P.lc)) (first | (refine keep2 (HBX.out _ ?_); exact bl; done) | (go_keep; done)) (first | (have t := hb1; go_at_call 152; refine (F2.out _ (HSIN.out.el.on (by have HBB := HW.out; exact bl))).mono ?_; rintro e w2 ⟨rfl, hb2⟩) | (go_at_call 152; refine (F1.out _ (HSIN.out.bo.on (by have HBB := HW.out; exact bl))).mono ?_; rintro e w1 ⟨rfl, hb1⟩))
     all_goals
      have HWz : Hid (Below w.heap.size w w2) := Lib.hid (by have HBB := HW.out; exact bl)
      go_wp2_with fail
      go_roundw
      case rel => exact ⟨k + 1, by omega, by rw [HK.out], by go_num, HWz⟩
      case measure => simp [intOf]; omega
   · obtain rfl : m = k := by omega
     have HT : Hid (sl.take m = sl) := Lib.hid (List.take_of_length_le (by rw [HL.out]; exact Nat.le_refl _))
     have d1 := inL_cap sl m
     have d2 := HC.out
     rw [HT.out] at d1 ⊢
     have d9 := inL_le sl
     have d8 := dpL_le_cnL sl
     obtain ⟨D, hD⟩ : ∃ D, inL sl = D := ⟨_, rfl⟩
     rw [hD] at d1 d9 ⊢
     have d3 : D ≤ 4000000 := by omega
     have HD := Lib.hid hD
     clear hD d1 d2 d8 d9
     go_wp2_with fail
     go_ret
     exact ⟨by rw [HD.out]; go_num, HW.out⟩
end Go.Proofs.YtaaffmbnhjaebaaGreat.Sm
