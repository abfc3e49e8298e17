/-
  Parts of this proof: The contracts of sameFault and checkFault. Rows of records that a call made. The contract of Uses. The contracts of the library's Grow and Concat at fields, and of checkRoutine. The reference's lists of names. The contracts of checkTerm, checkLaw and checkLaws, and of the closures that call them; what Kind gives is asked for.
-/
import Derived.Test.YtaaffmbnhjaebaaGreatZECheckN
import Derived.Test.YtaaffmbnhjaebaaGreatZQSto
import Derived.Test.YtaaffmbnhjaebaaGreatZPWalk
import Derived.Test.YtaaffmbnhjaebaaGreatZQFnd
namespace Go.Proofs.YtaaffmbnhjaebaaGreat.Md
open Go.RowKit Go.Maps
open Go.Proofs.YtaaffmbnhjaebaaGreat.Na (bs Strs fst)
open Go.Proofs.YtaaffmbnhjaebaaGreat.Sm (Dt sameDt zD nE dtE sameD_list Ints orE or_any)
open Go.Proofs.YtaaffmbnhjaebaaGreat.Ex (Lo Gives)
set_option maxHeartbeats 4000000
set_option linter.unusedVariables false
abbrev dv (d : Dt) (vp : Option Addr) (vm vc : Nat) (wp : Option Addr) (wm wc : Nat) : Value := .agg #[.int .i64 d.op, .int .i64 d.a, .int .i64 d.b, .int .i64 d.n, .slice vp vm vc, .slice wp wm wc]
theorem dsame_at {G H : Nat → Prop} {w : World} (d e : Dt) (vp : Option Addr) (vm vc : Nat) (wp : Option Addr) (wm wc : Nat) (vp' : Option Addr) (vm' vc' : Nat) (wp' : Option Addr) (wm' wc' : Nat) (h1 : Ints G w d.vs vp vm) (h2 : Ints G w d.ws wp wm) (h3 : Ints H w e.vs vp' vm') (h4 : Ints H w e.ws wp' wm') : Calls Tryz.prog 144 #[dv d vp vm vc wp wm wc, dv e vp' vm' vc' wp' wm' wc'] w (Gives (.bool (sameDt d e)) w) := by
 have h := Di.same_any d.op d.a d.b d.n vp d.vs.length vc wp d.ws.length wc _ _ e.op e.a e.b e.n vp' e.vs.length vc' wp' e.ws.length wc' _ _ w h1.row h2.row h3.row h4.row
 rw [sameD_list, h1.1, h2.1, h3.1, h4.1] at h
 exact h
theorem dcheck_at {G : Nat → Prop} {w : World} (d : Dt) (vp : Option Addr) (vm vc : Nat) (wp : Option Addr) (wm wc : Nat) (h1 : Ints G w d.vs vp vm) (h2 : Ints G w d.ws wp wm) : Calls Tryz.prog 149 #[dv d vp vm vc wp wm wc] w (Gives (.int .i64 (dtE d)) w) := by
 have h := Di.check_any d.op d.a d.b d.n vp d.vs.length vc wp d.ws.length wc _ _ w h1.row h2.row
 rw [show dtE d = Di.errD d.op d.a d.b d.n d.vs.length d.ws.length (fun i => d.vs.getD i 0) (fun i => d.ws.getD i 0) from rfl]
 rw [h1.1, h2.1] at h ⊢
 exact h
def cFlt (x : Res) (P : PRes) : Array Value := #[.string x.fs, .int .i64 x.up.op, .int .i64 x.up.a, .int .i64 x.up.b, .int .i64 x.up.n, .slice P.upvp P.upvm P.upvc, .slice P.upwp P.upwm P.upwc, .int .i64 x.dn.op, .int .i64 x.dn.a, .int .i64 x.dn.b, .int .i64 x.dn.n, .slice P.dnvp P.dnvm P.dnvc, .slice P.dnwp P.dnwm P.dnwc]
theorem flt_in (x : Res) (P : PRes) : ∀ r v, (cFlt x P)[r]? = some v → (cRes x P)[4 + r]? = some v := by
 intro r v h
 have hr : r < 13 := (Array.getElem?_eq_some_iff.1 h).1
 match r, hr with
 | 0, _ => exact h
 | 1, _ => exact h
 | 2, _ => exact h
 | 3, _ => exact h
 | 4, _ => exact h
 | 5, _ => exact h
 | 6, _ => exact h
 | 7, _ => exact h
 | 8, _ => exact h
 | 9, _ => exact h
 | 10, _ => exact h
 | 11, _ => exact h
 | 12, _ => exact h
theorem At.flt {w : World} {g o : Nat} {x : Res} {P : PRes} (h : At w g o (cRes x P)) : At w g (o + 4) (cFlt x P) := fun r v hv => by
 rw [show o + 4 + r = o + (4 + r) by omega]; exact h _ _ (flt_in x P r v hv)
theorem flt0 (x : Res) (P : PRes) : (cFlt x P)[0]? = some (.string x.fs) := rfl
theorem flt1 (x : Res) (P : PRes) : (cFlt x P)[1]? = some (.int .i64 x.up.op) := rfl
theorem flt2 (x : Res) (P : PRes) : (cFlt x P)[2]? = some (.int .i64 x.up.a) := rfl
theorem flt3 (x : Res) (P : PRes) : (cFlt x P)[3]? = some (.int .i64 x.up.b) := rfl
theorem flt4 (x : Res) (P : PRes) : (cFlt x P)[4]? = some (.int .i64 x.up.n) := rfl
theorem flt5 (x : Res) (P : PRes) : (cFlt x P)[5]? = some (.slice P.upvp P.upvm P.upvc) := rfl
theorem flt6 (x : Res) (P : PRes) : (cFlt x P)[6]? = some (.slice P.upwp P.upwm P.upwc) := rfl
theorem flt7 (x : Res) (P : PRes) : (cFlt x P)[7]? = some (.int .i64 x.dn.op) := rfl
theorem flt8 (x : Res) (P : PRes) : (cFlt x P)[8]? = some (.int .i64 x.dn.a) := rfl
theorem flt9 (x : Res) (P : PRes) : (cFlt x P)[9]? = some (.int .i64 x.dn.b) := rfl
theorem flt10 (x : Res) (P : PRes) : (cFlt x P)[10]? = some (.int .i64 x.dn.n) := rfl
theorem flt11 (x : Res) (P : PRes) : (cFlt x P)[11]? = some (.slice P.dnvp P.dnvm P.dnvc) := rfl
theorem flt12 (x : Res) (P : PRes) : (cFlt x P)[12]? = some (.slice P.dnwp P.dnwm P.dnwc) := rfl
attribute [local go_sem] flt0 flt1 flt2 flt3 flt4 flt5 flt6 flt7 flt8 flt9 flt10 flt11 flt12
structure OFlt (w : World) (x : Res) (P : PRes) : Prop where
 uv : Ints (Lo w.heap.size) w x.up.vs P.upvp P.upvm
 uw : Ints (Lo w.heap.size) w x.up.ws P.upwp P.upwm
 dv : Ints (Lo w.heap.size) w x.dn.vs P.dnvp P.dnvm
 dw : Ints (Lo w.heap.size) w x.dn.ws P.dnwp P.dnwm
theorem OFlt.on {w w2 : World} (hb : Below w.heap.size w w2) {x : Res} {P : PRes} (h : OFlt w x P) : OFlt w2 x P := ⟨Ints.on hb h.uv, Ints.on hb h.uw, Ints.on hb h.dv, Ints.on hb h.dw⟩
theorem ORes.flt {w : World} {x : Res} {P : PRes} (h : ORes (Lo w.heap.size) w x P) : OFlt w x P := ⟨h.upv, h.upw, h.dnv, h.dnw⟩
def zRes : Res := ⟨nE, 0, [], 0, nE, zD, zD⟩
def zPR : PRes := ⟨none, 0, 0, none, 0, 0, none, 0, 0, none, 0, 0, none, 0, 0⟩
theorem zFlt (w : World) : OFlt w zRes zPR := ⟨⟨rfl, by decide, .inl rfl⟩, ⟨rfl, by decide, .inl rfl⟩, ⟨rfl, by decide, .inl rfl⟩, ⟨rfl, by decide, .inl rfl⟩⟩
set_option maxRecDepth 100000 in
theorem sameFault_any (x y : Res) (P Q : PRes) (w : World) (hx : OFlt w x P) (hy : OFlt w y Q) : Calls Tryz.prog 123 #[.agg (cFlt x P), .agg (cFlt y Q)] w (Gives (.bool (fuB x y)) w) := by
 have HX := Lib.hid hx
 have HY := Lib.hid hy
 have FX := far2 (w := w) 90 90 (cFlt x P) (cFlt y Q)
 clear hx hy
 obtain ⟨b1, h1⟩ : ∃ b, txB x.fs y.fs = b := ⟨_, rfl⟩
 obtain ⟨b2, h2⟩ : ∃ b, sameDt x.up y.up = b := ⟨_, rfl⟩
 obtain ⟨b3, h3⟩ : ∃ b, sameDt x.dn y.dn = b := ⟨_, rfl⟩
 have hf : fuB x y = (b1 && b2 && b3) := by unfold fuB; rw [h1, h2, h3]
 rw [hf]
 have u1 : (x.fs.toList == y.fs.toList) = b1 := by rw [tx_is]; exact h1
 have C1 := Lib.hid (fun W (hW : Below w.heap.size w W) => (show Calls Tryz.prog 144 #[.agg #[.int .i64 x.up.op, .int .i64 x.up.a, .int .i64 x.up.b, .int .i64 x.up.n, .slice P.upvp P.upvm P.upvc, .slice P.upwp P.upwm P.upwc], .agg #[.int .i64 y.up.op, .int .i64 y.up.a, .int .i64 y.up.b, .int .i64 y.up.n, .slice Q.upvp Q.upvm Q.upvc, .slice Q.upwp Q.upwm Q.upwc]] W (Gives (.bool b2) W) by rw [← h2]; exact dsame_at x.up y.up _ _ _ _ _ _ _ _ _ _ _ _ (HX.out.on hW).uv (HX.out.on hW).uw (HY.out.on hW).uv (HY.out.on hW).uw))
 have C2 := Lib.hid (fun W (hW : Below w.heap.size w W) => (show Calls Tryz.prog 144 #[.agg #[.int .i64 x.dn.op, .int .i64 x.dn.a, .int .i64 x.dn.b, .int .i64 x.dn.n, .slice P.dnvp P.dnvm P.dnvc, .slice P.dnwp P.dnwm P.dnwc], .agg #[.int .i64 y.dn.op, .int .i64 y.dn.a, .int .i64 y.dn.b, .int .i64 y.dn.n, .slice Q.dnvp Q.dnvm Q.dnvc, .slice Q.dnwp Q.dnwm Q.dnwc]] W (Gives (.bool b3) W) by rw [← h3]; exact dsame_at x.dn y.dn _ _ _ _ _ _ _ _ _ _ _ _ (HX.out.on hW).dv (HX.out.on hW).dw (HY.out.on hW).dv (HY.out.on hW).dw))
 clear h1 h2 h3 hf
 cases b1 with
 | false =>
  go_enter Tryz.func123, Tryz.ntmps123
  go_wp2_with fail
  go_ret
  exact ⟨rfl, bl⟩
 | true =>
  go_enter Tryz.func123, Tryz.ntmps123
  go_wp2_with fail
  refine (C1.out _ bl).mono ?_
  rintro e w2 ⟨rfl, hb2⟩
  cases b2 with
  | false =>
   go_wp2_with fail
   go_ret
   exact ⟨rfl, bl⟩
  | true =>
   have q := FX.out w2 bl
   have p7 := q.1.get (flt7 x P)
   have p8 := q.1.get (flt8 x P)
   have p9 := q.1.get (flt9 x P)
   have p10 := q.1.get (flt10 x P)
   have p11 := q.1.get (flt11 x P)
   have p12 := q.1.get (flt12 x P)
   have r7 := q.2.get (flt7 y Q)
   have r8 := q.2.get (flt8 y Q)
   have r9 := q.2.get (flt9 y Q)
   have r10 := q.2.get (flt10 y Q)
   have r11 := q.2.get (flt11 y Q)
   have r12 := q.2.get (flt12 y Q)
   clear q
   go_wp2_with fail
   refine (C2.out _ bl).mono ?_
   rintro e w3 ⟨rfl, hb3⟩
   go_wp2_with fail
   go_ret
   exact ⟨by simp, bl⟩
theorem emp_is (s : ByteArray) : s.toList.isEmpty = txB s nE := by
 rw [Lib.toList_data]
 show (bs s).isEmpty = _
 unfold txB
 cases bs s with
 | nil => rfl
 | cons x t => rfl
theorem fuB_zero (x : Res) : fuB x zRes = (txB x.fs nE && sameDt x.up zD && sameDt x.dn zD) := rfl
set_option maxRecDepth 100000 in
theorem checkFault_any (x : Res) (P : PRes) (sm : List ByteArray) (p : Option Addr) (m c : Nat) (w : World) (hx : OFlt w x P) (hs : Strs w p m sm) : Calls Tryz.prog 133 #[.agg (cFlt x P), .slice p m c] w (Gives (.int .i64 (fltE x sm)) w) := by
 have HX := Lib.hid hx
 have HS := Lib.hid hs
 have FX := far (w := w) 90 (cFlt x P)
 clear hx hs
 obtain ⟨b1, h1⟩ : ∃ b, txB x.fs nE = b := ⟨_, rfl⟩
 obtain ⟨z, hz⟩ : ∃ b, fuB x zRes = b := ⟨_, rfl⟩
 obtain ⟨kk, hkk⟩ : ∃ n : Nat, 13 = n := ⟨_, rfl⟩
 have hsz : ∀ w, (sizeOf 90).run Tryz.prog w = .ok kk w := fun w => by rw [Tryz.sizeOf90, hkk]
 have HKK := Lib.hid hkk
 have ld := fun W => run_loadCellsFrom_new (P := Tryz.prog) W 90 (cFlt x P) kk hkk
 have CZ := Lib.hid (fun W (hW : Below w.heap.size w W) => (show Calls Tryz.prog 123 #[.agg (cFlt x P), .agg (cFlt zRes zPR)] W (Gives (.bool z) W) by rw [← hz]; exact sameFault_any x zRes P zPR W (HX.out.on hW) (zFlt W)))
 have u1 : x.fs.toList.isEmpty = b1 := by rw [emp_is]; exact h1
 have HE : Hid (fltE x sm = if z then 0 else if b1 then 1 else if fst sm x.fs < 0 then 5 else orE (dtE x.up) (dtE x.dn)) := Lib.hid (by
  unfold fltE
  rw [← hz, fuB_zero]
  have hb : (bs x.fs = []) = (b1 = true) := by rw [← h1]; unfold txB; rw [decide_eq_true_eq]
  simp only [hb]
  cases b1
  · simp [h1]
  · simp only [h1, if_true, Bool.true_and, Bool.and_eq_true])
 have HB := Lib.hid (fun W (hW : Below w.heap.size w W) => Na.find_any p m c sm x.fs W (HS.out.on hW))
 have CU := Lib.hid (fun W (hW : Below w.heap.size w W) => dcheck_at x.up _ _ P.upvc _ _ P.upwc (HX.out.on hW).uv (HX.out.on hW).uw)
 have CN := Lib.hid (fun W (hW : Below w.heap.size w W) => dcheck_at x.dn _ _ P.dnvc _ _ P.dnwc (HX.out.on hW).dv (HX.out.on hW).dw)
 clear hkk h1 hz
 cases z with
 | true =>
  rw [show fltE x sm = 0 from HE.out]
  go_enter Tryz.func133, Tryz.ntmps133
  go_wp2_with fail
  refine (CZ.out _ bl).mono ?_
  rintro e w2 ⟨rfl, hb2⟩
  go_wp2_with fail
  go_ret
  exact ⟨rfl, bl⟩
 | false =>
  cases b1 with
  | true =>
   rw [show fltE x sm = 1 from HE.out]
   go_enter Tryz.func133, Tryz.ntmps133
   go_wp2_with fail
   refine (CZ.out _ bl).mono ?_
   rintro e w2 ⟨rfl, hb2⟩
   have q := FX.out w2 bl
   have p0 := q.get (flt0 x P)
   clear q
   go_wp2_with fail
   go_ret
   exact ⟨rfl, bl⟩
  | false =>
   obtain ⟨k, hk⟩ : ∃ k, fst sm x.fs = k := ⟨_, rfl⟩
   rw [hk] at HB HE
   clear hk
   by_cases hk0 : k < 0
   · rw [show fltE x sm = 5 by rw [HE.out]; exact if_pos hk0]
     have d0 := decide_eq_true hk0
     go_enter Tryz.func133, Tryz.ntmps133
     go_wp2_with fail
     refine (CZ.out _ bl).mono ?_
     rintro e w2 ⟨rfl, hb2⟩
     have q := FX.out w2 bl
     have p0 := q.get (flt0 x P)
     clear q
     go_wp2_with fail
     refine (HB.out _ bl).mono ?_
     rintro e w3 ⟨rfl, rfl⟩
     go_wp2_with fail
     go_ret
     exact ⟨rfl, bl⟩
   · rw [show fltE x sm = orE (dtE x.up) (dtE x.dn) by rw [HE.out]; exact if_neg hk0]
     have d0 := decide_eq_false hk0
     obtain ⟨v1, hv1⟩ : ∃ v, dtE x.up = v := ⟨_, rfl⟩
     obtain ⟨v2, hv2⟩ : ∃ v, dtE x.dn = v := ⟨_, rfl⟩
     rw [hv1] at CU ⊢
     rw [hv2] at CN ⊢
     have FY : Hid (∀ W, Below (w.alloc (.cells (cFlt x P) 90)).heap.size (w.alloc (.cells (cFlt x P) 90)) W → W.cell? ⟨w.heap.size, 1, none⟩ = some (.int .i64 x.up.op) ∧ W.cell? ⟨w.heap.size, 2, none⟩ = some (.int .i64 x.up.a) ∧ W.cell? ⟨w.heap.size, 3, none⟩ = some (.int .i64 x.up.b) ∧ W.cell? ⟨w.heap.size, 4, none⟩ = some (.int .i64 x.up.n) ∧ W.cell? ⟨w.heap.size, 5, none⟩ = some (.slice P.upvp P.upvm P.upvc) ∧ W.cell? ⟨w.heap.size, 6, none⟩ = some (.slice P.upwp P.upwm P.upwc) ∧ W.cell? ⟨w.heap.size, 7, none⟩ = some (.int .i64 x.dn.op) ∧ W.cell? ⟨w.heap.size, 8, none⟩ = some (.int .i64 x.dn.a) ∧ W.cell? ⟨w.heap.size, 9, none⟩ = some (.int .i64 x.dn.b) ∧ W.cell? ⟨w.heap.size, 10, none⟩ = some (.int .i64 x.dn.n) ∧ W.cell? ⟨w.heap.size, 11, none⟩ = some (.slice P.dnvp P.dnvm P.dnvc) ∧ W.cell? ⟨w.heap.size, 12, none⟩ = some (.slice P.dnwp P.dnwm P.dnwc)) := Lib.hid fun W hb => by
      have q := FX.out W hb
      exact ⟨q.get (flt1 x P), q.get (flt2 x P), q.get (flt3 x P), q.get (flt4 x P), q.get (flt5 x P), q.get (flt6 x P), q.get (flt7 x P), q.get (flt8 x P), q.get (flt9 x P), q.get (flt10 x P), q.get (flt11 x P), q.get (flt12 x P)⟩
     clear hv1 hv2
     go_enter Tryz.func133, Tryz.ntmps133
     go_wp2_with fail
     refine (CZ.out _ bl).mono ?_
     rintro e w2 ⟨rfl, hb2⟩
     have q := FX.out w2 bl
     have p0 := q.get (flt0 x P)
     clear q
     go_wp2_with fail
     refine (HB.out _ bl).mono ?_
     rintro e w3 ⟨rfl, rfl⟩
     go_wp2_with fail
     go_region_held3 (fun W => W.cell? ⟨w.heap.size, 1, none⟩ = some (.int .i64 x.up.op) ∧ W.cell? ⟨w.heap.size, 2, none⟩ = some (.int .i64 x.up.a) ∧ W.cell? ⟨w.heap.size, 3, none⟩ = some (.int .i64 x.up.b) ∧ W.cell? ⟨w.heap.size, 4, none⟩ = some (.int .i64 x.up.n) ∧ W.cell? ⟨w.heap.size, 5, none⟩ = some (.slice P.upvp P.upvm P.upvc) ∧ W.cell? ⟨w.heap.size, 6, none⟩ = some (.slice P.upwp P.upwm P.upwc) ∧ W.cell? ⟨w.heap.size, 7, none⟩ = some (.int .i64 x.dn.op) ∧ W.cell? ⟨w.heap.size, 8, none⟩ = some (.int .i64 x.dn.a) ∧ W.cell? ⟨w.heap.size, 9, none⟩ = some (.int .i64 x.dn.b) ∧ W.cell? ⟨w.heap.size, 10, none⟩ = some (.int .i64 x.dn.n) ∧ W.cell? ⟨w.heap.size, 11, none⟩ = some (.slice P.dnvp P.dnvm P.dnvc) ∧ W.cell? ⟨w.heap.size, 12, none⟩ = some (.slice P.dnwp P.dnwm P.dnwc)) (first | (refine FY.out _ ?_; exact bl; done) | (go_keep; done)) (first
      | (have t := hb5; go_at_call 26; refine (or_any [v1, v2] _ 2 2 _ rfl (by omega) (Lib.hid (cells2 _ _ _ _))).mono ?_; rintro e w9 ⟨rfl, rfl⟩)
      | (have t := hb4; go_at_call 149; refine (CN.out _ bl).mono ?_; rintro e w5 ⟨rfl, hb5⟩)
      | (go_at_call 149; refine (CU.out _ bl).mono ?_; rintro e w4 ⟨rfl, hb4⟩))
     all_goals
      have HB5 := Lib.hid hb5
      go_wp2_with fail
      go_ret
      exact ⟨by rw [← orL2]; rfl, bl⟩
end Go.Proofs.YtaaffmbnhjaebaaGreat.Md
namespace Go.Proofs.YtaaffmbnhjaebaaGreat.Md
open Go.RowKit
open Go.Proofs.YtaaffmbnhjaebaaGreat.Ex (Lo add_off)
set_option maxHeartbeats 2000000
set_option linter.unusedVariables false
def flatC (L : List (Array Value)) : List Value := L.flatMap (·.toList)
theorem flatC_cons (c : Array Value) (t : List (Array Value)) : flatC (c :: t) = c.toList ++ flatC t := rfl
theorem flatC_app (a b : List (Array Value)) : flatC (a ++ b) = flatC a ++ flatC b := List.flatMap_append
theorem flatC_len {k : Nat} : ∀ {L : List (Array Value)}, (∀ c ∈ L, c.size = k) → (flatC L).length = L.length * k
 | [], _ => by simp [flatC]
 | c :: t, h => by
  rw [flatC_cons, List.length_append, Array.length_toList, h c List.mem_cons_self, flatC_len fun d hd => h d (List.mem_cons_of_mem _ hd), List.length_cons, Nat.add_mul]
  omega
theorem flatC_get {k : Nat} : ∀ {L : List (Array Value)} {i r : Nat} (hL : ∀ c ∈ L, c.size = k) (hi : i < L.length), r < k → (flatC L)[i * k + r]? = L[i][r]?
 | [], i, r, _, hi, _ => absurd hi (Nat.not_lt_zero _)
 | c :: t, 0, r, hL, hi, hr => by
  have hc := hL c List.mem_cons_self
  rw [flatC_cons, List.getElem?_append_left (by rw [Array.length_toList]; omega), Array.getElem?_toList, show 0 * k + r = r by omega]
  rfl
 | c :: t, i + 1, r, hL, hi, hr => by
  have hc := hL c List.mem_cons_self
  rw [flatC_cons, List.getElem?_append_right (by rw [Array.length_toList, hc, Nat.add_mul]; omega), Array.length_toList, hc, show (i + 1) * k + r - k = i * k + r by rw [Nat.add_mul]; omega, flatC_get (fun d hd => hL d (List.mem_cons_of_mem _ hd)) (by simpa using hi) hr]
  rfl
theorem flatC_one {L : List (Array Value)} (hL : ∀ c ∈ L, c.all (·.oneCell') = true) : ∀ u ∈ flatC L, u.oneCell' = true := by
 intro u hu
 obtain ⟨c, hc, h⟩ := List.mem_flatMap.1 hu
 have := hL c hc
 rw [Array.all_eq_true_iff_forall_mem] at this
 exact this u (Array.mem_def.2 h)
structure Kind (LT T : TypeId) (k : Nat) : Prop where
 slice : Tryz.prog.underlying LT = some (.slice T)
 info : ∃ i z, Tryz.prog.info? T = some i ∧ i.zero = some z ∧ i.size = k ∧ z.cells.size = k ∧ i.bytes ≤ 1000
 pos : 0 < k
def Sized {α : Type} (k : Nat) (R : Rec α) : Prop := ∀ {G : Nat → Prop} {w : World} {x : α} {c : Array Value}, R G w x c → c.size = k ∧ c.all (·.oneCell') = true
def OwnL {α : Type} (T : TypeId) (k : Nat) (R : Rec α) (base : Nat) (w : World) (v : Value) (l : List α) : Prop :=
 ∃ L : List (Array Value), L.length = l.length ∧ (∀ i, (h : i < l.length) → (h2 : i < L.length) → R (Lo base) w l[i] L[i]) ∧ w.ownsRow base T k v l.length (flatC L)
section
variable {α : Type} {LT T : TypeId} {k : Nat} {R : Rec α} {base : Nat} {w w2 : World} {v : Value} {l l2 : List α}
theorem OwnL.nil : OwnL T k R base w (.slice none 0 0) ([] : List α) := ⟨[], rfl, fun i h => absurd h (Nat.not_lt_zero _), World.ownsRow_nil _ _ _ _⟩
theorem OwnL.on (hm : Mono R) (h : OwnL T k R base w v l) (hb : Below w.heap.size w w2) (hbs : base ≤ w.heap.size) : OwnL T k R base w2 v l := by
 obtain ⟨L, h1, h2, h3⟩ := h
 exact ⟨L, h1, fun i hi hi2 => hm hb.size (fun b g hg => ⟨g, hb.block b hg⟩) (h2 i hi hi2), h3.kept (row := none) ⟨hb.os, hb.tape, hb.output, hb.size, fun k hk _ => hb.block k hk⟩ (by cases v.ownBlock <;> simp)⟩
theorem OwnL.below {w0 : World} (h : OwnL T k R base w v l) (hg : w.grownBy w2 v.ownBlock) (hb0 : Below w0.heap.size w0 w) (h0 : w0.heap.size ≤ base) (hbs : base ≤ w.heap.size) : Below w0.heap.size w0 w2 := by
 obtain ⟨L, h1, h2, h3⟩ := h
 exact hb0.grown hg (by omega) fun j hj => by have := (h3.lt j hj).1; omega
theorem OwnL.rw (hm : Mono R) (hs : Sized k R) (h : OwnL T k R base w v l) (hn : l.length ≤ 1000000) : ∃ p c, v = .slice p l.length c ∧ Rw k R (Lo w.heap.size) w l p l.length := by
 obtain ⟨L, h1, h2, h3⟩ := h
 rcases h3.2 with ⟨rfl, h0⟩ | ⟨g, cap, cur, rfl, hb, hg, -⟩
 · exact ⟨none, 0, by rw [h0], rfl, by omega, .inl h0⟩
 · have hgl : g < w.heap.size := (Array.getElem?_eq_some_iff.1 hg).1
   have hL : ∀ c ∈ L, c.size = k := fun c hc => by
    obtain ⟨i, hi, rfl⟩ := List.getElem_of_mem hc
    exact (hs (h2 i (by omega) hi)).1
   refine ⟨some ⟨g, 0, none⟩, cap, rfl, rfl, by omega, .inr ⟨g, 0, rfl, hgl, hgl, Lib.hid fun i hi => ?_⟩⟩
   have hi2 : i < L.length := by omega
   have hR := h2 i hi hi2
   refine ⟨L[i], (hs hR).1, fun r u hu => ?_, hm (Nat.le_refl _) (fun b _ hb => ⟨hb, rfl⟩) hR⟩
   have hr : r < k := by have := (Array.getElem?_eq_some_iff.1 hu).1; rwa [(hs hR).1] at this
   have hlt : i * k + r < l.length * k := by
    have := Nat.mul_le_mul_right k (show i + 1 ≤ l.length by omega)
    rw [Nat.add_mul] at this
    omega
   rw [Nat.zero_add, h3.cellAt (i * k + r) hlt, flatC_get hL hi2 hr]
   exact hu
theorem append_none {P : Program} {w : World} (base : Nat) (t ty e : TypeId) (i : TypeInfo) (size : Nat) (ht : P.underlying t = some (.slice e)) (hi : P.info? e = some i)
 (v : Value) (n : Nat) (xs : List Value) (hown : w.ownsRow base e size v n xs) (c : Nat) : (Builtin.append_ #[t, t] ty #[v, .slice none 0 c]).run P w = .ok v w := by
 rcases hown.2 with ⟨rfl, rfl⟩ | ⟨g, cap, cur, rfl, -, -, hnc, -⟩
 · simp [Builtin.append_, run_underlying ht, sizeOf, typeInfo, hi, Builtin.lenOf, Builtin.firstCells]
 · simp [Builtin.append_, run_underlying ht, sizeOf, typeInfo, hi, Builtin.lenOf, Builtin.firstCells, hnc, storeCells]
theorem Rw.list {G : Nat → Prop} {p : Option Addr} {m : Nat} (hs : Sized k R) (h : Rw k R G w l p m) : ∃ L : List (Array Value), L.length = l.length ∧ (∀ i, (h : i < l.length) → (h2 : i < L.length) → R G w l[i] L[i]) ∧ ∀ a, p = some a → ∀ j u, (flatC L)[j]? = some u → w.cell? (a.add j) = some u := by
 obtain ⟨h1, h2, h3 | ⟨b, o, rfl, hg, hb, h4⟩⟩ := h
 · have h0 : l.length = 0 := by omega
   exact ⟨[], by rw [h0]; rfl, fun i hi => by omega, fun a _ j u hu => by simp [flatC] at hu⟩
 · have hc := h4.out
   let L : List (Array Value) := (List.range l.length).map fun i => if hi : i < l.length then (hc i hi).choose else #[]
   have hLl : L.length = l.length := by simp [L]
   have hLi : ∀ i, (hi : i < l.length) → (hi2 : i < L.length) → L[i] = (hc i hi).choose := fun i hi hi2 => by simp [L, hi]
   have hz : ∀ c ∈ L, c.size = k := fun c hcm => by
    obtain ⟨i, hi, rfl⟩ := List.getElem_of_mem hcm
    rw [hLi i (by omega) hi]
    exact (hc i (by omega)).choose_spec.1
   refine ⟨L, hLl, fun i hi hi2 => by rw [hLi i hi hi2]; exact (hc i hi).choose_spec.2.2, fun a ha j u hu => ?_⟩
   cases ha
   rw [add_off]
   have hj : j < l.length * k := by
    have := (List.getElem?_eq_some_iff.1 hu).1
    rwa [flatC_len hz, hLl] at this
   have hk : 0 < k := by
    rcases Nat.eq_zero_or_pos k with h0 | h0
    · subst h0; omega
    · exact h0
   have e : j = (j / k) * k + j % k := by rw [Nat.mul_comm]; exact (Nat.div_add_mod j k).symm
   have hi : j / k < l.length := Nat.div_lt_of_lt_mul (by rwa [Nat.mul_comm])
   have hi2 : j / k < L.length := by omega
   rw [e, flatC_get hz hi2 (Nat.mod_lt _ hk)] at hu
   rw [hLi _ hi hi2] at hu
   have := (hc _ hi).choose_spec.2.1 _ _ hu
   rwa [Nat.add_assoc, ← e] at this
theorem OwnL.app (I : Kind LT T k) (hm : Mono R) (hs : Sized k R) (ho : OwnL T k R base w v l) {p : Option Addr} {m : Nat} (h : Rw k R (Lo base) w l2 p m) (c : Nat) (hb : base ≤ w.heap.size) (hn : l.length + m ≤ 1000000) :
 ∃ (v' : Value) (w' : World), (Builtin.append_ #[LT, LT] LT #[v, .slice p m c]).run Tryz.prog w = .ok v' w' ∧ OwnL T k R base w' v' (l ++ l2) ∧ w.grownBy w' v.ownBlock := by
 obtain ⟨L0, a1, a2, a3⟩ := ho
 obtain ⟨L, b1, b2, b3⟩ := Rw.list hs h
 have hlm := h.1
 have hz0 : ∀ c ∈ L0, c.size = k := fun c hc => by
  obtain ⟨i, hi, rfl⟩ := List.getElem_of_mem hc
  exact (hs (a2 i (by omega) hi)).1
 have hz : ∀ c ∈ L, c.size = k ∧ c.all (·.oneCell') = true := fun c hc => by
  obtain ⟨i, hi, rfl⟩ := List.getElem_of_mem hc
  exact hs (b2 i (by omega) hi)
 obtain ⟨i0, z, hi0, hi1, hi2, hi3, hi4⟩ := I.info
 cases p with
 | none =>
  obtain rfl : m = 0 := by
   rcases h.2.2 with h | ⟨b, o, h, -⟩
   · exact h
   · cases h
  obtain rfl := List.length_eq_zero_iff.1 hlm
  exact ⟨v, w, append_none base _ _ _ i0 k I.slice hi0 v _ _ a3 c, ⟨L0, by simpa using a1, fun i hi hi2 => by have := a2 i (by simpa using hi) hi2; simpa using this, by simpa using a3⟩, ⟨rfl, rfl, rfl, Nat.le_refl _, fun _ _ _ => rfl⟩⟩
 | some a =>
  have hmx : (l.length + m) * i0.bytes ≤ 140737488355328 := by
   have h1 : (l.length + m) * i0.bytes ≤ 1000000 * 1000 := Nat.mul_le_mul hn hi4
   omega
  obtain ⟨v', w', e1, e2, e3, -, -⟩ := run_append_own_at (P := Tryz.prog) w base LT LT T i0 z k i0.bytes I.slice hi0 hi1 hi2 rfl hi3 I.pos v l.length _ a3 a m c (flatC L) (by rw [flatC_len fun c hc => (hz c hc).1, b1, hlm]) (b3 a rfl) (flatC_one fun c hc => (hz c hc).2) (by unfold maxLen; omega) hmx hb
  have keep : ∀ {x : α} {c : Array Value}, R (Lo base) w x c → R (Lo base) w' x c := fun {x c} hr => hm e3.size (fun b hbb hlt => ⟨hbb, e3.block b hlt (fun he => by
   have := (a3.lt b he.symm).1
   have : b < base := hbb
   omega)⟩) hr
  refine ⟨v', w', e1, ⟨L0 ++ L, by rw [List.length_append, List.length_append, a1, b1], fun i hi hi2 => ?_, by rw [flatC_app, List.length_append, hlm]; exact e2⟩, e3⟩
  rw [List.getElem_append, List.getElem_append]
  by_cases h0 : i < l.length
  · rw [dif_pos h0, dif_pos (by omega)]
    exact keep (a2 i h0 (by omega))
  · rw [dif_neg h0, dif_neg (by omega)]
    simp only [a1]
    exact keep (b2 (i - l.length) (by rw [List.length_append] at hi; omega) (by rw [List.length_append] at hi2; omega))
end
theorem kind_of {LT T : TypeId} {k b : Nat} {z : Value} (h1 : Tryz.prog.underlying LT = some (.slice T)) (h2 : (Tryz.prog.info? T).map (fun i => (i.zero, i.size, i.bytes)) = some (some z, k, b)) (h3 : z.cells.size = k) (h4 : b ≤ 1000) (h5 : 0 < k) : Kind LT T k := by
 cases h : Tryz.prog.info? T with
 | none => rw [h] at h2; cases h2
 | some i =>
  rw [h] at h2
  simp only [Option.map_some, Option.some.injEq, Prod.mk.injEq] at h2
  obtain ⟨e1, e2, e3⟩ := h2
  exact ⟨h1, ⟨i, z, h, e1, e2, by rw [h3], by rw [e3]; exact h4⟩, h5⟩
theorem kTxt : Kind 37 9 1 := kind_of Tryz.underlying37 (z := .string ⟨#[]⟩) (b := 16) (by kernel_rfl) (by decide) (by decide) (by decide)
theorem kFld : Kind 76 103 2 := kind_of Tryz.underlying76 (z := .agg #[.string ⟨#[]⟩, .int .i64 0]) (b := 24) (by kernel_rfl) (by decide) (by decide) (by decide)
theorem sTxt : Sized 1 RTxt := by intro G w x c h; subst h; exact ⟨rfl, by simp [Value.oneCell']⟩
theorem sFld : Sized 2 RFld := fun h => RFld.is h
end Go.Proofs.YtaaffmbnhjaebaaGreat.Md
namespace Go.Proofs.YtaaffmbnhjaebaaGreat.Sm
open Go.RowKit Go.Shelf Go.Sort
open Go.Proofs.YtaaffmbnhjaebaaGreat.Ex (Nm OwnT)
attribute [local go_sem] Oper.semAt_some
attribute [local go_sem] cs0 cs1 cs2 cs3 cs4 cs5 cs6 cs7 cs8 cs9 cs10 cs11 cs12 cs13 cs14 cs15 cs16 cs17 cs18 cs19 cs20
set_option maxHeartbeats 8000000
set_option linter.unusedVariables false
theorem box21.own {β : Type} (g : Nat) (x : St) (P : Pl) : Own (fun (_ : β) W => box21 W g x P) := fun _ A B row hs hg hr => by
 refine (hg.block g hs.lt (fun e => ?_)).trans hs
 obtain ⟨o, ho, hc⟩ := hr g e.symm
 rw [show A.heap[g]? = _ from hs] at ho
 cases ho
 cases hc
theorem Kp.app {n₀ T B : Nat} {W w1 : World} {v v' : Value} {l : List Nm} {tmp : Obj} (hn : n₀ ≤ W.heap.size) (hB : n₀ ≤ B) (hT : B < T) (hrow : OwnT n₀ W v l) (hgrow : (W.alloc tmp).grownBy w1 v.ownBlock) (hbel : Below n₀ W (w1.setCell ⟨B, 0, none⟩ v')) : Kp n₀ T W (w1.setCell ⟨B, 0, none⟩ v') :=
 ⟨hbel, fun k c fr hk hc => by
   have hkl := (Array.getElem?_eq_some_iff.1 hc).1
   rw [(grownBy_setCell' w1 B v').block k (Nat.lt_of_lt_of_le hkl (Nat.le_trans (by simp) hgrow.size)) (fun e => by cases e; omega)]
   rw [hgrow.block k (by simp; omega) (fun e => by
    rcases hrow.2 with ⟨rfl, _⟩ | ⟨g', cap, cur, rfl, _, hgb, _⟩
    · simp [Value.ownBlock] at e
    · obtain rfl : g' = k := by simpa [Value.ownBlock] using e.symm
      rw [hgb] at hc
      cases hc)]
   exact (Below.heap_alloc W tmp k hkl).trans hc⟩
end Go.Proofs.YtaaffmbnhjaebaaGreat.Sm
namespace Go.Proofs.YtaaffmbnhjaebaaGreat.Md
open Go.RowKit Go.Maps
open Go.Proofs.YtaaffmbnhjaebaaGreat.Ex (Lo)
set_option maxHeartbeats 4000000
set_option linter.unusedVariables false
set_option maxRecDepth 100000 in
theorem grow_any (n : Nat) (w : World) (hn : n ≤ 1000000) : Calls Tryz.prog 150 #[.slice none 0 0, .int .i64 n] w fun e w' => ∃ v, e = .returned v ∧ OwnL 103 2 RFld w.heap.size w' v [] ∧ Below w.heap.size w w' := by
 rcases Nat.eq_zero_or_pos n with h0 | h0
 · subst h0
   go_enter Tryz.func150, Tryz.ntmps150
   go_wp2_with fail
   go_ret
   exact ⟨_, rfl, OwnL.nil, Below.refl _ _⟩
 · obtain ⟨i0, z0, hi0, hz0, hz1, hz3, hz2⟩ := kFld.info
   have hrun := fun ty => Lib.run_append_nil_zeros (P := Tryz.prog) w 76 3 ty 103 i0 z0 .i64 .i64 Tryz.underlying76 Tryz.underlying3 hi0 hz0 n h0 (by omega) (by omega) (by
    have := Nat.mul_le_mul (show n ≤ 1000000 from hn) hz2
    omega)
   have hG := grownCap_ge w n 0 103
   have hG2 := grownCap_le_maxLen w n 0 103 (by unfold maxLen; omega)
   generalize grownCap w n 0 103 = G at hrun hG hG2
   have hm := World.ownsRow_made (base := w.heap.size) (e := 103) (size := 2) w.drew (Builtin.zeroCells z0.cells n ++ Builtin.zeroCells z0.cells (G - n)) G (Nat.le_refl _) hG2 (by
    rw [Array.size_append, size_zeroCells, size_zeroCells, hz3]
    omega)
   unfold maxLen at hG2
   have HM : Hid (OwnL 103 2 RFld w.heap.size (w.drew.alloc (.cells (Builtin.zeroCells z0.cells n ++ Builtin.zeroCells z0.cells (G - n)) 103)) (.slice (some ⟨w.heap.size, 0, none⟩) 0 G) []) := Lib.hid ⟨[], rfl, fun i h => absurd h (Nat.not_lt_zero _), hm⟩
   clear hm
   generalize Builtin.zeroCells z0.cells n ++ Builtin.zeroCells z0.cells (G - n) = cs at hrun HM
   go_enter Tryz.func150, Tryz.ntmps150
   go_wp2_with (at_builtin; refine Lib.wpList_append_run _ rfl _ _ _ _ rfl _ _ rfl rfl _ _ (hrun _) ?_)
   all_goals
    go_ret
    exact ⟨_, rfl, HM.out, bl⟩
def catL (ls : Nat → List Fld) : Nat → List Fld
 | 0 => []
 | j + 1 => catL ls j ++ ls j
theorem catL_mono {ls : Nat → List Fld} {j k : Nat} (h : j ≤ k) : (catL ls j).length ≤ (catL ls k).length := by
 induction k with
 | zero => obtain rfl : j = 0 := by omega
           exact Nat.le_refl _
 | succ m ih =>
  by_cases e : j = m + 1
  · subst e; exact Nat.le_refl _
  · refine Nat.le_trans (ih (by omega)) ?_
    rw [catL, List.length_append]; omega
def CatRel (w : World) (ls : Nat → List Fld) (j : Nat) (v : Value) (wr : World) : Prop := OwnL 103 2 RFld w.heap.size wr v (catL ls j) ∧ Below w.heap.size w wr
set_option maxRecDepth 100000 in
theorem concat_any (b o k c : Nat) (pp : Nat → Option Addr) (pn pc : Nat → Nat) (ls : Nat → List Fld) (w : World) (hk : k ≤ 9223372036854775807) (hb : b < w.heap.size)
 (hc : Hid (∀ j, j < k → w.cell? ⟨b, o + j, none⟩ = some (.slice (pp j) (pn j) (pc j)))) (hE : Hid (∀ j, j < k → Rw 2 RFld (Lo w.heap.size) w (ls j) (pp j) (pn j))) (hN : (catL ls k).length ≤ 1000000) :
 Calls Tryz.prog 134 #[.slice (some ⟨b, o, none⟩) k c] w fun e w' => ∃ v, e = .returned v ∧ CatRel w ls k v w' := by
 have HM := Lib.hid fun (j : Nat) (h : j ≤ k) => catL_mono (ls := ls) h
 have HS := Lib.hid fun (j : Nat) (h : j < k) => (hE.out j h).1
 go_enter Tryz.func134, Tryz.ntmps134
 go_wp2_with fail
 go_loop [3, 11] (fun s i => ∃ j m : Nat, j ≤ k ∧ i = .int .i64 j ∧ s = .int .i64 m ∧ Hid (m = (catL ls j).length)) (fun _ i => k - (intOf i).toNat)
 case atStart => exact ⟨0, 0, Nat.zero_le _, rfl, rfl, Lib.hid rfl⟩
 case round =>
  obtain ⟨j, m, hj, rfl, rfl, HT⟩ := hrel
  have c1 : (0 : Int) ≤ (j : Int) := by omega
  have m1 : (0 : Int) ≤ (m : Int) := by omega
  rcases Nat.lt_or_ge j k with h | h
  · have c2 : (j : Int) < (k : Int) := by omega
    have e1 := hc.out j h
    have m2 : (m : Int) + (pn j : Int) ≤ 1000000 := by have h1 := HT.out; have h2 := HM.out (j + 1) h; have h3 := HS.out j h; rw [catL, List.length_append] at h2; omega
    have m3 : (0 : Int) ≤ (pn j : Int) := by omega
    have m4 : ¬ (m : Int) + (pn j : Int) < 0 := by omega
    go_wp2_with fail
    go_round
    case rel => exact ⟨j + 1, m + pn j, by omega, by go_num, by go_num, Lib.hid (by rw [HT.out, catL, List.length_append, HS.out j h])⟩
    case measure => simp [intOf]; omega
  · obtain rfl : k = j := by omega
    have hm : m ≤ 1000000 := by have := HT.out; omega
    have c2 : (k : Int) ≤ (k : Int) := by omega
    go_wp2_with fail
    refine (grow_any m _ hm).mono ?_
    rintro e w1 ⟨v1, rfl, ho1, hb1⟩
    have HO := Lib.hid ho1
    clear ho1
    go_wp2_with fail
    go_loopw [6, 27] (fun v i wr => ∃ j : Nat, j ≤ k ∧ i = .int .i64 j ∧ CatRel w ls j v wr) (fun _ i _ => k - (intOf i).toNat)
    case atStart => exact ⟨0, Nat.zero_le _, rfl, HO.out, hb1⟩
    case round =>
     obtain ⟨j, hj, rfl, HR⟩ := hrel
     have c1 : (0 : Int) ≤ (j : Int) := by omega
     rcases Nat.lt_or_ge j k with h | h
     · have c2 : (j : Int) < (k : Int) := by omega
       obtain ⟨ho, hbr⟩ := HR
       have e1 := (hbr.cell (p := ⟨b, o + j, none⟩) hb).trans (hc.out j h)
       obtain ⟨v2, w2, hrun, ho2, hg2⟩ := OwnL.app kFld RFld.map sFld ho ((hE.out j h).below RFld.map hbr) (pc j) hbr.size (by have h2 := HM.out (j + 1) h; have h3 := HS.out j h; rw [catL, List.length_append] at h2; omega)
       have HO2 : Hid (CatRel w ls (j + 1) v2 w2) := Lib.hid ⟨ho2, ho.below hg2 hbr (Nat.le_refl _) hbr.size⟩
       clear ho ho2 hg2
       go_wp2_with (at_builtin; refine Lib.wpList_append_run _ rfl _ _ _ _ rfl _ _ rfl rfl _ _ hrun ?_)
       go_roundw
       case rel => exact ⟨j + 1, by omega, by go_num, HO2.out⟩
       case measure => simp [intOf]; omega
     · obtain rfl : k = j := by omega
       have H3 := Lib.hid HR
       clear HR
       go_wp2_with fail
       go_ret
       exact ⟨_, rfl, H3.out⟩
theorem concat2 (b : Nat) (p1 p2 : Option Addr) (m1 c1 m2 c2 : Nat) (l1 l2 : List Fld) (w : World) (hb : b < w.heap.size) (h0 : w.cell? ⟨b, 0, none⟩ = some (.slice p1 m1 c1)) (h1 : w.cell? ⟨b, 1, none⟩ = some (.slice p2 m2 c2))
 (hl1 : Rw 2 RFld (Lo w.heap.size) w l1 p1 m1) (hl2 : Rw 2 RFld (Lo w.heap.size) w l2 p2 m2) (hN : m1 + m2 ≤ 1000000) :
 Calls Tryz.prog 134 #[.slice (some ⟨b, 0, none⟩) 2 2] w fun e w' => ∃ v, e = .returned v ∧ OwnL 103 2 RFld w.heap.size w' v (l1 ++ l2) ∧ Below w.heap.size w w' := by
 have e1 := hl1.1
 have e2 := hl2.1
 refine concat_any b 0 2 2 (fun j => if j = 0 then p1 else p2) (fun j => if j = 0 then m1 else m2) (fun j => if j = 0 then c1 else c2) (fun j => if j = 0 then l1 else l2) w (by omega) hb (Lib.hid fun j hj => ?_) (Lib.hid fun j hj => ?_) ?_
 · have h : j = 0 ∨ j = 1 := by omega
   rcases h with rfl | rfl
   · exact h0
   · exact h1
 · have h : j = 0 ∨ j = 1 := by omega
   rcases h with rfl | rfl
   · exact hl1
   · exact hl2
 · show (([] ++ l1) ++ l2).length ≤ _
   rw [List.nil_append, List.length_append]; omega
end Go.Proofs.YtaaffmbnhjaebaaGreat.Md
namespace Go.Proofs.YtaaffmbnhjaebaaGreat.Md
open Go.RowKit
set_option maxHeartbeats 4000000
set_option linter.unusedVariables false
theorem OwnL.app1 {base : Nat} {w : World} {v : Value} {l : List ByteArray} (ho : OwnL 9 1 RTxt base w v l) {a : Addr} (x : ByteArray) (hx : w.cell? a = some (.string x)) (c : Nat) (hb : base ≤ w.heap.size) (hn : l.length + 1 ≤ 1000000) :
 ∃ (v' : Value) (w' : World), (Builtin.append_ #[37, 37] 37 #[v, .slice (some a) 1 c]).run Tryz.prog w = .ok v' w' ∧ OwnL 9 1 RTxt base w' v' (l ++ [x]) ∧ w.grownBy w' v.ownBlock := by
 obtain ⟨L0, a1, a2, a3⟩ := ho
 obtain ⟨i0, z, hi0, hi1, hi2, hi3, hi4⟩ := kTxt.info
 have hmx : (l.length + 1) * i0.bytes ≤ 140737488355328 := by
  have h1 : (l.length + 1) * i0.bytes ≤ 1000000 * 1000 := Nat.mul_le_mul hn hi4
  omega
 obtain ⟨v', w', e1, e2, e3, -, -⟩ := run_append_own_at (P := Tryz.prog) w base 37 37 9 i0 z 1 i0.bytes kTxt.slice hi0 hi1 hi2 rfl hi3 kTxt.pos v l.length _ a3 a 1 c (flatC [#[.string x]]) rfl (fun j u hu => by
  have : j < 1 := (List.getElem?_eq_some_iff.1 hu).1
  obtain rfl : j = 0 := by omega
  have e : some (Value.string x) = some u := hu
  cases e
  show w.cell? (a.add 0) = some (.string x)
  rw [← hx]; unfold Addr.add; simp) (by simp [flatC, Value.oneCell']) (by unfold maxLen; omega) hmx hb
 refine ⟨v', w', e1, ⟨L0 ++ [#[.string x]], by rw [List.length_append, List.length_append, a1]; rfl, fun i hi hi2 => ?_, by rw [flatC_app, List.length_append]; exact e2⟩, e3⟩
 rw [List.getElem_append, List.getElem_append]
 by_cases h0 : i < l.length
 · rw [dif_pos h0, dif_pos (by omega)]
   exact a2 i h0 (by omega)
 · rw [dif_neg h0, dif_neg (by omega)]
   have hi3 : i < l.length + 1 := by simpa using hi
   simp only [show i - l.length = 0 by omega, a1, List.getElem_cons_zero]
   rfl
def Bf (B u : Nat) (b : Nat) : Prop := b < u ∧ b ≠ B
theorem OwnL.rwB {base B : Nat} {w : World} {v : Value} {l : List ByteArray} (h : OwnL 9 1 RTxt base w v l) (hB : B < base) (hn : l.length ≤ 1000000) : ∃ p c, v = .slice p l.length c ∧ Rw 1 RTxt (Bf B w.heap.size) w l p l.length := by
 obtain ⟨L, h1, h2, h3⟩ := h
 rcases h3.2 with ⟨rfl, h0⟩ | ⟨g, cap, cur, rfl, hb, hg, -⟩
 · exact ⟨none, 0, by rw [h0], rfl, by omega, .inl h0⟩
 · have hgl : g < w.heap.size := (Array.getElem?_eq_some_iff.1 hg).1
   refine ⟨some ⟨g, 0, none⟩, cap, rfl, rfl, by omega, .inr ⟨g, 0, rfl, ⟨hgl, by omega⟩, hgl, Lib.hid fun i hi => ?_⟩⟩
   have hi2 : i < L.length := by omega
   have hR : L[i] = #[.string l[i]] := h2 i hi hi2
   have hL : ∀ c ∈ L, c.size = 1 := fun c hc => by
    obtain ⟨i, hi, rfl⟩ := List.getElem_of_mem hc
    exact (sTxt (h2 i (by omega) hi)).1
   refine ⟨L[i], by rw [hR]; rfl, fun r u hu => ?_, hR⟩
   have hr : r < 1 := by have := (Array.getElem?_eq_some_iff.1 hu).1; rw [hR] at this; exact this
   have hlt : i * 1 + r < l.length * 1 := by omega
   rw [Nat.zero_add, h3.cellAt (i * 1 + r) hlt, flatC_get hL hi2 hr]
   exact hu
theorem Box.set {w : World} {g : Nat} {t : TypeId} {c : Array Value} (h : Box w g t c) (i : Nat) (v : Value) : Box (w.setCell ⟨g, i, none⟩ v) g t (c.setIfInBounds i v) := by
 unfold Box at h ⊢
 unfold World.setCell
 show (w.heap.modify g _)[g]? = _
 rw [Array.getElem?_modify, if_pos rfl, h]
 rfl
theorem But.set {b : Nat} {a w : World} (h : But b a w) (i : Nat) (v : Value) : But b a (w.setCell ⟨b, i, none⟩ v) := by
 refine ⟨h.os, h.tape, h.output, ?_, fun k hk hb => ?_⟩
 · show a.heap.size ≤ (w.heap.modify b _).size
   rw [Array.size_modify]; exact h.size
 · show (w.heap.modify b _)[k]? = _
   rw [Array.getElem?_modify, if_neg (fun e => hb e.symm)]
   exact h.block k hk hb
theorem Rw.but {b : Nat} {w w2 : World} {l : List ByteArray} {p : Option Addr} {m : Nat} (hb : But b w w2) (h : Rw 1 RTxt (Bf b w.heap.size) w l p m) : Rw 1 RTxt (Bf b w2.heap.size) w2 l p m := h.map RTxt.map hb.size fun k g hk => ⟨⟨Nat.lt_of_lt_of_le g.1 hb.size, g.2⟩, hb.block k hk g.2⟩
end Go.Proofs.YtaaffmbnhjaebaaGreat.Md
namespace Go.Proofs.YtaaffmbnhjaebaaGreat.Md
open Go.RowKit Go.Maps
open Go.Proofs.YtaaffmbnhjaebaaGreat.Na (bs_inj)
open Go.Proofs.YtaaffmbnhjaebaaGreat.Sm (nE)
open Go.Proofs.YtaaffmbnhjaebaaGreat.Ex (Lo Gives)
attribute [local go_sem] cTrm0 cTrm1 cTrm2 cLw0 cLw1 cLw2 cSte12
set_option maxHeartbeats 4000000
set_option linter.unusedVariables false
def KindC : Prop := ∀ (x : Ste) (P : PSte) (s : ByteArray) (w : World), OSte (Lo w.heap.size) w x P → Calls Tryz.prog 18 #[.agg (cSte x P), .string s] w (Gives (.string (kindV x s)) w)
theorem zQTrm_0 {p : Prop} (h : p := by
 clear h1 h2 h3 HE
 go_enter Tryz.func157, Tryz.ntmps157
 go_wp2_with fail
 refine (CC.out _).mono ?_
 rintro e v1 ⟨rfl, rfl⟩
 go_wp2_with fail
 refine (CK.out _ bl).mono ?_
 rintro e v2 ⟨rfl, hb2⟩
 have q := FY.out v2 bl
 go_wp2_with fail
 refine (CB.out _).mono ?_
 rintro e v3 ⟨rfl, rfl⟩
 go_wp2_with fail
 go_ret
 exact ⟨rfl, bl⟩
 ) : p := h
set_option maxRecDepth 100000 in
theorem checkTerm_any (hK : KindC) (x : Ste) (P : PSte) (t : Trm) (w : World) (hx : OSte (Lo w.heap.size) w x P) : Calls Tryz.prog 157 #[.agg (cSte x P), .agg (cTrm t)] w (Gives (.int .i64 (trmE x t)) w) := by
 have HX := Lib.hid hx
 have FX := far2 (w := w) 42 54 (cSte x P) (cTrm t)
 obtain ⟨n13, hn13⟩ : ∃ n : Nat, 13 = n := ⟨_, rfl⟩
 have hsz13 : ∀ w, (sizeOf 42).run Tryz.prog w = .ok n13 w := fun w => by rw [Tryz.sizeOf42, hn13]
 have HN13 := Lib.hid hn13
 have ld := fun W => ((far2 (w := W) 42 54 (cSte x P) (cTrm t)).out _ (Below.refl _ _)).1.cell.ldN HN13.out
 obtain ⟨K, hKv⟩ : ∃ v, cntK t.wh = v := ⟨_, rfl⟩
 obtain ⟨V, hV⟩ : ∃ v, kindV x t.nm = v := ⟨_, rfl⟩
 obtain ⟨r, hr⟩ : ∃ v, btw (-1000) t.co 1000 = v := ⟨_, rfl⟩
 have CC := Lib.hid (fun W => (show Calls Tryz.prog 179 #[.string t.wh] W (Stay (.string K) W) by rw [← hKv]; exact counted_any _ W))
 have CK := Lib.hid (fun W (hW : Below w.heap.size w W) => (show Calls Tryz.prog 18 #[.agg (cSte x P), .string t.nm] W (Gives (.string V) W) by rw [← hV]; exact hK x P t.nm W (HX.out.on hW)))
 have CB := Lib.hid (fun W => between_gives hr W)
 have HE : Hid (trmE x t = if K = nE then 1 else if V = K then (if t.co = 0 then 2 else if r then 0 else 2) else 5) := Lib.hid (by unfold trmE; rw [hKv, hV, hr])
 clear hx hn13 hKv hV hr hK
 by_cases h1 : K = nE
 · rw [show trmE x t = 1 by rw [HE.out, if_pos h1]]
   have u1 : K.toList.isEmpty = true := by rw [emp_is, h1]; decide
   have u2 : (K.toList == (⟨#[]⟩ : ByteArray).toList) = true := by rw [tx_eq]; exact decide_eq_true h1
   clear h1 HE
   go_enter Tryz.func157, Tryz.ntmps157
   go_wp2_with fail
   refine (CC.out _).mono ?_
   rintro e v1 ⟨rfl, rfl⟩
   go_wp2_with fail
   go_ret
   exact ⟨rfl, bl⟩
 have u1 : K.toList.isEmpty = false := by rw [emp_is]; unfold txB; exact decide_eq_false (fun e => h1 (bs_inj e))
 have u2 : (K.toList == (⟨#[]⟩ : ByteArray).toList) = false := by rw [tx_eq]; exact decide_eq_false h1
 by_cases h2 : V = K
 rotate_left 1
 · rw [show trmE x t = 5 by rw [HE.out, if_neg h1, if_neg h2]]
   have u3 : (V.toList == K.toList) = false := by rw [tx_eq]; exact decide_eq_false h2
   have u4 : (V.toList != K.toList) = true := by rw [bne, u3]; rfl
   clear h1 h2 HE
   go_enter Tryz.func157, Tryz.ntmps157
   go_wp2_with fail
   refine (CC.out _).mono ?_
   rintro e v1 ⟨rfl, rfl⟩
   go_wp2_with fail
   refine (CK.out _ bl).mono ?_
   rintro e v2 ⟨rfl, hb2⟩
   go_wp2_with fail
   go_ret
   exact ⟨rfl, bl⟩
 have u3 : (V.toList == K.toList) = true := by rw [tx_eq]; exact decide_eq_true h2
 have u4 : (V.toList != K.toList) = false := by rw [bne, u3]; rfl
 have FY : Hid (∀ W, Below ((w.alloc (.cells (cSte x P) 42)).alloc (.cells (cTrm t) 54)).heap.size ((w.alloc (.cells (cSte x P) 42)).alloc (.cells (cTrm t) 54)) W → W.cell? ⟨w.heap.size + 1, 0, none⟩ = some (.int .i64 t.co)) := Lib.hid fun W hb => (FX.out W hb).2.get (cTrm0 t)
 by_cases h3 : t.co = 0
 · rw [show trmE x t = 2 by rw [HE.out, if_neg h1, if_pos h2, if_pos h3]]
   have u5 : (t.co == 0) = true := beq_iff_eq.2 h3
   clear h1 h2 h3 HE
   go_enter Tryz.func157, Tryz.ntmps157
   go_wp2_with fail
   refine (CC.out _).mono ?_
   rintro e v1 ⟨rfl, rfl⟩
   go_wp2_with fail
   refine (CK.out _ bl).mono ?_
   rintro e v2 ⟨rfl, hb2⟩
   have q := FY.out v2 bl
   go_wp2_with fail
   go_ret
   exact ⟨rfl, bl⟩
 have u5 : (t.co == 0) = false := beq_eq_false_iff_ne.2 h3
 cases r with
 | false =>
  rw [show trmE x t = 2 by rw [HE.out, if_neg h1, if_pos h2, if_neg h3]; rfl]
  exact zQTrm_0
 | true =>
  rw [show trmE x t = 0 by rw [HE.out, if_neg h1, if_pos h2, if_neg h3]; rfl]
  exact zQTrm_0
set_option maxRecDepth 100000 in
theorem cloT_any (hK : KindC) (x : Ste) (P : PSte) (t : Trm) (B : Nat) (w : World) (hx : OSte (Lo w.heap.size) w x P) (hB : Box w B 42 (cSte x P)) : Calls Tryz.prog 156 #[.agg (cTrm t), .pointer (some ⟨B, 0, none⟩)] w (Gives (.int .i64 (trmE x t)) w) := by
 have HX := Lib.hid hx
 obtain ⟨n13, hn13⟩ : ∃ n : Nat, 13 = n := ⟨_, rfl⟩
 have hsz13 : ∀ w, (sizeOf 42).run Tryz.prog w = .ok n13 w := fun w => by rw [Tryz.sizeOf42, hn13]
 have HN13 := Lib.hid hn13
 have ld := (hB.on (show Below w.heap.size w (w.alloc (.cells (cTrm t) 54)) by exact bl)).cell.ldN HN13.out
 obtain ⟨V, hV⟩ : ∃ v, trmE x t = v := ⟨_, rfl⟩
 have CT := Lib.hid (fun W (hW : Below w.heap.size w W) => (show Calls Tryz.prog 157 #[.agg (cSte x P), .agg (cTrm t)] W (Gives (.int .i64 V) W) by rw [← hV]; exact checkTerm_any hK x P t W (HX.out.on hW)))
 rw [hV]
 clear hx hB hn13 hV hK
 go_enter Tryz.func156, Tryz.ntmps156
 go_wp2_with fail
 refine (CT.out _ bl).mono ?_
 rintro e v1 ⟨rfl, hb1⟩
 go_wp2_with fail
 go_ret
 exact ⟨rfl, bl⟩
theorem terms_any (hK : KindC) (x : Ste) (P : PSte) (w0 : World) (hx : OSte (Lo w0.heap.size) w0 x P) {l : List Trm} {p : Option Addr} {m c : Nat} (hl : Rw 3 RTrm (Lo w0.heap.size) w0 l p m) (B : Nat) (W : World) (hW : Below w0.heap.size w0 W) (hB : Box W B 42 (cSte x P)) :
 Calls Tryz.prog 155 #[.slice p m c, .int .i64 ((8 : Nat) : Int), .func (.func 156) #[] #[.pointer (some ⟨B, 0, none⟩)]] W (fun e W2 => e = .returned (.int .i64 (lstE (trmE x) 8 l)) ∧ Below W.heap.size W W2) := by
 have F : Fine w0 (fun (_ : Unit) V => Below W.heap.size W V) := ⟨fun _ V h => hW.trans (h.mono hW.size), fun _ V V2 h h2 => h.trans (h2.mono h.size)⟩
 refine (each_Trm (Lib.hid hl) #[] #[.pointer (some ⟨B, 0, none⟩)] (fun (_ : Unit) V => Below W.heap.size W V) (Lib.hid F) (fun _ t => (trmE x t, ())) 8 (by omega) () (Lib.hid fun k s t c V hx2 hm hg hR hI => ?_) W (Lib.hid (Below.refl _ _))).mono fun e W2 h => ?_
 · rw [arg1, show c = cTrm t from hR]
   exact (cloT_any hK x P t B V (hx.on (hW.trans (hI.mono hW.size))) (hB.on hI)).mono fun e W2 h => ⟨h.1, hI.trans (h.2.mono hI.size)⟩
 · obtain ⟨h1, h2⟩ := h
   rw [eachE_pure] at h1
   exact ⟨h1, h2⟩
end Go.Proofs.YtaaffmbnhjaebaaGreat.Md
