/-
  Parts of this proof: The contract of the reference's named. The contract of the reference's value. The contract of the reference's resource. What a model that is accepted has. The reference's lists of the names before. The contracts of the reference's Of and zero.
-/
import Derived.Test.YtaaffmbnhjaebaaGreatZQRrkxab
import Derived.Test.YtaaffmbnhjaebaaGreatZQRsdxa
import Derived.Test.YtaaffmbnhjaebaaGreatZDSamexad
import Derived.Test.YtaaffmbnhjaebaaGreatZPMathxace
namespace Go.Proofs.YtaaffmbnhjaebaaGreat.Md
open Go.RowKit
open Go.Proofs.YtaaffmbnhjaebaaGreat.Na (bs bs_inj chk Strs fst)
open Go.Proofs.YtaaffmbnhjaebaaGreat.Sm (orE)
open Go.Proofs.YtaaffmbnhjaebaaGreat.Ex (Gives)
set_option maxHeartbeats 4000000
set_option linter.unusedVariables false
theorem fst_mem {l : List ByteArray} {s : ByteArray} : fst l s < 0 ↔ ¬ s ∈ l := by
 induction l with
 | nil => simp [fst]
 | cons x t ih =>
  have hg := Na.fst_ge s t
  unfold fst
  by_cases h : bs x = bs s
  · rw [if_pos h]
    have : x = s := bs_inj h
    simp [this]
  · rw [if_neg h]
    have hx : ¬ s = x := fun e => h (by rw [e])
    by_cases h1 : fst t s = -1
    · rw [if_pos h1]
      have := ih.1 (by omega)
      simp [hx, this]
    · rw [if_neg h1]
      have h2 : ¬ fst t s < 0 := by omega
      have h3 : s ∈ t := Classical.byContradiction fun hh => h2 (ih.2 hh)
      constructor
      · intro hh; omega
      · intro hh; exact absurd (List.mem_cons_of_mem _ h3) hh
theorem rchk_at {s : ByteArray} {v : Int} (h : chk (bs s) = v) (hs : s.size ≤ 9223372036854775807) (w : World) : Calls Tryz.prog 33 #[.string s] w (Gives (.int .i64 v) w) := by rw [← h]; exact Na.rcheck_any s w hs
theorem dec_unl (acc : List ByteArray) (x : ByteArray) : decE acc x = orE (chk (bs x)) (unl (decide (fst acc x < 0)) 4) := by
 unfold decE unl
 by_cases h : x ∈ acc
 · rw [if_pos h, decide_eq_false (fun hh => (fst_mem.1 hh) h)]; rfl
 · rw [if_neg h, decide_eq_true (fst_mem.2 h)]; rfl
set_option maxRecDepth 100000 in
theorem rnamed_any (s : ByteArray) (p : Option Addr) (m c : Nat) (l : List ByteArray) (w : World) (hs : s.size ≤ 9223372036854775807) (hl : Strs w p m l) (hk : ∀ W, Below w.heap.size w W → Strs W p m l) : Calls Tryz.prog 36 #[.string s, .slice p m c] w (Gives (.int .i64 (decE l s)) w) := by
 rw [dec_unl]
 obtain ⟨v, hv⟩ : ∃ v, chk (bs s) = v := ⟨_, rfl⟩
 obtain ⟨i, hi⟩ : ∃ v, fst l s = v := ⟨_, rfl⟩
 have C1 := Lib.hid (fun W => rchk_at hv hs W)
 have C2 := Lib.hid (fun W (hW : Below w.heap.size w W) => rfind_at p m c l s W hi (hk W hW))
 rw [hv, hi]
 clear hs hl hk hv hi
 obtain ⟨b, hb⟩ : ∃ b, decide (i < 0) = b := ⟨_, rfl⟩
 rw [hb]
 go_enter Tryz.func36, Tryz.ntmps36
 go_wp2_with fail
 refine (C1.out _).mono ?_
 rintro e w1 ⟨rfl, hb1⟩
 go_wp2_with fail
 refine (C2.out _ bl).mono ?_
 rintro e w2 ⟨rfl, hb2⟩
 go_wp2_with fail
 try rw [hb]
 refine (unless_any b 4 _).mono ?_
 rintro e w3 ⟨rfl, hb3⟩
 go_wp2_with fail
 refine (first_any v _ _).mono ?_
 rintro e w4 ⟨rfl, hb4⟩
 go_wp2_with fail
 go_ret
 exact ⟨rfl, by subst hb3; subst hb4; exact bl⟩
end Go.Proofs.YtaaffmbnhjaebaaGreat.Md
namespace Go.Proofs.YtaaffmbnhjaebaaGreat.Md
open Go.RowKit
open Go.Proofs.YtaaffmbnhjaebaaGreat.Na (Strs)
open Go.Proofs.YtaaffmbnhjaebaaGreat.Sm (orE orE_assoc)
open Go.Proofs.YtaaffmbnhjaebaaGreat.Ex (Gives)
set_option maxHeartbeats 4000000
set_option linter.unusedVariables false
theorem val_unl (a : Int) (v : Val) : orE a (valT v) = orE (orE a (unl (typ v.ty) 1)) (unl (fits v.ty v.n) 2) := by
 rw [orE_assoc]
 congr 1
 unfold valT unl
 cases typ v.ty <;> cases fits v.ty v.n <;> rfl
set_option maxRecDepth 100000 in
theorem rvalue_any (x : Val) (p : Option Addr) (m c : Nat) (l : List ByteArray) (w : World) (hs : x.nm.size ≤ 9223372036854775807) (hk : ∀ W, Below w.heap.size w W → Strs W p m l) : Calls Tryz.prog 35 #[.agg (cVal x), .slice p m c] w (Gives (.int .i64 (orE (decE l x.nm) (valT x))) w) := by
 rw [val_unl]
 obtain ⟨v, hv⟩ : ∃ v, decE l x.nm = v := ⟨_, rfl⟩
 obtain ⟨b, hb⟩ : ∃ b, typ x.ty = b := ⟨_, rfl⟩
 obtain ⟨d, hd⟩ : ∃ b, fits x.ty x.n = b := ⟨_, rfl⟩
 have C1 := Lib.hid (fun W (hW : Below w.heap.size w W) => (show Calls Tryz.prog 36 #[.string x.nm, .slice p m c] W (Gives (.int .i64 v) W) by rw [← hv]; exact rnamed_any x.nm p m c l W hs (hk W hW) fun W2 hW2 => hk W2 (hW.trans (hW2.mono hW.size))))
 have C2 := Lib.hid (fun W => (show Calls Tryz.prog 65 #[.int .i64 x.ty] W (Stay (.bool b) W) by rw [← hb]; exact typed_any x.ty W))
 have C3 := Lib.hid (fun W => (show Calls Tryz.prog 66 #[.int .i64 x.ty, .int .i64 x.n] W (Stay (.bool d) W) by rw [← hd]; exact rfits_any x.ty x.n W))
 have FX := far (w := w) 63 (cVal x)
 have FK : Hid (∀ W, Below (w.alloc (.cells (cVal x) 63)).heap.size (w.alloc (.cells (cVal x) 63)) W → W.cell? ⟨w.heap.size, 0, none⟩ = some (.string x.nm) ∧ W.cell? ⟨w.heap.size, 1, none⟩ = some (.int .i64 x.ty) ∧ W.cell? ⟨w.heap.size, 2, none⟩ = some (.int .i64 x.n)) := Lib.hid fun W hb => by
  have q := FX.out W hb
  exact ⟨q.get (cVal0 x), q.get (cVal1 x), q.get (cVal2 x)⟩
 rw [hv, hb, hd]
 clear hs hk hv hb hd
 go_enter Tryz.func35, Tryz.ntmps35
 go_wp2_with fail
 go_region_held3 (fun W => W.cell? ⟨w.heap.size, 0, none⟩ = some (.string x.nm) ∧ W.cell? ⟨w.heap.size, 1, none⟩ = some (.int .i64 x.ty) ∧ W.cell? ⟨w.heap.size, 2, none⟩ = some (.int .i64 x.n)) (first | (refine FK.out _ ?_; exact bl; done) | (go_keep; done)) (first
  | (have t := hb2; go_at_call 32; refine (first_any v (unl b 1) _).mono ?_; rintro e w4 ⟨rfl, rfl⟩)
  | (have t := ht; go_at_call 34; refine (unless_any b 1 _).mono ?_; rintro e w3 ⟨rfl, rfl⟩; have hb2 := trivial)
  | (have t := hb1; go_at_call 65; refine (C2.out _).mono ?_; rintro e w2 ⟨rfl, rfl⟩; have ht := trivial)
  | (go_at_call 36; refine (C1.out _ bl).mono ?_; rintro e w1 ⟨rfl, hb1⟩))
 all_goals
  have HB1 := Lib.hid hb1
  have hq := FK.out w1 bl
  obtain ⟨g0, g1, g2⟩ := hq
  go_wp2_with fail
  refine (C3.out _).mono ?_
  rintro e w2 ⟨rfl, rfl⟩
  go_wp2_with fail
  refine (unless_any d 2 _).mono ?_
  rintro e w3 ⟨rfl, rfl⟩
  go_wp2_with fail
  refine (first_any (orE v (unl b 1)) (unl d 2) _).mono ?_
  rintro e w4 ⟨rfl, rfl⟩
  go_wp2_with fail
  go_ret
  exact ⟨rfl, by have HC := HB1.out; exact bl⟩
end Go.Proofs.YtaaffmbnhjaebaaGreat.Md
namespace Go.Proofs.YtaaffmbnhjaebaaGreat.Md
open Go.RowKit Go.Maps
open Go.Proofs.YtaaffmbnhjaebaaGreat.Na (bs fst)
open Go.Proofs.YtaaffmbnhjaebaaGreat.Sm (sameDt zD nE dtE Ints orE orE_no orE_yes)
open Go.Proofs.YtaaffmbnhjaebaaGreat.Ex (Lo Gives)
attribute [local go_sem] cRes1 cRes4 cSte6
set_option maxHeartbeats 4000000
set_option linter.unusedVariables false
theorem zD_ints (w : World) : Ints (Lo w.heap.size) w zD.vs none 0 ∧ Ints (Lo w.heap.size) w zD.ws none 0 := ⟨⟨rfl, by decide, .inl rfl⟩, ⟨rfl, by decide, .inl rfl⟩⟩
set_option maxRecDepth 100000 in
theorem rresource_any (s : Ste) (PS : PSte) (x : Res) (P : PRes) (w : World) (hs : Rw 1 RTxt (Lo w.heap.size) w s.sm PS.smp PS.smm) (hx : ORes (Lo w.heap.size) w x P) : Calls Tryz.prog 118 #[.agg (cSte s PS), .agg (cRes x P)] w (Gives (.int .i64 (resT s.sm x)) w) := by
 have HX := Lib.hid hx
 have HS := Lib.hid hs
 have FX := far2 (w := w) 42 92 (cSte s PS) (cRes x P)
 obtain ⟨n17, hn17⟩ : ∃ n : Nat, 17 = n := ⟨_, rfl⟩
 have hsz17 : ∀ w, (sizeOf 92).run Tryz.prog w = .ok n17 w := fun w => by rw [Tryz.sizeOf92, hn17]
 have FS : Hid (∀ W, Below ((w.alloc (.cells (cSte s PS) 42)).alloc (.cells (cRes x P) 92)).heap.size ((w.alloc (.cells (cSte s PS) 42)).alloc (.cells (cRes x P) 92)) W → W.cell? ⟨w.heap.size + 1, 1, none⟩ = some (.int .i64 x.un) ∧ (loadCellsFrom ⟨w.heap.size + 1, 0, none⟩ 0 n17 #[]).run Tryz.prog W = .ok (cRes x P) W) := Lib.hid fun W hb => ⟨(FX.out W hb).2.get (cRes1 x P), (FX.out W hb).2.cell.ldN (by rw [cRes_size]; exact hn17)⟩
 have FK : Hid (∀ W, Below ((w.alloc (.cells (cSte s PS) 42)).alloc (.cells (cRes x P) 92)).heap.size ((w.alloc (.cells (cSte s PS) 42)).alloc (.cells (cRes x P) 92)) W → W.cell? ⟨w.heap.size + 1, 4, none⟩ = some (.string x.fs) ∧ W.cell? ⟨w.heap.size, 6, none⟩ = some (.slice PS.smp PS.smm PS.smc)) := Lib.hid fun W hb => ⟨(FX.out W hb).2.get (cRes4 x P), (FX.out W hb).1.get (cSte6 s PS)⟩
 have FY : Hid (∀ W, Below ((w.alloc (.cells (cSte s PS) 42)).alloc (.cells (cRes x P) 92)).heap.size ((w.alloc (.cells (cSte s PS) 42)).alloc (.cells (cRes x P) 92)) W → W.cell? ⟨w.heap.size + 1, 5, none⟩ = some (.int .i64 x.up.op) ∧ W.cell? ⟨w.heap.size + 1, 6, none⟩ = some (.int .i64 x.up.a) ∧ W.cell? ⟨w.heap.size + 1, 7, none⟩ = some (.int .i64 x.up.b) ∧ W.cell? ⟨w.heap.size + 1, 8, none⟩ = some (.int .i64 x.up.n) ∧ W.cell? ⟨w.heap.size + 1, 9, none⟩ = some (.slice P.upvp P.upvm P.upvc) ∧ W.cell? ⟨w.heap.size + 1, 10, none⟩ = some (.slice P.upwp P.upwm P.upwc) ∧ W.cell? ⟨w.heap.size + 1, 11, none⟩ = some (.int .i64 x.dn.op) ∧ W.cell? ⟨w.heap.size + 1, 12, none⟩ = some (.int .i64 x.dn.a) ∧ W.cell? ⟨w.heap.size + 1, 13, none⟩ = some (.int .i64 x.dn.b) ∧ W.cell? ⟨w.heap.size + 1, 14, none⟩ = some (.int .i64 x.dn.n) ∧ W.cell? ⟨w.heap.size + 1, 15, none⟩ = some (.slice P.dnvp P.dnvm P.dnvc) ∧ W.cell? ⟨w.heap.size + 1, 16, none⟩ = some (.slice P.dnwp P.dnwm P.dnwc)) := Lib.hid fun W hb => by
  have q := (FX.out W hb).2
  exact ⟨q.get (cRes5 x P), q.get (cRes6 x P), q.get (cRes7 x P), q.get (cRes8 x P), q.get (cRes9 x P), q.get (cRes10 x P), q.get (cRes11 x P), q.get (cRes12 x P), q.get (cRes13 x P), q.get (cRes14 x P), q.get (cRes15 x P), q.get (cRes16 x P)⟩
 obtain ⟨u, hu⟩ : ∃ b, isU x.un = b := ⟨_, rfl⟩
 obtain ⟨v1, hv1⟩ : ∃ v, schE x.sh x.cy = v := ⟨_, rfl⟩
 obtain ⟨e0, he0⟩ : ∃ v, orE (unl u 2) v1 = v := ⟨_, rfl⟩
 have CW := Lib.hid (fun W => within_gives (show btw 0 x.un 1000 = u from hu) W)
 have CS := Lib.hid (fun W (hW : Below w.heap.size w W) => (show Calls Tryz.prog 141 #[.agg (cRes x P)] W (Gives (.int .i64 v1) W) by rw [← hv1]; exact rschedule_any x P W (HX.out.sh.on RChg.map hW)))
 have CF := Lib.hid (fun W => (show Calls Tryz.prog 32 #[.int .i64 (unl u 2), .int .i64 v1] W (Stay (.int .i64 e0) W) by rw [← he0]; exact first_any _ _ W))
 have HE : Hid (resT s.sm x = orE e0 (fltE x s.sm)) := Lib.hid (by
  unfold resT
  rw [hu, hv1, ← he0]
  cases u
  · rfl
  · rw [show unl true 2 = 0 from rfl, orE_yes]; rfl)
 clear hx hs hn17 hu hv1 he0
 by_cases h0 : e0 = 0
 rotate_left 1
 · rw [show resT s.sm x = e0 by rw [HE.out, orE_no h0]]
   have t1 : (e0 != 0) = true := bne_iff_ne.2 h0
   clear h0 HE
   go_enter Tryz.func118, Tryz.ntmps118
   go_wp2_with fail
   go_region_held3 (fun W => W.cell? ⟨w.heap.size + 1, 1, none⟩ = some (.int .i64 x.un) ∧ (loadCellsFrom ⟨w.heap.size + 1, 0, none⟩ 0 n17 #[]).run Tryz.prog W = .ok (cRes x P) W) (first | (refine FS.out _ ?_; exact bl; done) | (go_keep; done)) (first | (have t := hb3; go_at_call 32; refine (CF.out _).mono ?_; rintro e w4 ⟨rfl, rfl⟩) | (have t := ht2; go_at_call 141; refine (CS.out _ bl).mono ?_; rintro e w3 ⟨rfl, hb3⟩) | (have t := ht1; go_at_call 34; refine (unless_any u 2 _).mono ?_; rintro e w2 ⟨rfl, rfl⟩; have ht2 := trivial) | (go_at_call 70; refine (CW.out _).mono ?_; rintro e w1 ⟨rfl, rfl⟩; have ht1 := trivial))
   all_goals
    have HB3 := Lib.hid hb3
    go_wp2_with fail
    go_ret
    exact ⟨rfl, by have HBB := HB3.out; exact bl⟩
 subst h0
 rw [show resT s.sm x = fltE x s.sm by rw [HE.out, orE_yes]]
 clear HE
 obtain ⟨b1, h1⟩ : ∃ b, txB x.fs nE = b := ⟨_, rfl⟩
 have u1 : x.fs.toList.isEmpty = b1 := by rw [emp_is]; exact h1
 cases b1 with
 | true =>
  obtain ⟨b2, h2⟩ : ∃ b, sameDt x.up zD = b := ⟨_, rfl⟩
  obtain ⟨b3, h3⟩ : ∃ b, sameDt x.dn zD = b := ⟨_, rfl⟩
  have C1 := Lib.hid (fun W (hW : Below w.heap.size w W) => (show Calls Tryz.prog 128 #[.agg #[.int .i64 x.up.op, .int .i64 x.up.a, .int .i64 x.up.b, .int .i64 x.up.n, .slice P.upvp P.upvm P.upvc, .slice P.upwp P.upwm P.upwc], .agg #[.int .i64 0, .int .i64 0, .int .i64 0, .int .i64 0, .slice none 0 0, .slice none 0 0]] W (Gives (.bool b2) W) by rw [← h2]; exact rdsame_at x.up zD _ _ _ _ _ _ none 0 0 none 0 0 (HX.out.flt.on hW).uv (HX.out.flt.on hW).uw (zD_ints W).1 (zD_ints W).2))
  have C2 := Lib.hid (fun W (hW : Below w.heap.size w W) => (show Calls Tryz.prog 128 #[.agg #[.int .i64 x.dn.op, .int .i64 x.dn.a, .int .i64 x.dn.b, .int .i64 x.dn.n, .slice P.dnvp P.dnvm P.dnvc, .slice P.dnwp P.dnwm P.dnwc], .agg #[.int .i64 0, .int .i64 0, .int .i64 0, .int .i64 0, .slice none 0 0, .slice none 0 0]] W (Gives (.bool b3) W) by rw [← h3]; exact rdsame_at x.dn zD _ _ _ _ _ _ none 0 0 none 0 0 (HX.out.flt.on hW).dv (HX.out.flt.on hW).dw (zD_ints W).1 (zD_ints W).2))
  rw [show fltE x s.sm = unl (b2 && b3) 1 by
   unfold fltE unl
   rw [if_pos (show bs x.fs = [] from of_decide_eq_true h1), h2, h3]]
  clear h1 h2 h3
  go_enter Tryz.func118, Tryz.ntmps118
  go_wp2_with fail
  go_region_held3 (fun W => W.cell? ⟨w.heap.size + 1, 1, none⟩ = some (.int .i64 x.un) ∧ (loadCellsFrom ⟨w.heap.size + 1, 0, none⟩ 0 n17 #[]).run Tryz.prog W = .ok (cRes x P) W) (first | (refine FS.out _ ?_; exact bl; done) | (go_keep; done)) (first | (have t := hb3; go_at_call 32; refine (CF.out _).mono ?_; rintro e w4 ⟨rfl, rfl⟩) | (have t := ht2; go_at_call 141; refine (CS.out _ bl).mono ?_; rintro e w3 ⟨rfl, hb3⟩) | (have t := ht1; go_at_call 34; refine (unless_any u 2 _).mono ?_; rintro e w2 ⟨rfl, rfl⟩; have ht2 := trivial) | (go_at_call 70; refine (CW.out _).mono ?_; rintro e w1 ⟨rfl, rfl⟩; have ht1 := trivial))
  all_goals
   have HB3 := Lib.hid hb3
   obtain ⟨g4, g6⟩ := FK.out w3 bl
   obtain ⟨f5, f6, f7, f8, f9, f10, f11, f12, f13, f14, f15, f16⟩ := FY.out w3 bl
   go_wp2_with fail
   refine (C1.out _ bl).mono ?_
   rintro e w5 ⟨rfl, hb5⟩
   have HB5 : Hid (Below w.heap.size w w5) := Lib.hid (by have HBB := HB3.out; exact bl)
   cases b2 with
   | false =>
    go_wp2_with fail
    refine (unless_any false 1 _).mono ?_
    rintro e w6 ⟨rfl, rfl⟩
    go_wp2_with fail
    go_ret
    exact ⟨rfl, HB5.out⟩
   | true =>
    clear f5 f6 f7 f8 f9 f10 f11 f12 f13 f14 f15 f16 g4 g6
    obtain ⟨f5, f6, f7, f8, f9, f10, f11, f12, f13, f14, f15, f16⟩ := FY.out w5 (by have HBB := HB3.out; exact bl)
    go_wp2_with fail
    refine (C2.out _ HB5.out).mono ?_
    rintro e w6 ⟨rfl, hb6⟩
    go_wp2_with fail
    refine (unless_any b3 1 _).mono ?_
    rintro e w7 ⟨rfl, rfl⟩
    go_wp2_with fail
    go_ret
    exact ⟨by simp, by have HBB := HB5.out; exact bl⟩
 | false =>
  obtain ⟨k, hk⟩ : ∃ k, fst s.sm x.fs = k := ⟨_, rfl⟩
  have CN := Lib.hid (fun W (hW : Below w.heap.size w W) => rfind_at PS.smp PS.smm PS.smc s.sm x.fs W hk ((HS.out.on RTxt.map hW).strs))
  have HF : Hid (fltE x s.sm = if k < 0 then 5 else orE (dtE x.up) (dtE x.dn)) := Lib.hid (by
   unfold fltE
   rw [if_neg (fun hh => by unfold txB at h1; rw [decide_eq_false_iff_not] at h1; exact h1 hh), hk])
  clear h1 hk
  by_cases hk0 : k < 0
  · rw [show fltE x s.sm = 5 by rw [HF.out]; exact if_pos hk0]
    have d0 := decide_eq_true hk0
    clear HF
    go_enter Tryz.func118, Tryz.ntmps118
    go_wp2_with fail
    go_region_held3 (fun W => W.cell? ⟨w.heap.size + 1, 1, none⟩ = some (.int .i64 x.un) ∧ (loadCellsFrom ⟨w.heap.size + 1, 0, none⟩ 0 n17 #[]).run Tryz.prog W = .ok (cRes x P) W) (first | (refine FS.out _ ?_; exact bl; done) | (go_keep; done)) (first | (have t := hb3; go_at_call 32; refine (CF.out _).mono ?_; rintro e w4 ⟨rfl, rfl⟩) | (have t := ht2; go_at_call 141; refine (CS.out _ bl).mono ?_; rintro e w3 ⟨rfl, hb3⟩) | (have t := ht1; go_at_call 34; refine (unless_any u 2 _).mono ?_; rintro e w2 ⟨rfl, rfl⟩; have ht2 := trivial) | (go_at_call 70; refine (CW.out _).mono ?_; rintro e w1 ⟨rfl, rfl⟩; have ht1 := trivial))
    all_goals
     have HB3 := Lib.hid hb3
     obtain ⟨g4, g6⟩ := FK.out w3 bl
     go_wp2_with fail
     refine (CN.out _ bl).mono ?_
     rintro e w5 ⟨rfl, hb5⟩
     go_wp2_with fail
     go_ret
     exact ⟨rfl, by have HBB := HB3.out; exact bl⟩
  · obtain ⟨w1', hv1⟩ : ∃ v, dtE x.up = v := ⟨_, rfl⟩
    obtain ⟨w2', hv2⟩ : ∃ v, dtE x.dn = v := ⟨_, rfl⟩
    rw [show fltE x s.sm = orE w1' w2' by rw [HF.out, if_neg hk0, hv1, hv2]]
    have d0 := decide_eq_false hk0
    have CU := Lib.hid (fun W (hW : Below w.heap.size w W) => (show Calls Tryz.prog 142 #[.agg #[.int .i64 x.up.op, .int .i64 x.up.a, .int .i64 x.up.b, .int .i64 x.up.n, .slice P.upvp P.upvm P.upvc, .slice P.upwp P.upwm P.upwc]] W (Gives (.int .i64 w1') W) by rw [← hv1]; exact rdcheck_at x.up _ _ P.upvc _ _ P.upwc (HX.out.flt.on hW).uv (HX.out.flt.on hW).uw))
    have CD := Lib.hid (fun W (hW : Below w.heap.size w W) => (show Calls Tryz.prog 142 #[.agg #[.int .i64 x.dn.op, .int .i64 x.dn.a, .int .i64 x.dn.b, .int .i64 x.dn.n, .slice P.dnvp P.dnvm P.dnvc, .slice P.dnwp P.dnwm P.dnwc]] W (Gives (.int .i64 w2') W) by rw [← hv2]; exact rdcheck_at x.dn _ _ P.dnvc _ _ P.dnwc (HX.out.flt.on hW).dv (HX.out.flt.on hW).dw))
    clear HF hv1 hv2 hk0
    go_enter Tryz.func118, Tryz.ntmps118
    go_wp2_with fail
    go_region_held3 (fun W => W.cell? ⟨w.heap.size + 1, 1, none⟩ = some (.int .i64 x.un) ∧ (loadCellsFrom ⟨w.heap.size + 1, 0, none⟩ 0 n17 #[]).run Tryz.prog W = .ok (cRes x P) W) (first | (refine FS.out _ ?_; exact bl; done) | (go_keep; done)) (first | (have t := hb3; go_at_call 32; refine (CF.out _).mono ?_; rintro e w4 ⟨rfl, rfl⟩) | (have t := ht2; go_at_call 141; refine (CS.out _ bl).mono ?_; rintro e w3 ⟨rfl, hb3⟩) | (have t := ht1; go_at_call 34; refine (unless_any u 2 _).mono ?_; rintro e w2 ⟨rfl, rfl⟩; have ht2 := trivial) | (go_at_call 70; refine (CW.out _).mono ?_; rintro e w1 ⟨rfl, rfl⟩; have ht1 := trivial))
    all_goals
     have HB3 := Lib.hid hb3
     obtain ⟨g4, g6⟩ := FK.out w3 bl
     go_wp2_with fail
     refine (CN.out _ bl).mono ?_
     rintro e w5 ⟨rfl, hb5⟩
     have HB5 : Hid (Below ((w.alloc (.cells (cSte s PS) 42)).alloc (.cells (cRes x P) 92)).heap.size ((w.alloc (.cells (cSte s PS) 42)).alloc (.cells (cRes x P) 92)) w5) := Lib.hid (by have HBB := HB3.out; exact bl)
     clear g4 g6
     go_wp2_with fail
     go_region_held3 (fun W => W.cell? ⟨w.heap.size + 1, 5, none⟩ = some (.int .i64 x.up.op) ∧ W.cell? ⟨w.heap.size + 1, 6, none⟩ = some (.int .i64 x.up.a) ∧ W.cell? ⟨w.heap.size + 1, 7, none⟩ = some (.int .i64 x.up.b) ∧ W.cell? ⟨w.heap.size + 1, 8, none⟩ = some (.int .i64 x.up.n) ∧ W.cell? ⟨w.heap.size + 1, 9, none⟩ = some (.slice P.upvp P.upvm P.upvc) ∧ W.cell? ⟨w.heap.size + 1, 10, none⟩ = some (.slice P.upwp P.upwm P.upwc) ∧ W.cell? ⟨w.heap.size + 1, 11, none⟩ = some (.int .i64 x.dn.op) ∧ W.cell? ⟨w.heap.size + 1, 12, none⟩ = some (.int .i64 x.dn.a) ∧ W.cell? ⟨w.heap.size + 1, 13, none⟩ = some (.int .i64 x.dn.b) ∧ W.cell? ⟨w.heap.size + 1, 14, none⟩ = some (.int .i64 x.dn.n) ∧ W.cell? ⟨w.heap.size + 1, 15, none⟩ = some (.slice P.dnvp P.dnvm P.dnvc) ∧ W.cell? ⟨w.heap.size + 1, 16, none⟩ = some (.slice P.dnwp P.dnwm P.dnwc)) (first | (refine FY.out _ ?_; have HBB := HB5.out; exact bl; done) | (go_keep; done)) (first
      | (have t := hb7; go_at_call 32; refine (first_any w1' w2' _).mono ?_; rintro e w8 ⟨rfl, rfl⟩)
      | (have t := hb6; go_at_call 142; refine (CD.out _ (by have HBB := HB5.out; exact bl)).mono ?_; rintro e w7 ⟨rfl, hb7⟩)
      | (go_at_call 142; refine (CU.out _ (by have HBB := HB5.out; exact bl)).mono ?_; rintro e w6 ⟨rfl, hb6⟩))
     all_goals
      have HB7 := Lib.hid hb7
      go_wp2_with fail
      go_ret
      exact ⟨rfl, by have HBB := HB5.out; exact bl⟩
end Go.Proofs.YtaaffmbnhjaebaaGreat.Md
namespace Go.Proofs.YtaaffmbnhjaebaaGreat.Md
set_option linter.unusedVariables false
theorem go_acc {α : Type} {g : α → ByteArray × Int} {l : List α} {k : Nat} {x : α} {acc s0 : List ByteArray} (hx : l[k]? = some x) (h : goE (fun a x => stepN a (g x)) (l.take k) s0 = (0, acc)) (e : (stepN acc (g x)).1 = 0) : goE (fun a x => stepN a (g x)) (l.take (k + 1)) s0 = (0, acc ++ [(g x).1]) := by
 rw [goE_next hx h e]
 exact congrArg (Prod.mk 0) (step_ok e).1
end Go.Proofs.YtaaffmbnhjaebaaGreat.Md
namespace Go.Proofs.YtaaffmbnhjaebaaGreat.Md
open Go.RowKit
open Go.Proofs.YtaaffmbnhjaebaaGreat.Na (Strs)
open Go.Proofs.YtaaffmbnhjaebaaGreat.Ex (Gives)
set_option maxHeartbeats 4000000
set_option linter.unusedVariables false
theorem rnamed_bf {U W W2 : World} {v : Value} {p : Option Addr} {m c : Nat} {acc : List ByteArray} {s : ByteArray} {e : Int} (he : decE acc s = e) (hs : s.size ≤ 9223372036854775807) (h : ∀ W2, Below W.heap.size W W2 → Strs W2 p m acc) (hb : Below W.heap.size W W2) : Calls Tryz.prog 36 #[.string s, .slice p m c] W2 (Gives (.int .i64 e) W2) := by
 rw [← he]
 exact rnamed_any s p m c acc W2 hs (h W2 hb) fun W3 h3 => h W3 (hb.trans (h3.mono hb.size))
end Go.Proofs.YtaaffmbnhjaebaaGreat.Md
namespace Go.Proofs.YtaaffmbnhjaebaaGreat.Sm
open Go.RowKit
open Go.Proofs.YtaaffmbnhjaebaaGreat.Na (bs)
open Go.Proofs.YtaaffmbnhjaebaaGreat.Ex (Ex In Gives emp_yes emp_no)
set_option maxHeartbeats 2000000
set_option linter.unusedVariables false
def fm (o : Int) : Array Value := #[.bool (uN o), .bool (uO o), .bool (uE o), .bool (uF o), .bool (uA o), .bool (uD o), .bool (uG o), .bool (uB o), .bool (uL o)]
theorem fm_no {o : Int} (h : o < 1 ∨ 18 < o) : fm o = #[.bool false, .bool false, .bool false, .bool false, .bool false, .bool false, .bool false, .bool false, .bool false] := by
 unfold fm uN uO uE uF uA uD uG uB uL
 have e1 : decide (o = 1 ∨ o = 2 ∨ o = 6 ∨ o = 7 ∨ o = 8 ∨ o = 9 ∨ o = 10 ∨ o = 11 ∨ o = 12 ∨ o = 13 ∨ o = 14 ∨ o = 15 ∨ o = 16 ∨ o = 17) = false := decide_eq_false (by omega)
 have e2 : decide (o = 2 ∨ o = 9 ∨ o = 13) = false := decide_eq_false (by omega)
 have e3 : decide (o = 1 ∨ o = 3 ∨ o = 4 ∨ o = 5 ∨ o = 6 ∨ o = 7 ∨ o = 8 ∨ o = 12 ∨ o = 13 ∨ o = 14 ∨ o = 15 ∨ o = 16 ∨ o = 17) = false := decide_eq_false (by omega)
 have e4 : decide (o = 6) = false := decide_eq_false (by omega)
 have e5 : decide (o = 13 ∨ o = 14) = false := decide_eq_false (by omega)
 have e6 : decide (o = 2) = false := decide_eq_false (by omega)
 have e7 : decide (o = 3 ∨ o = 4) = false := decide_eq_false (by omega)
 have e8 : decide (o = 3) = false := decide_eq_false (by omega)
 rw [e1, e2, e3, e4, e5, e6, e7, e8]
theorem zPROfa_3 {p : Prop} (h : p := by simp [results, Tryz.results184, go_sem]) : p := h
theorem zPROfa_0 {p : Prop} (h : p := by
 go_enter Tryz.func184, Tryz.ntmps184
 go_wp2_with fail
 exact bodyPost_ret (v := .tuple #[.agg #[.bool true, .bool false, .bool true, .bool false, .bool false, .bool false, .bool false, .bool false, .bool false], .bool true]) zPROfa_3 rfl ⟨rfl, bl⟩
 ) : p := h
theorem zPROfa_2 {p : Prop} (h : p := by
 go_enter Tryz.func184, Tryz.ntmps184
 go_wp2_with fail
 exact bodyPost_ret (v := .tuple #[.agg #[.bool true, .bool false, .bool false, .bool false, .bool false, .bool false, .bool false, .bool false, .bool false], .bool true]) zPROfa_3 rfl ⟨rfl, bl⟩
 ) : p := h
set_option maxRecDepth 100000 in
theorem rof_any (o : Int) (w : World) : Calls Tryz.prog 184 #[.int .i64 o] w (fun e w' => e = .returned (.tuple #[.agg (fm o), .bool (kn o)]) ∧ Below w.heap.size w w') := by
 by_cases ho : o < 1 ∨ 18 < o
 · have hk : kn o = false := by unfold kn; by_cases h : 1 ≤ o <;> simp [h] <;> omega
   rw [fm_no ho, hk]
   have n1 : (o == 1) = false := beq_eq_false_iff_ne.2 (by omega)
   have n2 : (o == 2) = false := beq_eq_false_iff_ne.2 (by omega)
   have n3 : (o == 3) = false := beq_eq_false_iff_ne.2 (by omega)
   have n4 : (o == 4) = false := beq_eq_false_iff_ne.2 (by omega)
   have n5 : (o == 5) = false := beq_eq_false_iff_ne.2 (by omega)
   have n6 : (o == 6) = false := beq_eq_false_iff_ne.2 (by omega)
   have n7 : (o == 7) = false := beq_eq_false_iff_ne.2 (by omega)
   have n8 : (o == 8) = false := beq_eq_false_iff_ne.2 (by omega)
   have n9 : (o == 9) = false := beq_eq_false_iff_ne.2 (by omega)
   have n10 : (o == 10) = false := beq_eq_false_iff_ne.2 (by omega)
   have n11 : (o == 11) = false := beq_eq_false_iff_ne.2 (by omega)
   have n12 : (o == 12) = false := beq_eq_false_iff_ne.2 (by omega)
   have n13 : (o == 13) = false := beq_eq_false_iff_ne.2 (by omega)
   have n14 : (o == 14) = false := beq_eq_false_iff_ne.2 (by omega)
   have n15 : (o == 15) = false := beq_eq_false_iff_ne.2 (by omega)
   have n16 : (o == 16) = false := beq_eq_false_iff_ne.2 (by omega)
   have n17 : (o == 17) = false := beq_eq_false_iff_ne.2 (by omega)
   have n18 : (o == 18) = false := beq_eq_false_iff_ne.2 (by omega)
   clear ho hk
   go_enter Tryz.func184, Tryz.ntmps184
   go_wp2_with fail
   exact bodyPost_ret (v := .tuple #[.agg #[.bool false, .bool false, .bool false, .bool false, .bool false, .bool false, .bool false, .bool false, .bool false], .bool false]) zPROfa_3 rfl ⟨rfl, bl⟩
 · have h : o = 1 ∨ o = 2 ∨ o = 3 ∨ o = 4 ∨ o = 5 ∨ o = 6 ∨ o = 7 ∨ o = 8 ∨ o = 9 ∨ o = 10 ∨ o = 11 ∨ o = 12 ∨ o = 13 ∨ o = 14 ∨ o = 15 ∨ o = 16 ∨ o = 17 ∨ o = 18 := by omega
   clear ho
   rcases h with rfl | rfl | rfl | rfl | rfl | rfl | rfl | rfl | rfl | rfl | rfl | rfl | rfl | rfl | rfl | rfl | rfl | rfl
   · rw [show fm 1 = #[.bool true, .bool false, .bool true, .bool false, .bool false, .bool false, .bool false, .bool false, .bool false] from rfl, show kn 1 = true from rfl]
     exact zPROfa_0
   · rw [show fm 2 = #[.bool true, .bool true, .bool false, .bool false, .bool false, .bool true, .bool false, .bool false, .bool false] from rfl, show kn 2 = true from rfl]
     go_enter Tryz.func184, Tryz.ntmps184
     go_wp2_with fail
     exact bodyPost_ret (v := .tuple #[.agg #[.bool true, .bool true, .bool false, .bool false, .bool false, .bool true, .bool false, .bool false, .bool false], .bool true]) zPROfa_3 rfl ⟨rfl, bl⟩
   · rw [show fm 3 = #[.bool false, .bool false, .bool true, .bool false, .bool false, .bool false, .bool false, .bool true, .bool true] from rfl, show kn 3 = true from rfl]
     go_enter Tryz.func184, Tryz.ntmps184
     go_wp2_with fail
     exact bodyPost_ret (v := .tuple #[.agg #[.bool false, .bool false, .bool true, .bool false, .bool false, .bool false, .bool false, .bool true, .bool true], .bool true]) zPROfa_3 rfl ⟨rfl, bl⟩
   · rw [show fm 4 = #[.bool false, .bool false, .bool true, .bool false, .bool false, .bool false, .bool false, .bool true, .bool false] from rfl, show kn 4 = true from rfl]
     go_enter Tryz.func184, Tryz.ntmps184
     go_wp2_with fail
     exact bodyPost_ret (v := .tuple #[.agg #[.bool false, .bool false, .bool true, .bool false, .bool false, .bool false, .bool false, .bool true, .bool false], .bool true]) zPROfa_3 rfl ⟨rfl, bl⟩
   · rw [show fm 5 = #[.bool false, .bool false, .bool true, .bool false, .bool false, .bool false, .bool false, .bool false, .bool false] from rfl, show kn 5 = true from rfl]
     go_enter Tryz.func184, Tryz.ntmps184
     go_wp2_with fail
     exact bodyPost_ret (v := .tuple #[.agg #[.bool false, .bool false, .bool true, .bool false, .bool false, .bool false, .bool false, .bool false, .bool false], .bool true]) zPROfa_3 rfl ⟨rfl, bl⟩
   · rw [show fm 6 = #[.bool true, .bool false, .bool true, .bool true, .bool false, .bool false, .bool true, .bool false, .bool false] from rfl, show kn 6 = true from rfl]
     go_enter Tryz.func184, Tryz.ntmps184
     go_wp2_with fail
     exact bodyPost_ret (v := .tuple #[.agg #[.bool true, .bool false, .bool true, .bool true, .bool false, .bool false, .bool true, .bool false, .bool false], .bool true]) zPROfa_3 rfl ⟨rfl, bl⟩
   · rw [show fm 7 = #[.bool true, .bool false, .bool true, .bool false, .bool false, .bool false, .bool false, .bool false, .bool false] from rfl, show kn 7 = true from rfl]
     exact zPROfa_0
   · rw [show fm 8 = #[.bool true, .bool false, .bool true, .bool false, .bool false, .bool false, .bool false, .bool false, .bool false] from rfl, show kn 8 = true from rfl]
     exact zPROfa_0
   · rw [show fm 9 = #[.bool true, .bool true, .bool false, .bool false, .bool false, .bool false, .bool false, .bool false, .bool false] from rfl, show kn 9 = true from rfl]
     go_enter Tryz.func184, Tryz.ntmps184
     go_wp2_with fail
     exact bodyPost_ret (v := .tuple #[.agg #[.bool true, .bool true, .bool false, .bool false, .bool false, .bool false, .bool false, .bool false, .bool false], .bool true]) zPROfa_3 rfl ⟨rfl, bl⟩
   · rw [show fm 10 = #[.bool true, .bool false, .bool false, .bool false, .bool false, .bool false, .bool false, .bool false, .bool false] from rfl, show kn 10 = true from rfl]
     exact zPROfa_2
   · rw [show fm 11 = #[.bool true, .bool false, .bool false, .bool false, .bool false, .bool false, .bool false, .bool false, .bool false] from rfl, show kn 11 = true from rfl]
     exact zPROfa_2
   · rw [show fm 12 = #[.bool true, .bool false, .bool true, .bool false, .bool false, .bool false, .bool false, .bool false, .bool false] from rfl, show kn 12 = true from rfl]
     exact zPROfa_0
   · rw [show fm 13 = #[.bool true, .bool true, .bool true, .bool false, .bool true, .bool false, .bool false, .bool false, .bool false] from rfl, show kn 13 = true from rfl]
     go_enter Tryz.func184, Tryz.ntmps184
     go_wp2_with fail
     exact bodyPost_ret (v := .tuple #[.agg #[.bool true, .bool true, .bool true, .bool false, .bool true, .bool false, .bool false, .bool false, .bool false], .bool true]) zPROfa_3 rfl ⟨rfl, bl⟩
   · rw [show fm 14 = #[.bool true, .bool false, .bool true, .bool false, .bool true, .bool false, .bool false, .bool false, .bool false] from rfl, show kn 14 = true from rfl]
     go_enter Tryz.func184, Tryz.ntmps184
     go_wp2_with fail
     exact bodyPost_ret (v := .tuple #[.agg #[.bool true, .bool false, .bool true, .bool false, .bool true, .bool false, .bool false, .bool false, .bool false], .bool true]) zPROfa_3 rfl ⟨rfl, bl⟩
   · rw [show fm 15 = #[.bool true, .bool false, .bool true, .bool false, .bool false, .bool false, .bool false, .bool false, .bool false] from rfl, show kn 15 = true from rfl]
     exact zPROfa_0
   · rw [show fm 16 = #[.bool true, .bool false, .bool true, .bool false, .bool false, .bool false, .bool false, .bool false, .bool false] from rfl, show kn 16 = true from rfl]
     exact zPROfa_0
   · rw [show fm 17 = #[.bool true, .bool false, .bool true, .bool false, .bool false, .bool false, .bool false, .bool false, .bool false] from rfl, show kn 17 = true from rfl]
     exact zPROfa_0
   · rw [show fm 18 = #[.bool false, .bool false, .bool false, .bool false, .bool false, .bool false, .bool false, .bool false, .bool false] from rfl, show kn 18 = true from rfl]
     go_enter Tryz.func184, Tryz.ntmps184
     go_wp2_with fail
     exact bodyPost_ret (v := .tuple #[.agg #[.bool false, .bool false, .bool false, .bool false, .bool false, .bool false, .bool false, .bool false, .bool false], .bool true]) zPROfa_3 rfl ⟨rfl, bl⟩
theorem same_z (e : Ex) : Ex.same e zE = (decide (e.o = 0) && decide (bs e.s = []) && decide (e.n = 0) && decide (e.l.length = 0)) := by
 obtain ⟨o, s, n, l⟩ := e
 unfold zE
 rw [Ex.same]
 show (decide (o = 0) && decide (bs s = []) && decide (n = 0) && Ex.sameL l []) = (decide (o = 0) && decide (bs s = []) && decide (n = 0) && decide (l.length = 0))
 congr 1
 cases l with
 | nil => rfl
 | cons x t => rfl
theorem zPROfa_1 {p : Prop} (h : p := by
 go_enter Tryz.func191, Tryz.ntmps191
 go_wp2_with fail
 go_ret
 exact ⟨by simp, bl⟩
 ) : p := h
set_option maxRecDepth 100000 in
theorem rzero_any (e : Ex) (p : Option Addr) (m c : Nat) (w : World) (h : In w e p m) : Calls Tryz.prog 191 #[.agg #[.int .i64 e.o, .string e.s, .int .i64 e.n, .slice p m c]] w (Gives (.bool (Ex.same e zE)) w) := by
 have hl : e.l.length = m := by
  obtain ⟨o, s, n, l⟩ := e
  exact h.len.1
 rw [same_z, hl]
 clear hl
 by_cases h1 : e.o = 0
 case neg =>
  have t1 : (e.o == 0) = false := beq_eq_false_iff_ne.2 h1
  rw [decide_eq_false h1]
  clear h h1
  exact zPROfa_1
 have t1 : (e.o == 0) = true := beq_iff_eq.2 h1
 rw [decide_eq_true h1]
 by_cases h2 : bs e.s = []
 case neg =>
  have t2 := emp_no h2
  rw [decide_eq_false h2]
  clear h h1 h2
  exact zPROfa_1
 have t2 := emp_yes h2
 rw [decide_eq_true h2]
 by_cases h3 : e.n = 0
 case neg =>
  have t3 : (e.n == 0) = false := beq_eq_false_iff_ne.2 h3
  rw [decide_eq_false h3]
  clear h h1 h2 h3
  exact zPROfa_1
 have t3 : (e.n == 0) = true := beq_iff_eq.2 h3
 rw [decide_eq_true h3]
 by_cases h4 : m = 0
 case neg =>
  have t4 : ((m : Int) == 0) = false := beq_eq_false_iff_ne.2 (by omega)
  rw [decide_eq_false h4]
  clear h h1 h2 h3 h4
  exact zPROfa_1
 have t4 : ((m : Int) == 0) = true := beq_iff_eq.2 (by omega)
 rw [decide_eq_true h4]
 clear h h1 h2 h3 h4
 exact zPROfa_1
end Go.Proofs.YtaaffmbnhjaebaaGreat.Sm
