/-
  Parts of this proof: The contracts of sameResource, sameRoutine, sameStart, sameLaw, sameSite and Same.
-/
import Derived.Test.YtaaffmbnhjaebaaGreatZQFlt
import Derived.Test.YtaaffmbnhjaebaaGreatZQEqu
import Derived.Test.YtaaffmbnhjaebaaGreatZQEqf
namespace Go.Proofs.YtaaffmbnhjaebaaGreat.Md
open Go.RowKit
open Go.Proofs.YtaaffmbnhjaebaaGreat.Sm (St sameSL Ints Lin eqL_list)
open Go.Proofs.YtaaffmbnhjaebaaGreat.Ex (Lo Gives bl_drewN)
set_option maxHeartbeats 4000000
set_option linter.unusedVariables false
attribute [local go_sem] cRes0 cRes1 cRes2 cRes3 cRou0 cRou1 cRou2 cRou3 cSta0 cSta1 cSta2 cSta3 cSta4 cLw0 cLw1 cLw2 cSte0 cSte1 cSte2 cSte3 cSte4 cSte5 cSte6 cSte7 cSte8 cSte9 cSte10 cSte11 cSte12 cMdl0 cMdl1 cMdl2 cMdl3 cRes4 cRes5 cRes6 cRes7 cRes8 cRes9 cRes10 cRes11 cRes12 cRes13 cRes14 cRes15 cRes16
theorem ints_eq (l l2 : List Int) (p : Option Addr) (m c : Nat) (p2 : Option Addr) (m2 c2 : Nat) (w : World) (h : Ints (Lo w.heap.size) w l p m) (h2 : Ints (Lo w.heap.size) w l2 p2 m2) : Calls Tryz.prog 126 #[.slice p m c, .slice p2 m2 c2] w (Gives (.bool (eqB inB l l2)) w) := by
 have e : eqB inB l l2 = decide (l = l2) := by
  rw [Bool.eq_iff_iff, eqB_iff (fun x y => inB_iff (x := x) (y := y)), decide_eq_true_eq]
 have g := Di.equal_any p p2 l.length l2.length c c2 _ _ w h.row h2.row
 rw [eqL_list, h.1, h2.1] at g
 rw [e]
 refine g.mono fun e w' hq => ?_
 obtain ⟨q1, n, q2⟩ := hq
 exact ⟨q1, by rw [q2]; exact bl_drewN (Below.refl _ _)⟩
theorem in_is (a b : Int) : (a == b) = inB a b := by
 unfold inB
 by_cases h : a = b
 · rw [decide_eq_true h, h]; exact beq_self_eq_true b
 · rw [decide_eq_false h]; exact beq_eq_false_iff_ne.2 h
theorem sl_any {w W : World} (hb : Below w.heap.size w W) {l l2 : List St} {p p2 : Option Addr} {m m2 c c2 : Nat} (h : Lin (Lo w.heap.size) w l p m) (h2 : Lin (Lo w.heap.size) w l2 p2 m2) : Calls Tryz.prog 125 #[.slice p m c, .slice p2 m2 c2] W (Gives (.bool (sameSL l l2)) W) :=
 Sm.same_any l l2 p m c p2 m2 c2 W (h.map hb.size fun b g _ => ⟨Nat.lt_of_lt_of_le g hb.size, hb.block b g⟩) (h2.map hb.size fun b g _ => ⟨Nat.lt_of_lt_of_le g hb.size, hb.block b g⟩)
theorem zQSam_0 {p : Prop} (h : p := by
 go_wp2_with fail
 go_ret
 exact ⟨by first | rfl | simp, bl⟩
 ) : p := h
set_option maxRecDepth 100000 in
theorem same_Res_any (x y : Res) (P Q : PRes) (w : World) (hx : ORes (Lo w.heap.size) w x P) (hy : ORes (Lo w.heap.size) w y Q) : Calls Tryz.prog 81 #[.agg (cRes x P), .agg (cRes y Q)] w (Gives (.bool (reB x y)) w) := by
 have HX := Lib.hid hx
 have HY := Lib.hid hy
 have FX := far2 (w := w) 92 92 (cRes x P) (cRes y Q)
 obtain ⟨b1, h1⟩ : ∃ b, txB x.nm y.nm = b := ⟨_, rfl⟩
 obtain ⟨b2, h2⟩ : ∃ b, inB x.un y.un = b := ⟨_, rfl⟩
 obtain ⟨b3, h3⟩ : ∃ b, eqB chB x.sh y.sh = b := ⟨_, rfl⟩
 obtain ⟨b4, h4⟩ : ∃ b, inB x.cy y.cy = b := ⟨_, rfl⟩
 obtain ⟨b5, h5⟩ : ∃ b, fuB x y = b := ⟨_, rfl⟩
 rw [show reB x y = (b1 && b2 && b3 && b4 && b5) by unfold reB; rw [h1, h2, h3, h4, h5]]
 have u1 : (x.nm.toList == y.nm.toList) = b1 := by rw [tx_is]; exact h1
 have u2 : (x.un == y.un) = b2 := by rw [in_is]; exact h2
 have C3 := Lib.hid (fun W (hW : Below w.heap.size w W) => (show Calls Tryz.prog 122 #[.slice P.shp P.shm P.shc, .slice Q.shp Q.shm Q.shc] W (Gives (.bool b3) W) by rw [← h3]; exact equ_Chg (Lib.hid (HX.out.sh.on RChg.map hW)) (Lib.hid (HY.out.sh.on RChg.map hW))))
 have u4 : (x.cy == y.cy) = b4 := by rw [in_is]; exact h4
 have C5 := Lib.hid (fun W (hW : Below w.heap.size w W) => (show Calls Tryz.prog 123 #[.agg (cFlt x P), .agg (cFlt y Q)] W (Gives (.bool b5) W) by rw [← h5]; exact sameFault_any x y P Q W (HX.out.flt.on hW) (HY.out.flt.on hW)))
 clear hx hy h1 h2 h3 h4 h5
 cases b1 with
 | false =>
  go_enter Tryz.func81, Tryz.ntmps81
  exact zQSam_0
 | true =>
  cases b2 with
  | false =>
   go_enter Tryz.func81, Tryz.ntmps81
   exact zQSam_0
  | true =>
   go_enter Tryz.func81, Tryz.ntmps81
   go_wp2_with fail
   refine (C3.out _ bl).mono ?_
   rintro e v1 ⟨rfl, hb1⟩
   cases b3 with
   | false =>
    exact zQSam_0
   | true =>
    cases b4 with
    | false =>
     have q := FX.out v1 bl
     have p3 := q.1.get (cRes3 x P)
     have r3 := q.2.get (cRes3 y Q)
     clear q
     exact zQSam_0
    | true =>
     have q := FX.out v1 bl
     have p3 := q.1.get (cRes3 x P)
     have r3 := q.2.get (cRes3 y Q)
     have p4 := q.1.get (cRes4 x P)
     have r4 := q.2.get (cRes4 y Q)
     have p5 := q.1.get (cRes5 x P)
     have r5 := q.2.get (cRes5 y Q)
     have p6 := q.1.get (cRes6 x P)
     have r6 := q.2.get (cRes6 y Q)
     have p7 := q.1.get (cRes7 x P)
     have r7 := q.2.get (cRes7 y Q)
     have p8 := q.1.get (cRes8 x P)
     have r8 := q.2.get (cRes8 y Q)
     have p9 := q.1.get (cRes9 x P)
     have r9 := q.2.get (cRes9 y Q)
     have p10 := q.1.get (cRes10 x P)
     have r10 := q.2.get (cRes10 y Q)
     have p11 := q.1.get (cRes11 x P)
     have r11 := q.2.get (cRes11 y Q)
     have p12 := q.1.get (cRes12 x P)
     have r12 := q.2.get (cRes12 y Q)
     have p13 := q.1.get (cRes13 x P)
     have r13 := q.2.get (cRes13 y Q)
     have p14 := q.1.get (cRes14 x P)
     have r14 := q.2.get (cRes14 y Q)
     have p15 := q.1.get (cRes15 x P)
     have r15 := q.2.get (cRes15 y Q)
     have p16 := q.1.get (cRes16 x P)
     have r16 := q.2.get (cRes16 y Q)
     clear q
     go_wp2_with fail
     clear p3 r3 p4 r4 p5 r5 p6 r6 p7 r7 p8 r8 p9 r9 p10 r10 p11 r11 p12 r12 p13 r13 p14 r14 p15 r15 p16 r16
     refine (C5.out _ bl).mono ?_
     rintro e v2 ⟨rfl, hb2⟩
     exact zQSam_0
theorem same_Res_of {x y : Res} {c d : Array Value} {W : World} (h1 : RRes (Lo W.heap.size) W x c) (h2 : RRes (Lo W.heap.size) W y d) : Calls Tryz.prog 81 #[.agg c, .agg d] W (Gives (.bool (reB x y)) W) := by
 obtain ⟨P, rfl, k1⟩ := h1
 obtain ⟨Q, rfl, k2⟩ := h2
 exact same_Res_any x y P Q W k1 k2
set_option maxRecDepth 100000 in
theorem same_Rou_any (x y : Rou) (P Q : PRou) (w : World) (hx : ORou (Lo w.heap.size) w x P) (hy : ORou (Lo w.heap.size) w y Q) : Calls Tryz.prog 86 #[.agg (cRou x P), .agg (cRou y Q)] w (Gives (.bool (roB x y)) w) := by
 have HX := Lib.hid hx
 have HY := Lib.hid hy
 have FX := far2 (w := w) 79 79 (cRou x P) (cRou y Q)
 obtain ⟨b1, h1⟩ : ∃ b, txB x.nm y.nm = b := ⟨_, rfl⟩
 obtain ⟨b2, h2⟩ : ∃ b, eqB fdB x.ps y.ps = b := ⟨_, rfl⟩
 obtain ⟨b3, h3⟩ : ∃ b, eqB fdB x.ls y.ls = b := ⟨_, rfl⟩
 obtain ⟨b4, h4⟩ : ∃ b, sameSL x.bo y.bo = b := ⟨_, rfl⟩
 rw [show roB x y = (b1 && b2 && b3 && b4) by unfold roB; rw [h1, h2, h3, h4]]
 have u1 : (x.nm.toList == y.nm.toList) = b1 := by rw [tx_is]; exact h1
 have C2 := Lib.hid (fun W (hW : Below w.heap.size w W) => (show Calls Tryz.prog 124 #[.slice P.psp P.psm P.psc, .slice Q.psp Q.psm Q.psc] W (Gives (.bool b2) W) by rw [← h2]; exact equ_Fld (Lib.hid (HX.out.ps.on RFld.map hW)) (Lib.hid (HY.out.ps.on RFld.map hW))))
 have C3 := Lib.hid (fun W (hW : Below w.heap.size w W) => (show Calls Tryz.prog 124 #[.slice P.lsp P.lsm P.lsc, .slice Q.lsp Q.lsm Q.lsc] W (Gives (.bool b3) W) by rw [← h3]; exact equ_Fld (Lib.hid (HX.out.ls.on RFld.map hW)) (Lib.hid (HY.out.ls.on RFld.map hW))))
 have C4 := Lib.hid (fun W (hW : Below w.heap.size w W) => (show Calls Tryz.prog 125 #[.slice P.bop P.bom P.boc, .slice Q.bop Q.bom Q.boc] W (Gives (.bool b4) W) by rw [← h4]; exact sl_any hW HX.out.bo HY.out.bo))
 clear hx hy h1 h2 h3 h4
 cases b1 with
 | false =>
  go_enter Tryz.func86, Tryz.ntmps86
  exact zQSam_0
 | true =>
  go_enter Tryz.func86, Tryz.ntmps86
  go_wp2_with fail
  refine (C2.out _ bl).mono ?_
  rintro e v1 ⟨rfl, hb1⟩
  cases b2 with
  | false =>
   exact zQSam_0
  | true =>
   have q := FX.out v1 bl
   have p2 := q.1.get (cRou2 x P)
   have r2 := q.2.get (cRou2 y Q)
   clear q
   go_wp2_with fail
   clear p2 r2
   refine (C3.out _ bl).mono ?_
   rintro e v2 ⟨rfl, hb2⟩
   cases b3 with
   | false =>
    exact zQSam_0
   | true =>
    have q := FX.out v2 bl
    have p3 := q.1.get (cRou3 x P)
    have r3 := q.2.get (cRou3 y Q)
    clear q
    go_wp2_with fail
    clear p3 r3
    refine (C4.out _ bl).mono ?_
    rintro e v3 ⟨rfl, hb3⟩
    exact zQSam_0
theorem same_Rou_of {x y : Rou} {c d : Array Value} {W : World} (h1 : RRou (Lo W.heap.size) W x c) (h2 : RRou (Lo W.heap.size) W y d) : Calls Tryz.prog 86 #[.agg c, .agg d] W (Gives (.bool (roB x y)) W) := by
 obtain ⟨P, rfl, k1⟩ := h1
 obtain ⟨Q, rfl, k2⟩ := h2
 exact same_Rou_any x y P Q W k1 k2
theorem zQSam_1 {p : Prop} (h : p := by
 have q := FX.out v1 bl
 have p2 := q.1.get (cSta2 x P)
 have r2 := q.2.get (cSta2 y Q)
 have p3 := q.1.get (cSta3 x P)
 have r3 := q.2.get (cSta3 y Q)
 have p4 := q.1.get (cSta4 x P)
 have r4 := q.2.get (cSta4 y Q)
 clear q
 exact zQSam_0
 ) : p := h
set_option maxRecDepth 100000 in
theorem same_Sta_any (x y : Sta) (P Q : PSta) (w : World) (hx : OSta (Lo w.heap.size) w x P) (hy : OSta (Lo w.heap.size) w y Q) : Calls Tryz.prog 88 #[.agg (cSta x P), .agg (cSta y Q)] w (Gives (.bool (saB x y)) w) := by
 have HX := Lib.hid hx
 have HY := Lib.hid hy
 have FX := far2 (w := w) 105 105 (cSta x P) (cSta y Q)
 obtain ⟨b1, h1⟩ : ∃ b, txB x.ro y.ro = b := ⟨_, rfl⟩
 obtain ⟨b2, h2⟩ : ∃ b, eqB inB x.ar y.ar = b := ⟨_, rfl⟩
 obtain ⟨b3, h3⟩ : ∃ b, inB x.a y.a = b := ⟨_, rfl⟩
 obtain ⟨b4, h4⟩ : ∃ b, inB x.e y.e = b := ⟨_, rfl⟩
 obtain ⟨b5, h5⟩ : ∃ b, inB x.u y.u = b := ⟨_, rfl⟩
 rw [show saB x y = (b1 && b2 && b3 && b4 && b5) by unfold saB; rw [h1, h2, h3, h4, h5]]
 have u1 : (x.ro.toList == y.ro.toList) = b1 := by rw [tx_is]; exact h1
 have C2 := Lib.hid (fun W (hW : Below w.heap.size w W) => (show Calls Tryz.prog 126 #[.slice P.arp P.arm P.arc, .slice Q.arp Q.arm Q.arc] W (Gives (.bool b2) W) by rw [← h2]; exact ints_eq _ _ _ _ _ _ _ _ W (Ints.on hW HX.out.ar) (Ints.on hW HY.out.ar)))
 have u3 : (x.a == y.a) = b3 := by rw [in_is]; exact h3
 have u4 : (x.e == y.e) = b4 := by rw [in_is]; exact h4
 have u5 : (x.u == y.u) = b5 := by rw [in_is]; exact h5
 clear hx hy h1 h2 h3 h4 h5
 cases b1 with
 | false =>
  go_enter Tryz.func88, Tryz.ntmps88
  exact zQSam_0
 | true =>
  go_enter Tryz.func88, Tryz.ntmps88
  go_wp2_with fail
  refine (C2.out _ bl).mono ?_
  rintro e v1 ⟨rfl, hb1⟩
  cases b2 with
  | false =>
   exact zQSam_0
  | true =>
   cases b3 with
   | false =>
    have q := FX.out v1 bl
    have p2 := q.1.get (cSta2 x P)
    have r2 := q.2.get (cSta2 y Q)
    clear q
    exact zQSam_0
   | true =>
    cases b4 with
    | false =>
     have q := FX.out v1 bl
     have p2 := q.1.get (cSta2 x P)
     have r2 := q.2.get (cSta2 y Q)
     have p3 := q.1.get (cSta3 x P)
     have r3 := q.2.get (cSta3 y Q)
     clear q
     exact zQSam_0
    | true =>
     cases b5 with
     | false =>
      exact zQSam_1
     | true =>
      exact zQSam_1
theorem same_Sta_of {x y : Sta} {c d : Array Value} {W : World} (h1 : RSta (Lo W.heap.size) W x c) (h2 : RSta (Lo W.heap.size) W y d) : Calls Tryz.prog 88 #[.agg c, .agg d] W (Gives (.bool (saB x y)) W) := by
 obtain ⟨P, rfl, k1⟩ := h1
 obtain ⟨Q, rfl, k2⟩ := h2
 exact same_Sta_any x y P Q W k1 k2
set_option maxRecDepth 100000 in
theorem same_Lw_any (x y : Lw) (P Q : PLw) (w : World) (hx : OLw (Lo w.heap.size) w x P) (hy : OLw (Lo w.heap.size) w y Q) : Calls Tryz.prog 90 #[.agg (cLw x P), .agg (cLw y Q)] w (Gives (.bool (lwB x y)) w) := by
 have HX := Lib.hid hx
 have HY := Lib.hid hy
 have FX := far2 (w := w) 57 57 (cLw x P) (cLw y Q)
 obtain ⟨b1, h1⟩ : ∃ b, txB x.nm y.nm = b := ⟨_, rfl⟩
 obtain ⟨b2, h2⟩ : ∃ b, eqB tmB x.ts y.ts = b := ⟨_, rfl⟩
 obtain ⟨b3, h3⟩ : ∃ b, inB x.tt y.tt = b := ⟨_, rfl⟩
 rw [show lwB x y = (b1 && b2 && b3) by unfold lwB; rw [h1, h2, h3]]
 have u1 : (x.nm.toList == y.nm.toList) = b1 := by rw [tx_is]; exact h1
 have C2 := Lib.hid (fun W (hW : Below w.heap.size w W) => (show Calls Tryz.prog 127 #[.slice P.tsp P.tsm P.tsc, .slice Q.tsp Q.tsm Q.tsc] W (Gives (.bool b2) W) by rw [← h2]; exact equ_Trm (Lib.hid (HX.out.ts.on RTrm.map hW)) (Lib.hid (HY.out.ts.on RTrm.map hW))))
 have u3 : (x.tt == y.tt) = b3 := by rw [in_is]; exact h3
 clear hx hy h1 h2 h3
 cases b1 with
 | false =>
  go_enter Tryz.func90, Tryz.ntmps90
  exact zQSam_0
 | true =>
  go_enter Tryz.func90, Tryz.ntmps90
  go_wp2_with fail
  refine (C2.out _ bl).mono ?_
  rintro e v1 ⟨rfl, hb1⟩
  cases b2 with
  | false =>
   exact zQSam_0
  | true =>
   cases b3 with
   | false =>
    have q := FX.out v1 bl
    have p2 := q.1.get (cLw2 x P)
    have r2 := q.2.get (cLw2 y Q)
    clear q
    exact zQSam_0
   | true =>
    have q := FX.out v1 bl
    have p2 := q.1.get (cLw2 x P)
    have r2 := q.2.get (cLw2 y Q)
    clear q
    exact zQSam_0
theorem same_Lw_of {x y : Lw} {c d : Array Value} {W : World} (h1 : RLw (Lo W.heap.size) W x c) (h2 : RLw (Lo W.heap.size) W y d) : Calls Tryz.prog 90 #[.agg c, .agg d] W (Gives (.bool (lwB x y)) W) := by
 obtain ⟨P, rfl, k1⟩ := h1
 obtain ⟨Q, rfl, k2⟩ := h2
 exact same_Lw_any x y P Q W k1 k2
set_option maxRecDepth 100000 in
theorem same_Ste_any (x y : Ste) (P Q : PSte) (w : World) (hx : OSte (Lo w.heap.size) w x P) (hy : OSte (Lo w.heap.size) w y Q) : Calls Tryz.prog 47 #[.agg (cSte x P), .agg (cSte y Q)] w (Gives (.bool (siB x y)) w) := by
 have HX := Lib.hid hx
 have HY := Lib.hid hy
 have FX := far2 (w := w) 42 42 (cSte x P) (cSte y Q)
 obtain ⟨b1, h1⟩ : ∃ b, txB x.nm y.nm = b := ⟨_, rfl⟩
 obtain ⟨b2, h2⟩ : ∃ b, eqB vaB x.va y.va = b := ⟨_, rfl⟩
 obtain ⟨b3, h3⟩ : ∃ b, eqB reB x.rs y.rs = b := ⟨_, rfl⟩
 obtain ⟨b4, h4⟩ : ∃ b, eqB soB x.st y.st = b := ⟨_, rfl⟩
 obtain ⟨b5, h5⟩ : ∃ b, eqB blB x.be y.be = b := ⟨_, rfl⟩
 obtain ⟨b6, h6⟩ : ∃ b, eqB txB x.qu y.qu = b := ⟨_, rfl⟩
 obtain ⟨b7, h7⟩ : ∃ b, eqB txB x.sm y.sm = b := ⟨_, rfl⟩
 obtain ⟨b8, h8⟩ : ∃ b, eqB txB x.ta y.ta = b := ⟨_, rfl⟩
 obtain ⟨b9, h9⟩ : ∃ b, eqB txB x.le y.le = b := ⟨_, rfl⟩
 obtain ⟨b10, h10⟩ : ∃ b, eqB txB x.co y.co = b := ⟨_, rfl⟩
 obtain ⟨b11, h11⟩ : ∃ b, eqB roB x.ro y.ro = b := ⟨_, rfl⟩
 obtain ⟨b12, h12⟩ : ∃ b, eqB saB x.ss y.ss = b := ⟨_, rfl⟩
 obtain ⟨b13, h13⟩ : ∃ b, eqB lwB x.la y.la = b := ⟨_, rfl⟩
 rw [show siB x y = (b1 && b2 && b3 && b4 && b5 && b6 && b7 && b8 && b9 && b10 && b11 && b12 && b13) by unfold siB; rw [h1, h2, h3, h4, h5, h6, h7, h8, h9, h10, h11, h12, h13]]
 have u1 : (x.nm.toList == y.nm.toList) = b1 := by rw [tx_is]; exact h1
 have C2 := Lib.hid (fun W (hW : Below w.heap.size w W) => (show Calls Tryz.prog 45 #[.slice P.vap P.vam P.vac, .slice Q.vap Q.vam Q.vac] W (Gives (.bool b2) W) by rw [← h2]; exact equ_Val (Lib.hid (HX.out.va.on RVal.map hW)) (Lib.hid (HY.out.va.on RVal.map hW))))
 have C3 := Lib.hid (fun W (hW : Below w.heap.size w W) => (show Calls Tryz.prog 80 #[.slice P.rsp P.rsm P.rsc, .slice Q.rsp Q.rsm Q.rsc, .func (.func 81) #[] #[]] W (Gives (.bool b3) W) by rw [← h3]; exact equal_Res (Lib.hid (HX.out.rs.on RRes.map hW)) (Lib.hid (HY.out.rs.on RRes.map hW)) (Lib.hid fun x y c d W _ _ h1 h2 _ => same_Res_of h1 h2)))
 have C4 := Lib.hid (fun W (hW : Below w.heap.size w W) => (show Calls Tryz.prog 82 #[.slice P.stp P.stm P.stc, .slice Q.stp Q.stm Q.stc] W (Gives (.bool b4) W) by rw [← h4]; exact equ_Sto (Lib.hid (HX.out.st.on RSto.map hW)) (Lib.hid (HY.out.st.on RSto.map hW))))
 have C5 := Lib.hid (fun W (hW : Below w.heap.size w W) => (show Calls Tryz.prog 83 #[.slice P.bep P.bem P.bec, .slice Q.bep Q.bem Q.bec] W (Gives (.bool b5) W) by rw [← h5]; exact equ_Blt (Lib.hid (HX.out.be.on RBlt.map hW)) (Lib.hid (HY.out.be.on RBlt.map hW))))
 have C6 := Lib.hid (fun W (hW : Below w.heap.size w W) => (show Calls Tryz.prog 84 #[.slice P.qup P.qum P.quc, .slice Q.qup Q.qum Q.quc] W (Gives (.bool b6) W) by rw [← h6]; exact equ_Txt (Lib.hid (HX.out.qu.on RTxt.map hW)) (Lib.hid (HY.out.qu.on RTxt.map hW))))
 have C7 := Lib.hid (fun W (hW : Below w.heap.size w W) => (show Calls Tryz.prog 84 #[.slice P.smp P.smm P.smc, .slice Q.smp Q.smm Q.smc] W (Gives (.bool b7) W) by rw [← h7]; exact equ_Txt (Lib.hid (HX.out.sm.on RTxt.map hW)) (Lib.hid (HY.out.sm.on RTxt.map hW))))
 have C8 := Lib.hid (fun W (hW : Below w.heap.size w W) => (show Calls Tryz.prog 84 #[.slice P.tap P.tam P.tac, .slice Q.tap Q.tam Q.tac] W (Gives (.bool b8) W) by rw [← h8]; exact equ_Txt (Lib.hid (HX.out.ta.on RTxt.map hW)) (Lib.hid (HY.out.ta.on RTxt.map hW))))
 have C9 := Lib.hid (fun W (hW : Below w.heap.size w W) => (show Calls Tryz.prog 84 #[.slice P.lep P.lem P.lec, .slice Q.lep Q.lem Q.lec] W (Gives (.bool b9) W) by rw [← h9]; exact equ_Txt (Lib.hid (HX.out.le.on RTxt.map hW)) (Lib.hid (HY.out.le.on RTxt.map hW))))
 have C10 := Lib.hid (fun W (hW : Below w.heap.size w W) => (show Calls Tryz.prog 84 #[.slice P.cop P.com P.coc, .slice Q.cop Q.com Q.coc] W (Gives (.bool b10) W) by rw [← h10]; exact equ_Txt (Lib.hid (HX.out.co.on RTxt.map hW)) (Lib.hid (HY.out.co.on RTxt.map hW))))
 have C11 := Lib.hid (fun W (hW : Below w.heap.size w W) => (show Calls Tryz.prog 85 #[.slice P.rop P.rom P.roc, .slice Q.rop Q.rom Q.roc, .func (.func 86) #[] #[]] W (Gives (.bool b11) W) by rw [← h11]; exact equal_Rou (Lib.hid (HX.out.ro.on RRou.map hW)) (Lib.hid (HY.out.ro.on RRou.map hW)) (Lib.hid fun x y c d W _ _ h1 h2 _ => same_Rou_of h1 h2)))
 have C12 := Lib.hid (fun W (hW : Below w.heap.size w W) => (show Calls Tryz.prog 87 #[.slice P.ssp P.ssm P.ssc, .slice Q.ssp Q.ssm Q.ssc, .func (.func 88) #[] #[]] W (Gives (.bool b12) W) by rw [← h12]; exact equal_Sta (Lib.hid (HX.out.ss.on RSta.map hW)) (Lib.hid (HY.out.ss.on RSta.map hW)) (Lib.hid fun x y c d W _ _ h1 h2 _ => same_Sta_of h1 h2)))
 have C13 := Lib.hid (fun W (hW : Below w.heap.size w W) => (show Calls Tryz.prog 89 #[.slice P.lap P.lam P.lac, .slice Q.lap Q.lam Q.lac, .func (.func 90) #[] #[]] W (Gives (.bool b13) W) by rw [← h13]; exact equal_Lw (Lib.hid (HX.out.la.on RLw.map hW)) (Lib.hid (HY.out.la.on RLw.map hW)) (Lib.hid fun x y c d W _ _ h1 h2 _ => same_Lw_of h1 h2)))
 clear hx hy h1 h2 h3 h4 h5 h6 h7 h8 h9 h10 h11 h12 h13
 cases b1 with
 | false =>
  go_enter Tryz.func47, Tryz.ntmps47
  exact zQSam_0
 | true =>
  go_enter Tryz.func47, Tryz.ntmps47
  go_wp2_with fail
  refine (C2.out _ bl).mono ?_
  rintro e v1 ⟨rfl, hb1⟩
  cases b2 with
  | false =>
   exact zQSam_0
  | true =>
   have q := FX.out v1 bl
   have p2 := q.1.get (cSte2 x P)
   have r2 := q.2.get (cSte2 y Q)
   clear q
   go_wp2_with fail
   clear p2 r2
   refine (C3.out _ bl).mono ?_
   rintro e v2 ⟨rfl, hb2⟩
   cases b3 with
   | false =>
    exact zQSam_0
   | true =>
    have q := FX.out v2 bl
    have p3 := q.1.get (cSte3 x P)
    have r3 := q.2.get (cSte3 y Q)
    clear q
    go_wp2_with fail
    clear p3 r3
    refine (C4.out _ bl).mono ?_
    rintro e v3 ⟨rfl, hb3⟩
    cases b4 with
    | false =>
     exact zQSam_0
    | true =>
     have q := FX.out v3 bl
     have p4 := q.1.get (cSte4 x P)
     have r4 := q.2.get (cSte4 y Q)
     clear q
     go_wp2_with fail
     clear p4 r4
     refine (C5.out _ bl).mono ?_
     rintro e v4 ⟨rfl, hb4⟩
     cases b5 with
     | false =>
      exact zQSam_0
     | true =>
      have q := FX.out v4 bl
      have p5 := q.1.get (cSte5 x P)
      have r5 := q.2.get (cSte5 y Q)
      clear q
      go_wp2_with fail
      clear p5 r5
      refine (C6.out _ bl).mono ?_
      rintro e v5 ⟨rfl, hb5⟩
      cases b6 with
      | false =>
       exact zQSam_0
      | true =>
       have q := FX.out v5 bl
       have p6 := q.1.get (cSte6 x P)
       have r6 := q.2.get (cSte6 y Q)
       clear q
       go_wp2_with fail
       clear p6 r6
       refine (C7.out _ bl).mono ?_
       rintro e v6 ⟨rfl, hb6⟩
       cases b7 with
       | false =>
        exact zQSam_0
       | true =>
        have q := FX.out v6 bl
        have p7 := q.1.get (cSte7 x P)
        have r7 := q.2.get (cSte7 y Q)
        clear q
        go_wp2_with fail
        clear p7 r7
        refine (C8.out _ bl).mono ?_
        rintro e v7 ⟨rfl, hb7⟩
        cases b8 with
        | false =>
         exact zQSam_0
        | true =>
         have q := FX.out v7 bl
         have p8 := q.1.get (cSte8 x P)
         have r8 := q.2.get (cSte8 y Q)
         clear q
         go_wp2_with fail
         clear p8 r8
         refine (C9.out _ bl).mono ?_
         rintro e v8 ⟨rfl, hb8⟩
         cases b9 with
         | false =>
          exact zQSam_0
         | true =>
          have q := FX.out v8 bl
          have p9 := q.1.get (cSte9 x P)
          have r9 := q.2.get (cSte9 y Q)
          clear q
          go_wp2_with fail
          clear p9 r9
          refine (C10.out _ bl).mono ?_
          rintro e v9 ⟨rfl, hb9⟩
          cases b10 with
          | false =>
           exact zQSam_0
          | true =>
           have q := FX.out v9 bl
           have p10 := q.1.get (cSte10 x P)
           have r10 := q.2.get (cSte10 y Q)
           clear q
           go_wp2_with fail
           clear p10 r10
           refine (C11.out _ bl).mono ?_
           rintro e v10 ⟨rfl, hb10⟩
           cases b11 with
           | false =>
            exact zQSam_0
           | true =>
            have q := FX.out v10 bl
            have p11 := q.1.get (cSte11 x P)
            have r11 := q.2.get (cSte11 y Q)
            clear q
            go_wp2_with fail
            clear p11 r11
            refine (C12.out _ bl).mono ?_
            rintro e v11 ⟨rfl, hb11⟩
            cases b12 with
            | false =>
             exact zQSam_0
            | true =>
             have q := FX.out v11 bl
             have p12 := q.1.get (cSte12 x P)
             have r12 := q.2.get (cSte12 y Q)
             clear q
             go_wp2_with fail
             clear p12 r12
             refine (C13.out _ bl).mono ?_
             rintro e v12 ⟨rfl, hb12⟩
             exact zQSam_0
theorem same_Ste_of {x y : Ste} {c d : Array Value} {W : World} (h1 : RSte (Lo W.heap.size) W x c) (h2 : RSte (Lo W.heap.size) W y d) : Calls Tryz.prog 47 #[.agg c, .agg d] W (Gives (.bool (siB x y)) W) := by
 obtain ⟨P, rfl, k1⟩ := h1
 obtain ⟨Q, rfl, k2⟩ := h2
 exact same_Ste_any x y P Q W k1 k2
set_option maxRecDepth 100000 in
theorem same_Mdl_any (x y : Mdl) (P Q : PMdl) (w : World) (hx : OMdl (Lo w.heap.size) w x P) (hy : OMdl (Lo w.heap.size) w y Q) : Calls Tryz.prog 23 #[.agg (cMdl x P), .agg (cMdl y Q)] w (Gives (.bool (mdB x y)) w) := by
 have HX := Lib.hid hx
 have HY := Lib.hid hy
 have FX := far2 (w := w) 26 26 (cMdl x P) (cMdl y Q)
 obtain ⟨b1, h1⟩ : ∃ b, txB x.nm y.nm = b := ⟨_, rfl⟩
 obtain ⟨b2, h2⟩ : ∃ b, eqB vaB x.pa y.pa = b := ⟨_, rfl⟩
 obtain ⟨b3, h3⟩ : ∃ b, eqB siB x.si y.si = b := ⟨_, rfl⟩
 obtain ⟨b4, h4⟩ : ∃ b, eqB lkB x.li y.li = b := ⟨_, rfl⟩
 rw [show mdB x y = (b1 && b2 && b3 && b4) by unfold mdB; rw [h1, h2, h3, h4]]
 have u1 : (x.nm.toList == y.nm.toList) = b1 := by rw [tx_is]; exact h1
 have C2 := Lib.hid (fun W (hW : Below w.heap.size w W) => (show Calls Tryz.prog 45 #[.slice P.pap P.pam P.pac, .slice Q.pap Q.pam Q.pac] W (Gives (.bool b2) W) by rw [← h2]; exact equ_Val (Lib.hid (HX.out.pa.on RVal.map hW)) (Lib.hid (HY.out.pa.on RVal.map hW))))
 have C3 := Lib.hid (fun W (hW : Below w.heap.size w W) => (show Calls Tryz.prog 46 #[.slice P.sip P.sim P.sic, .slice Q.sip Q.sim Q.sic, .func (.func 47) #[] #[]] W (Gives (.bool b3) W) by rw [← h3]; exact equal_Ste (Lib.hid (HX.out.si.on RSte.map hW)) (Lib.hid (HY.out.si.on RSte.map hW)) (Lib.hid fun x y c d W _ _ h1 h2 _ => same_Ste_of h1 h2)))
 have C4 := Lib.hid (fun W (hW : Below w.heap.size w W) => (show Calls Tryz.prog 48 #[.slice P.lip P.lim P.lic, .slice Q.lip Q.lim Q.lic] W (Gives (.bool b4) W) by rw [← h4]; exact equ_Lnk (Lib.hid (HX.out.li.on RLnk.map hW)) (Lib.hid (HY.out.li.on RLnk.map hW))))
 clear hx hy h1 h2 h3 h4
 cases b1 with
 | false =>
  go_enter Tryz.func23, Tryz.ntmps23
  exact zQSam_0
 | true =>
  go_enter Tryz.func23, Tryz.ntmps23
  go_wp2_with fail
  refine (C2.out _ bl).mono ?_
  rintro e v1 ⟨rfl, hb1⟩
  cases b2 with
  | false =>
   exact zQSam_0
  | true =>
   have q := FX.out v1 bl
   have p2 := q.1.get (cMdl2 x P)
   have r2 := q.2.get (cMdl2 y Q)
   clear q
   go_wp2_with fail
   clear p2 r2
   refine (C3.out _ bl).mono ?_
   rintro e v2 ⟨rfl, hb2⟩
   cases b3 with
   | false =>
    exact zQSam_0
   | true =>
    have q := FX.out v2 bl
    have p3 := q.1.get (cMdl3 x P)
    have r3 := q.2.get (cMdl3 y Q)
    clear q
    go_wp2_with fail
    clear p3 r3
    refine (C4.out _ bl).mono ?_
    rintro e v3 ⟨rfl, hb3⟩
    exact zQSam_0
end Go.Proofs.YtaaffmbnhjaebaaGreat.Md
