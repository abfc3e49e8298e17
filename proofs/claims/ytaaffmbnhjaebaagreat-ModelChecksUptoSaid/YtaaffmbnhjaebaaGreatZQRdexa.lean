/-
  Parts of this proof: The contract of the reference's declared. The contract of the reference's start. The contract of the reference's term. The contract of the reference's law. The contract of the reference's site.
-/
import Derived.Test.YtaaffmbnhjaebaaGreatZPRFrmxa
import Derived.Test.YtaaffmbnhjaebaaGreatZQRlt
namespace Go.Proofs.YtaaffmbnhjaebaaGreat.Md
open Go.RowKit Go.Maps
open Go.Proofs.YtaaffmbnhjaebaaGreat.Sm (cnL orE)
open Go.Proofs.YtaaffmbnhjaebaaGreat.Ex (Lo Gives)
attribute [local go_sem] cSte1 cSte2 cSte3 cSte4 cSte10
set_option maxHeartbeats 4000000
set_option linter.unusedVariables false
set_option maxRecDepth 100000 in
theorem rdecl_va (x : Ste) (P : PSte) (i : Nat) (y : Val) (w : World) (hx : OSte (Lo w.heap.size) w x P) (hi : x.va[i]? = some y) : Calls Tryz.prog 67 #[.agg (cSte x P), .int .i64 0, .int .i64 (i : Nat)] w (Gives (.int .i64 (valT y)) w) := by
 have HX := Lib.hid hx
 have FX := far (w := w) 42 (cSte x P)
 obtain ⟨hl, hm⟩ := hx.va.len
 obtain ⟨hil, hie⟩ := List.getElem?_eq_some_iff.1 hi
 obtain ⟨b, o, hp, hbG, hG, hcell⟩ := hx.va.rows (by omega)
 obtain ⟨d, hds, hat, hR⟩ := hcell.out i hil
 rw [hie] at hR
 have i0 : (0 : Int) ≤ (i : Int) := by omega
 have i1 : (i : Int) < (P.vam : Int) := by omega
 have i2 : (P.vam : Int) ≤ 9223372036854775807 := by omega
 obtain rfl : d = cVal y := hR
 obtain ⟨tb, ht⟩ : ∃ b, typ y.ty = b := ⟨_, rfl⟩
 obtain ⟨f, hf⟩ : ∃ b, fits y.ty y.n = b := ⟨_, rfl⟩
 rw [show valT y = orE (unl tb 1) (unl f 2) by unfold valT unl; rw [ht, hf]; cases tb <;> cases f <;> rfl]
 have C2 := Lib.hid (fun W => (show Calls Tryz.prog 65 #[.int .i64 y.ty] W (Stay (.bool tb) W) by rw [← ht]; exact typed_any y.ty W))
 have C3 := Lib.hid (fun W => (show Calls Tryz.prog 66 #[.int .i64 y.ty, .int .i64 y.n] W (Stay (.bool f) W) by rw [← hf]; exact rfits_any y.ty y.n W))
 have FS : Hid (∀ W, Below (w.alloc (.cells (cSte x P) 42)).heap.size (w.alloc (.cells (cSte x P) 42)) W → W.cell? ⟨w.heap.size, 1, none⟩ = some (.slice (some ⟨b, o, none⟩) P.vam P.vac) ∧ W.cell? ⟨b, o + i * 3 + 1, none⟩ = some (.int .i64 y.ty) ∧ W.cell? ⟨b, o + i * 3 + 2, none⟩ = some (.int .i64 y.n)) := Lib.hid fun W hb => by
  have h2 := hat.on (show Below w.heap.size w W by exact bl) hG
  exact ⟨by rw [← hp]; exact (FX.out W hb).get (cSte1 x P), h2.get (cVal1 y), h2.get (cVal2 y)⟩
 clear hx hi hl hm hil hie hp hbG hG hcell hds hat ht hf
 go_enter Tryz.func67, Tryz.ntmps67
 go_wp2_with fail
 go_region_held3 (fun W => W.cell? ⟨w.heap.size, 1, none⟩ = some (.slice (some ⟨b, o, none⟩) P.vam P.vac) ∧ W.cell? ⟨b, o + i * 3 + 1, none⟩ = some (.int .i64 y.ty) ∧ W.cell? ⟨b, o + i * 3 + 2, none⟩ = some (.int .i64 y.n)) (first | (refine FS.out _ ?_; exact bl; done) | (go_keep; done)) (first
  | (have t := t4; go_at_call 32; refine (first_any (unl tb 1) (unl f 2) _).mono ?_; rintro e w5 ⟨rfl, rfl⟩)
  | (have t := t3; go_at_call 34; refine (unless_any f 2 _).mono ?_; rintro e w4 ⟨rfl, rfl⟩; have t4 := trivial)
  | (have t := t2; go_at_call 66; refine (C3.out _).mono ?_; rintro e w3 ⟨rfl, rfl⟩; have t3 := trivial)
  | (have t := t1; go_at_call 34; refine (unless_any tb 1 _).mono ?_; rintro e w2 ⟨rfl, rfl⟩; have t2 := trivial)
  | (go_at_call 65; refine (C2.out _).mono ?_; rintro e w1 ⟨rfl, rfl⟩; have t1 := trivial))
 all_goals
  go_wp2_with fail
  go_ret
  exact ⟨rfl, bl⟩
set_option maxRecDepth 100000 in
theorem rdecl_rs (x : Ste) (P : PSte) (i : Nat) (y : Res) (w : World) (hx : OSte (Lo w.heap.size) w x P) (hi : x.rs[i]? = some y) : Calls Tryz.prog 67 #[.agg (cSte x P), .int .i64 1, .int .i64 (i : Nat)] w (Gives (.int .i64 (resT x.sm y)) w) := by
 have HX := Lib.hid hx
 have FX := far (w := w) 42 (cSte x P)
 obtain ⟨hl, hm⟩ := hx.rs.len
 obtain ⟨hil, hie⟩ := List.getElem?_eq_some_iff.1 hi
 obtain ⟨b, o, hp, hbG, hG, hcell⟩ := hx.rs.rows (by omega)
 obtain ⟨d, hds, hat, hR⟩ := hcell.out i hil
 rw [hie] at hR
 have i0 : (0 : Int) ≤ (i : Int) := by omega
 have i1 : (i : Int) < (P.rsm : Int) := by omega
 have i2 : (P.rsm : Int) ≤ 9223372036854775807 := by omega
 obtain ⟨Q, rfl, hQ⟩ := hR
 obtain ⟨n13, hn13⟩ : ∃ n : Nat, 13 = n := ⟨_, rfl⟩
 have hsz13 : ∀ w, (sizeOf 42).run Tryz.prog w = .ok n13 w := fun w => by rw [Tryz.sizeOf42, hn13]
 obtain ⟨n17, hn17⟩ : ∃ n : Nat, 17 = n := ⟨_, rfl⟩
 have hsz17 : ∀ w, (sizeOf 92).run Tryz.prog w = .ok n17 w := fun w => by rw [Tryz.sizeOf92, hn17]
 obtain ⟨v, hv⟩ : ∃ v, resT x.sm y = v := ⟨_, rfl⟩
 rw [hv]
 have CR := Lib.hid (fun W (hW : Below w.heap.size w W) => (show Calls Tryz.prog 118 #[.agg (cSte x P), .agg (cRes y Q)] W (Gives (.int .i64 v) W) by rw [← hv]; exact rresource_any x P y Q W ((HX.out.on hW).sm) (hQ.on hW)))
 have FS : Hid (∀ W, Below (w.alloc (.cells (cSte x P) 42)).heap.size (w.alloc (.cells (cSte x P) 42)) W → W.cell? ⟨w.heap.size, 2, none⟩ = some (.slice (some ⟨b, o, none⟩) P.rsm P.rsc) ∧ (loadCellsFrom ⟨w.heap.size, 0, none⟩ 0 n13 #[]).run Tryz.prog W = .ok (cSte x P) W ∧ (loadCellsFrom ⟨b, o + i * n17, none⟩ 0 n17 #[]).run Tryz.prog W = .ok (cRes y Q) W) := Lib.hid fun W hb => by
  have h2 := hat.on (show Below w.heap.size w W by exact bl) hG
  exact ⟨by rw [← hp]; exact (FX.out W hb).get (cSte2 x P), (FX.out W hb).cell.ldN (by rw [cSte_size]; exact hn13), (h2.at hn17).ldN (by rw [cRes_size]; exact hn17)⟩
 clear hx hi hl hm hil hie hp hbG hG hcell hds hat hn13 hn17 hv hQ
 go_enter Tryz.func67, Tryz.ntmps67
 go_wp2_with fail
 go_region_held3 (fun W => W.cell? ⟨w.heap.size, 2, none⟩ = some (.slice (some ⟨b, o, none⟩) P.rsm P.rsc) ∧ (loadCellsFrom ⟨w.heap.size, 0, none⟩ 0 n13 #[]).run Tryz.prog W = .ok (cSte x P) W ∧ (loadCellsFrom ⟨b, o + i * n17, none⟩ 0 n17 #[]).run Tryz.prog W = .ok (cRes y Q) W) (first | (refine FS.out _ ?_; exact bl; done) | (go_keep; done)) (first
  | (go_at_call 118; refine (CR.out _ bl).mono ?_; rintro e w1 ⟨rfl, hb1⟩))
 all_goals
  have HB1 := Lib.hid hb1
  go_wp2_with fail
  go_ret
  exact ⟨rfl, by have h1 := HB1.out; exact bl⟩
set_option maxRecDepth 100000 in
theorem rdecl_st (x : Ste) (P : PSte) (i : Nat) (y : Sto) (w : World) (hx : OSte (Lo w.heap.size) w x P) (hi : x.st[i]? = some y) : Calls Tryz.prog 67 #[.agg (cSte x P), .int .i64 2, .int .i64 (i : Nat)] w (Gives (.int .i64 (stoT y)) w) := by
 have HX := Lib.hid hx
 have FX := far (w := w) 42 (cSte x P)
 obtain ⟨hl, hm⟩ := hx.st.len
 obtain ⟨hil, hie⟩ := List.getElem?_eq_some_iff.1 hi
 obtain ⟨b, o, hp, hbG, hG, hcell⟩ := hx.st.rows (by omega)
 obtain ⟨d, hds, hat, hR⟩ := hcell.out i hil
 rw [hie] at hR
 have i0 : (0 : Int) ≤ (i : Int) := by omega
 have i1 : (i : Int) < (P.stm : Int) := by omega
 have i2 : (P.stm : Int) ≤ 9223372036854775807 := by omega
 obtain rfl : d = cSto y := hR
 obtain ⟨r, hr⟩ : ∃ b, btw 1 y.rm 1000 = b := ⟨_, rfl⟩
 obtain ⟨p1, hp1⟩ : ∃ b, decide (1 ≤ y.po) = b := ⟨_, rfl⟩
 obtain ⟨p2, hp2⟩ : ∃ b, decide (y.po ≤ 3) = b := ⟨_, rfl⟩
 rw [show stoT y = orE (unl r 2) (unl (p1 && p2) 1) by unfold stoT unl; rw [hr, show btw 1 y.po 3 = (p1 && p2) by unfold btw; rw [hp1, hp2]]; cases r <;> cases p1 <;> cases p2 <;> rfl]
 have CW := Lib.hid (fun W => within_gives hr W)
 have h2 := hat.on (show Below w.heap.size w (w.alloc (.cells (cSte x P) 42)) by exact bl) hG
 have g3 : (w.alloc (.cells (cSte x P) 42)).cell? ⟨w.heap.size, 3, none⟩ = some (.slice (some ⟨b, o, none⟩) P.stm P.stc) := by rw [← hp]; exact (FX.out _ (Below.refl _ _)).get (cSte3 x P)
 have a1 := h2.get (cSto1 y)
 have a2 := h2.get (cSto2 y)
 clear hx hi hl hm hil hie hp hbG hG hcell hds hat hr h2
 cases p1 with
 | false =>
  go_enter Tryz.func67, Tryz.ntmps67
  go_wp2_with fail
  refine (CW.out _).mono ?_
  rintro e w1 ⟨rfl, rfl⟩
  go_wp2_with fail
  refine (unless_any r 2 _).mono ?_
  rintro e w2 ⟨rfl, rfl⟩
  go_wp2_with fail
  refine (unless_any false 1 _).mono ?_
  rintro e w3 ⟨rfl, rfl⟩
  go_wp2_with fail
  refine (first_any (unl r 2) (unl false 1) _).mono ?_
  rintro e w4 ⟨rfl, rfl⟩
  go_wp2_with fail
  go_ret
  exact ⟨rfl, bl⟩
 | true =>
  go_enter Tryz.func67, Tryz.ntmps67
  go_wp2_with fail
  refine (CW.out _).mono ?_
  rintro e w1 ⟨rfl, rfl⟩
  go_wp2_with fail
  refine (unless_any r 2 _).mono ?_
  rintro e w2 ⟨rfl, rfl⟩
  go_wp2_with fail
  try rw [hp2]
  refine (unless_any p2 1 _).mono ?_
  rintro e w3 ⟨rfl, rfl⟩
  go_wp2_with fail
  refine (first_any (unl r 2) (unl p2 1) _).mono ?_
  rintro e w4 ⟨rfl, rfl⟩
  go_wp2_with fail
  go_ret
  exact ⟨by simp, bl⟩
set_option maxRecDepth 100000 in
theorem rdecl_be (x : Ste) (P : PSte) (i : Nat) (y : Blt) (w : World) (hx : OSte (Lo w.heap.size) w x P) (hi : x.be[i]? = some y) : Calls Tryz.prog 67 #[.agg (cSte x P), .int .i64 3, .int .i64 (i : Nat)] w (Gives (.int .i64 (bltT y)) w) := by
 have HX := Lib.hid hx
 have FX := far (w := w) 42 (cSte x P)
 obtain ⟨hl, hm⟩ := hx.be.len
 obtain ⟨hil, hie⟩ := List.getElem?_eq_some_iff.1 hi
 obtain ⟨b, o, hp, hbG, hG, hcell⟩ := hx.be.rows (by omega)
 obtain ⟨d, hds, hat, hR⟩ := hcell.out i hil
 rw [hie] at hR
 have i0 : (0 : Int) ≤ (i : Int) := by omega
 have i1 : (i : Int) < (P.bem : Int) := by omega
 have i2 : (P.bem : Int) ≤ 9223372036854775807 := by omega
 obtain rfl : d = cBlt y := hR
 obtain ⟨r1, hr1⟩ : ∃ b, btw 1 y.ln 1000 = b := ⟨_, rfl⟩
 obtain ⟨r2, hr2⟩ : ∃ b, btw 1 y.sp 1000 = b := ⟨_, rfl⟩
 rw [show bltT y = unl (r1 && r2) 2 by unfold bltT unl; rw [hr1, hr2]]
 have C1 := Lib.hid (fun W => within_gives hr1 W)
 have C2 := Lib.hid (fun W => within_gives hr2 W)
 have h2 := hat.on (show Below w.heap.size w (w.alloc (.cells (cSte x P) 42)) by exact bl) hG
 have g3 : (w.alloc (.cells (cSte x P) 42)).cell? ⟨w.heap.size, 4, none⟩ = some (.slice (some ⟨b, o, none⟩) P.bem P.bec) := by rw [← hp]; exact (FX.out _ (Below.refl _ _)).get (cSte4 x P)
 have a1 := h2.get (cBlt1 y)
 have a2 := h2.get (cBlt2 y)
 clear hx hi hl hm hil hie hp hbG hG hcell hds hat hr1 hr2 h2
 cases r1 with
 | false =>
  go_enter Tryz.func67, Tryz.ntmps67
  go_wp2_with fail
  refine (C1.out _).mono ?_
  rintro e w1 ⟨rfl, rfl⟩
  go_wp2_with fail
  refine (unless_any false 2 _).mono ?_
  rintro e w2 ⟨rfl, rfl⟩
  go_wp2_with fail
  go_ret
  exact ⟨rfl, bl⟩
 | true =>
  go_enter Tryz.func67, Tryz.ntmps67
  go_wp2_with fail
  refine (C1.out _).mono ?_
  rintro e w1 ⟨rfl, rfl⟩
  go_wp2_with fail
  refine (C2.out _).mono ?_
  rintro e w2 ⟨rfl, rfl⟩
  go_wp2_with fail
  refine (unless_any r2 2 _).mono ?_
  rintro e w3 ⟨rfl, rfl⟩
  go_wp2_with fail
  go_ret
  exact ⟨by simp, bl⟩
set_option maxRecDepth 100000 in
theorem rdecl_ro (x : Ste) (P : PSte) (i : Nat) (y : Rou) (w : World) (hx : OSte (Lo w.heap.size) w x P) (hi : x.ro[i]? = some y) (hz : ZRou y) (hc : cnL y.bo ≤ 4000000) : Calls Tryz.prog 67 #[.agg (cSte x P), .int .i64 9, .int .i64 (i : Nat)] w (Gives (.int .i64 (rouT y)) w) := by
 have HX := Lib.hid hx
 have FX := far (w := w) 42 (cSte x P)
 obtain ⟨hl, hm⟩ := hx.ro.len
 obtain ⟨hil, hie⟩ := List.getElem?_eq_some_iff.1 hi
 obtain ⟨b, o, hp, hbG, hG, hcell⟩ := hx.ro.rows (by omega)
 obtain ⟨d, hds, hat, hR⟩ := hcell.out i hil
 rw [hie] at hR
 have i0 : (0 : Int) ≤ (i : Int) := by omega
 have i1 : (i : Int) < (P.rom : Int) := by omega
 have i2 : (P.rom : Int) ≤ 9223372036854775807 := by omega
 obtain ⟨Q, rfl, hQ⟩ := hR
 obtain ⟨n4, hn4⟩ : ∃ n : Nat, 4 = n := ⟨_, rfl⟩
 have hsz4 : ∀ w, (sizeOf 79).run Tryz.prog w = .ok n4 w := fun w => by rw [Tryz.sizeOf79, hn4]
 obtain ⟨v, hv⟩ : ∃ v, rouT y = v := ⟨_, rfl⟩
 rw [hv]
 have CR := Lib.hid (fun W (hW : Below w.heap.size w W) => (show Calls Tryz.prog 119 #[.agg (cRou y Q)] W (Gives (.int .i64 v) W) by rw [← hv]; exact rrou_any y Q W (hQ.on hW) hz hc))
 have h2 := hat.on (show Below w.heap.size w (w.alloc (.cells (cSte x P) 42)) by exact bl) hG
 have g3 : (w.alloc (.cells (cSte x P) 42)).cell? ⟨w.heap.size, 10, none⟩ = some (.slice (some ⟨b, o, none⟩) P.rom P.roc) := by rw [← hp]; exact (FX.out _ (Below.refl _ _)).get (cSte10 x P)
 have ld := At.ldN (n := n4) (h2.at hn4) (by rw [cRou_size]; exact hn4)
 clear hx hi hl hm hil hie hp hbG hG hcell hds hat hv h2 hn4 hQ
 go_enter Tryz.func67, Tryz.ntmps67
 go_wp2_with fail
 refine (CR.out _ bl).mono ?_
 rintro e w1 ⟨rfl, hb1⟩
 go_wp2_with fail
 go_ret
 exact ⟨rfl, bl⟩
theorem zQRdea_0 {p : Prop} (h : p := by
 go_enter Tryz.func67, Tryz.ntmps67
 go_wp2_with fail
 go_ret
 exact ⟨rfl, bl⟩
 ) : p := h
set_option maxRecDepth 100000 in
theorem rdecl_tx (x : Ste) (P : PSte) (i j : Nat) (w : World) (h1 : 4 ≤ j) (h2 : j ≤ 8) : Calls Tryz.prog 67 #[.agg (cSte x P), .int .i64 (j : Nat), .int .i64 (i : Nat)] w (Gives (.int .i64 0) w) := by
 have h : j = 4 ∨ j = 5 ∨ j = 6 ∨ j = 7 ∨ j = 8 := by omega
 rcases h with rfl | rfl | rfl | rfl | rfl
 · exact zQRdea_0
 · exact zQRdea_0
 · exact zQRdea_0
 · exact zQRdea_0
 · exact zQRdea_0
end Go.Proofs.YtaaffmbnhjaebaaGreat.Md
namespace Go.Proofs.YtaaffmbnhjaebaaGreat.Md
open Go.RowKit
open Go.Proofs.YtaaffmbnhjaebaaGreat.Sm (Ints)
open Go.Proofs.YtaaffmbnhjaebaaGreat.Ex (Lo Gives block_lt)
attribute [local go_sem] cSta0 cSta1 cSta2 cSta3 cSta4 cSte10
set_option maxHeartbeats 4000000
set_option linter.unusedVariables false
theorem zQRsta_1 {p : Prop} (h : p := by
 rintro e v2 ⟨rfl, rfl⟩
 go_wp2_with fail
 refine (unless_any _ 2 _).mono ?_
 rintro e v3 ⟨rfl, rfl⟩
 go_wp2_with fail
 go_ret
 exact ⟨by rw [← HV2.out]; rfl, by have HBB := HBW.out; exact bl⟩
 ) : p := h
theorem zQRsta_0 {p : Prop} (h : p := by
 go_wp2_with fail
 refine (T1.out _).mono ?_
 rintro e v2 ⟨rfl, rfl⟩
 go_wp2_with fail
 refine (T2.out _).mono ?_
 rintro e v2 ⟨rfl, rfl⟩
 go_wp2_with fail
 refine (T3.out _).mono ?_
 exact zQRsta_1
 ) : p := h
theorem zQRsta_2 {p : Prop} (h : p := by have HBB := HW.out; exact bl) : p := h
set_option maxRecDepth 100000 in
theorem rstart_any (x : Ste) (P : PSte) (d : Sta) (Q : PSta) (w : World) (hS : OSte (Lo w.heap.size) w x P) (hn : NzSte x) (hd : OSta (Lo w.heap.size) w d Q) : Calls Tryz.prog 68 #[.agg (cSte x P), .agg (cSta d Q)] w (Gives (.int .i64 (staE x.ro d)) w) := by
 have hx := hS.ro
 have HX := Lib.hid hx
 have HSS := Lib.hid hS
 have HD := Lib.hid hd
 have FX := far2 (w := w) 42 105 (cSte x P) (cSta d Q)
 obtain ⟨n13, hn13⟩ : ∃ n : Nat, 13 = n := ⟨_, rfl⟩
 have hsz13 : ∀ w, (sizeOf 42).run Tryz.prog w = .ok n13 w := fun w => by rw [Tryz.sizeOf42, hn13]
 have HN13 := Lib.hid hn13
 have ld := fun W => ((far2 (w := W) 42 105 (cSte x P) (cSta d Q)).out _ (Below.refl _ _)).1.cell.ldN HN13.out
 obtain ⟨v, hv⟩ : ∃ v, rouI x.ro d.ro = v := ⟨_, rfl⟩
 have CR := Lib.hid (fun W (hW : Below w.heap.size w W) => (show Calls Tryz.prog 17 #[.agg (cSte x P), .string d.ro] W (Gives (.int .i64 v) W) by rw [← hv]; exact rroutine_any x P d.ro W (HSS.out.on hW) hn))
 by_cases hv0 : v < 0
 · rw [staE_none (by rw [hv]; exact hv0)]
   have t0 := decide_eq_true hv0
   clear hx hd hn13 hv hS hn
   go_enter Tryz.func68, Tryz.ntmps68
   go_wp2_with fail
   refine (CR.out _ bl).mono ?_
   rintro e v1 ⟨rfl, hb1⟩
   go_wp2_with fail
   go_ret
   exact ⟨rfl, bl⟩
 obtain ⟨j, r, hj, hr⟩ := rou_at (ro := x.ro) (s := d.ro) (by rw [hv]; omega)
 rw [hv] at hj
 subst hj
 rw [staE_some hv hr]
 obtain ⟨hrl, hrm⟩ := hx.len
 obtain ⟨hal, ham⟩ : d.ar.length = Q.arm ∧ Q.arm ≤ 9223372036854775807 := ⟨hd.ar.1, hd.ar.2.1⟩
 have hjl : j < x.ro.length := (List.getElem?_eq_some_iff.1 hr).1
 have j0 : (0 : Int) ≤ (j : Int) := by omega
 have j1 : (j : Int) < (P.rom : Int) := by omega
 have j2 : ¬ (j : Int) < 0 := by omega
 obtain ⟨b, o, hp, hbG, hG, hcell⟩ := HX.out.rows (by omega)
 obtain ⟨c, hcs, hat, hR⟩ := hcell.out j hjl
 have hrj : x.ro[j] = r := by rw [List.getElem?_eq_getElem hjl] at hr; exact Option.some.inj hr
 rw [hrj] at hR
 obtain ⟨PR, rfl, hRO⟩ := hR
 have HRO := Lib.hid hRO
 have FP : Hid (∀ W, Below w.heap.size w W → W.cell? ⟨b, o + j * 4 + 1, none⟩ = some (.slice PR.psp PR.psm PR.psc)) := Lib.hid fun W hW => (hat.on hW hG).get (cRou1 r PR)
 have hc10 : (cSte x P)[10]? = some (.slice (some ⟨b, o, none⟩) P.rom P.roc) := by rw [cSte10, hp]
 have FY : Hid (∀ W, Below ((w.alloc (.cells (cSte x P) 42)).alloc (.cells (cSta d Q) 105)).heap.size ((w.alloc (.cells (cSte x P) 42)).alloc (.cells (cSta d Q) 105)) W → W.cell? ⟨w.heap.size, 10, none⟩ = some (.slice (some ⟨b, o, none⟩) P.rom P.roc) ∧ W.cell? ⟨w.heap.size + 1, 1, none⟩ = some (.slice Q.arp Q.arm Q.arc) ∧ W.cell? ⟨w.heap.size + 1, 2, none⟩ = some (.int .i64 d.a) ∧ W.cell? ⟨w.heap.size + 1, 3, none⟩ = some (.int .i64 d.e) ∧ W.cell? ⟨w.heap.size + 1, 4, none⟩ = some (.int .i64 d.u)) := Lib.hid fun W hb => by
  have q := FX.out W hb
  exact ⟨q.1.get hc10, q.2.get (cSta1 d Q), q.2.get (cSta2 d Q), q.2.get (cSta3 d Q), q.2.get (cSta4 d Q)⟩
 have hpl : r.ps.length = PR.psm := hRO.ps.1
 have hpm : PR.psm ≤ 9223372036854775807 := hRO.ps.2.1
 clear hx hS hn hd hn13 hcell hcs hat hRO hp hrj hc10
 by_cases hlen : Q.arm = PR.psm
 rotate_left 1
 · rw [if_neg (by omega)]
   have u1 : ((Q.arm : Int) == (PR.psm : Int)) = false := beq_eq_false_iff_ne.2 (by omega)
   have u2 : ((Q.arm : Int) != (PR.psm : Int)) = true := bne_iff_ne.2 (by omega)
   have u3 : (Q.arm == PR.psm) = false := beq_eq_false_iff_ne.2 hlen
   have u4 : (Q.arm != PR.psm) = true := bne_iff_ne.2 hlen
   clear hrl hrm hal ham hjl hpl hpm hr hv hbG
   go_enter Tryz.func68, Tryz.ntmps68
   go_wp2_with fail
   refine (CR.out _ bl).mono ?_
   rintro e v1 ⟨rfl, hb1⟩
   obtain ⟨q1, q2, q3, q4, q5⟩ := FY.out v1 bl
   have q6 := FP.out v1 bl
   go_wp2_with fail
   go_ret
   exact ⟨rfl, bl⟩
 rw [if_pos (by omega)]
 obtain ⟨V, hV⟩ : ∃ V : Int, (if fitL r.ps d.ar then (if isT d.a && isT d.e && isT d.u && !(decide (d.e = 0) && !decide (d.u = 0)) then 0 else 2) else 2) = V := ⟨_, rfl⟩
 rw [hV]
 have HV := Lib.hid hV
 clear hV
 obtain ⟨m, hm⟩ : ∃ m, Q.arm = m := ⟨_, rfl⟩
 have hm2 : PR.psm = m := by omega
 have HAR : Hid (Ints (Lo w.heap.size) w d.ar Q.arp m) := Lib.hid (by rw [← hm]; exact HD.out.ar)
 have HPS : Hid (Rw 2 RFld (Lo w.heap.size) w r.ps PR.psp m) := Lib.hid (by rw [← hm2]; exact HRO.out.ps)
 have HAL := Lib.hid (show d.ar.length = m by omega)
 have HPL := Lib.hid (show r.ps.length = m by omega)
 rw [hm2] at FP
 rw [hm] at FY
 have m1 : (m : Int) ≤ 9223372036854775807 := by omega
 clear hrl hrm hal ham hjl hpl hpm hr hv hbG hlen hm hm2
 go_enter Tryz.func68, Tryz.ntmps68
 go_wp2_with fail
 refine (CR.out _ bl).mono ?_
 rintro e v1 ⟨rfl, hb1⟩
 obtain ⟨q1, q2, q3, q4, q5⟩ := FY.out v1 bl
 have q6 := FP.out v1 bl
 have HB1 := Lib.hid hb1
 go_wp2_with fail
 go_loopw [7] (fun i wr => ∃ k : Nat, k ≤ m ∧ i = .int .i64 (k : Nat) ∧ Hid (Below v1.heap.size v1 wr) ∧ Hid (fitL (r.ps.take k) (d.ar.take k) = true)) (fun i _ => m - (intOf i).toNat)
 case atStart => exact ⟨0, Nat.zero_le _, rfl, Lib.hid (Below.refl _ _), Lib.hid rfl⟩
 case round =>
  obtain ⟨k, hk, rfl, HW, HA⟩ := hrel
  have HBW : Hid (Below w.heap.size w wr) := Lib.hid zQRsta_2
  have k0 : (0 : Int) ≤ (k : Int) := by omega
  clear q1 q2 q3 q4 q5 q6
  rcases Nat.lt_or_ge k m with h | h
  · have k1 : (k : Int) < (m : Int) := by omega
    have hkl : k < d.ar.length := by rw [HAL.out]; exact h
    have hkp : k < r.ps.length := by rw [HPL.out]; exact h
    have HX1 := Lib.hid (List.getElem?_eq_getElem hkl)
    have HX2 := Lib.hid (List.getElem?_eq_getElem hkp)
    obtain ⟨h1, h2, h3 | ⟨b1, o1, hp1, g1, l1, c1⟩⟩ := (HAR.out.map HBW.out.size fun b g _ => ⟨Nat.lt_of_lt_of_le g HBW.out.size, HBW.out.block b g⟩ : Ints (Lo wr.heap.size) wr d.ar Q.arp m)
    · omega
    obtain ⟨b2, o2, hp2, g2, l2, c2⟩ := (HPS.out.below RFld.map HBW.out).rows (by omega)
    obtain ⟨f, hfs, hat, hR⟩ := c2.out k hkp
    have a0 := c1.out k hkl
    obtain ⟨n, hn⟩ : ∃ n, d.ar[k] = n := ⟨_, rfl⟩
    obtain ⟨y, hy⟩ : ∃ y, r.ps[k] = y := ⟨_, rfl⟩
    rw [hn] at a0 HX1
    rw [hy] at hR HX2
    have a1 := hat.get (r := 1) (v := .int .i64 y.ty) (by rw [hR]; rfl)
    obtain ⟨q, hq⟩ : ∃ q, fits y.ty n = q := ⟨_, rfl⟩
    have CF := Lib.hid (fun W => (show Calls Tryz.prog 66 #[.int .i64 y.ty, .int .i64 n] W (Stay (.bool q) W) by rw [← hq]; exact rfits_any _ _ W))
    obtain ⟨q1, q2, q3, q4, q5⟩ := FY.out wr zQRsta_2
    rw [hp1] at q2
    rw [hp1, hp2]
    have FR : Hid (∀ W, Below wr.heap.size wr W → W.cell? ⟨w.heap.size + 1, 1, none⟩ = some (.slice (some ⟨b1, o1, none⟩) m Q.arc) ∧ W.cell? ⟨b1, o1 + k, none⟩ = some (.int .i64 n) ∧ W.cell? ⟨b2, o2 + k * 2 + 1, none⟩ = some (.int .i64 y.ty)) := Lib.hid fun W hW => ⟨(hW.cell (p := ⟨w.heap.size + 1, 1, none⟩) (block_lt q2)).trans q2, (hW.cell (p := ⟨b1, o1 + k, none⟩) (block_lt a0)).trans a0, (hW.cell (p := ⟨b2, o2 + k * 2 + 1, none⟩) (block_lt a1)).trans a1⟩
    clear q1 q2 q3 q4 q5 a0 a1
    cases q with
    | false =>
     have HN := Lib.hid (fitL_stop HX2.out HX1.out hq)
     clear h1 h2 c1 c2 hfs hat hR hkl hkp hn hy hq g1 g2 hp1 hp2
     go_wp2_with fail
     go_region_held3 (fun W => W.cell? ⟨w.heap.size + 1, 1, none⟩ = some (.slice (some ⟨b1, o1, none⟩) m Q.arc) ∧ W.cell? ⟨b1, o1 + k, none⟩ = some (.int .i64 n) ∧ W.cell? ⟨b2, o2 + k * 2 + 1, none⟩ = some (.int .i64 y.ty)) (first | (refine FR.out _ ?_; exact bl; done) | (go_keep; done)) (first
      | (go_at_call 66; refine (CF.out _).mono ?_; rintro e v2 ⟨rfl, rfl⟩))
     all_goals
      go_wp2_with fail
      go_ret
      exact ⟨by rw [← HV.out, HN.out]; rfl, by have HBB := HBW.out; exact bl⟩
    | true =>
     have HN := Lib.hid (fitL_take HX2.out HX1.out HA.out hq)
     clear h1 h2 c1 c2 hfs hat hR hkl hkp hn hy hq g1 g2
     go_wp2_with fail
     go_region_held3 (fun W => W.cell? ⟨w.heap.size + 1, 1, none⟩ = some (.slice (some ⟨b1, o1, none⟩) m Q.arc) ∧ W.cell? ⟨b1, o1 + k, none⟩ = some (.int .i64 n) ∧ W.cell? ⟨b2, o2 + k * 2 + 1, none⟩ = some (.int .i64 y.ty)) (first | (refine FR.out _ ?_; exact bl; done) | (go_keep; done)) (first
      | (go_at_call 66; refine (CF.out _).mono ?_; rintro e v2 ⟨rfl, rfl⟩))
     all_goals
      go_wp2_with fail
      go_roundw
      case rel => first | exact ⟨k + 1, by omega, by go_num, Lib.hid zQRsta_2, HN⟩ | ((repeat apply Exists.intro); refine And.intro ?_ rfl; exact ⟨k + 1, by omega, by go_num, Lib.hid zQRsta_2, HN⟩)
      case measure => simp [intOf]; omega
  · obtain rfl : m = k := by omega
    have HT := Lib.hid (show fitL r.ps d.ar = true by have h1 := HA.out; rwa [List.take_of_length_le (by rw [HPL.out]; exact Nat.le_refl _), List.take_of_length_le (by rw [HAL.out]; exact Nat.le_refl _)] at h1)
    obtain ⟨t1, h1⟩ : ∃ t, isT d.a = t := ⟨_, rfl⟩
    obtain ⟨t2, h2⟩ : ∃ t, isT d.e = t := ⟨_, rfl⟩
    obtain ⟨t3, h3⟩ : ∃ t, isT d.u = t := ⟨_, rfl⟩
    have HE := HV.out
    rw [HT.out, h1, h2, h3] at HE
    have HV2 := Lib.hid HE
    have T1 := Lib.hid (fun W => within_gives (show btw 0 d.a 1000000000 = t1 from h1) W)
    have T2 := Lib.hid (fun W => within_gives (show btw 0 d.e 1000000000 = t2 from h2) W)
    have T3 := Lib.hid (fun W => within_gives (show btw 0 d.u 1000000000 = t3 from h3) W)
    clear h1 h2 h3 HT HE HV
    obtain ⟨q1, q2, q3, q4, q5⟩ := FY.out wr zQRsta_2
    cases t1 with
    | false =>
     go_wp2_with fail
     refine (T1.out _).mono ?_
     exact zQRsta_1
    | true =>
     cases t2 with
     | false =>
      go_wp2_with fail
      refine (T1.out _).mono ?_
      rintro e v2 ⟨rfl, rfl⟩
      go_wp2_with fail
      refine (T2.out _).mono ?_
      exact zQRsta_1
     | true =>
      cases t3 with
      | false =>
       exact zQRsta_0
      | true =>
       by_cases he : d.e = 0
       · have he1 : (d.e != 0) = false := by rw [he]; rfl
         rw [decide_eq_true he] at HV2
         by_cases hu : d.u = 0
         · have hu1 : (d.u == 0) = true := beq_iff_eq.2 hu
           rw [decide_eq_true hu] at HV2
           clear he hu
           exact zQRsta_0
         · have hu1 : (d.u == 0) = false := beq_eq_false_iff_ne.2 hu
           rw [decide_eq_false hu] at HV2
           clear he hu
           exact zQRsta_0
       · have he1 : (d.e != 0) = true := bne_iff_ne.2 he
         rw [decide_eq_false he] at HV2
         clear he
         exact zQRsta_0
end Go.Proofs.YtaaffmbnhjaebaaGreat.Md
namespace Go.Proofs.YtaaffmbnhjaebaaGreat.Md
open Go.RowKit Go.Maps
open Go.Proofs.YtaaffmbnhjaebaaGreat.Na (bs_inj)
open Go.Proofs.YtaaffmbnhjaebaaGreat.Sm (nE orE)
open Go.Proofs.YtaaffmbnhjaebaaGreat.Ex (Lo Gives)
attribute [local go_sem] cTrm0 cTrm1 cTrm2
set_option maxHeartbeats 4000000
set_option linter.unusedVariables false
theorem trm_unl {K V : ByteArray} {co : Int} {r : Bool} : (if K = nE then 1 else if V = K then (if co = 0 then 2 else if r then 0 else 2) else (5 : Int)) = orE (orE (unl (!decide (K = nE)) 1) (unl (decide (V = K)) 5)) (unl (r && !decide (co = 0)) 2) := by
 by_cases h1 : K = nE
 · rw [if_pos h1, decide_eq_true h1]; rfl
 rw [if_neg h1, decide_eq_false h1]
 by_cases h2 : V = K
 · rw [if_pos h2, decide_eq_true h2]
   by_cases h3 : co = 0
   · rw [if_pos h3, decide_eq_true h3]; cases r <;> rfl
   · rw [if_neg h3, decide_eq_false h3]; cases r <;> rfl
 · rw [if_neg h2, decide_eq_false h2]; rfl
set_option maxRecDepth 100000 in
theorem rterm_any (x : Ste) (P : PSte) (t : Trm) (w : World) (hx : OSte (Lo w.heap.size) w x P) (hn : NzSte x) : Calls Tryz.prog 120 #[.agg (cSte x P), .agg (cTrm t)] w (Gives (.int .i64 (trmE x t)) w) := by
 have HX := Lib.hid hx
 have FX := far2 (w := w) 42 54 (cSte x P) (cTrm t)
 obtain ⟨n13, hn13⟩ : ∃ n : Nat, 13 = n := ⟨_, rfl⟩
 have hsz13 : ∀ w, (sizeOf 42).run Tryz.prog w = .ok n13 w := fun w => by rw [Tryz.sizeOf42, hn13]
 have FS : Hid (∀ W, Below ((w.alloc (.cells (cSte x P) 42)).alloc (.cells (cTrm t) 54)).heap.size ((w.alloc (.cells (cSte x P) 42)).alloc (.cells (cTrm t) 54)) W → (loadCellsFrom ⟨w.heap.size, 0, none⟩ 0 n13 #[]).run Tryz.prog W = .ok (cSte x P) W ∧ W.cell? ⟨w.heap.size + 1, 2, none⟩ = some (.string t.nm)) := Lib.hid fun W hb => ⟨(FX.out W hb).1.cell.ldN (by rw [cSte_size]; exact hn13), (FX.out W hb).2.get (cTrm2 t)⟩
 have FK : Hid (∀ W, Below ((w.alloc (.cells (cSte x P) 42)).alloc (.cells (cTrm t) 54)).heap.size ((w.alloc (.cells (cSte x P) 42)).alloc (.cells (cTrm t) 54)) W → W.cell? ⟨w.heap.size + 1, 0, none⟩ = some (.int .i64 t.co)) := Lib.hid fun W hb => (FX.out W hb).2.get (cTrm0 t)
 obtain ⟨K, hKv⟩ : ∃ v, cntK t.wh = v := ⟨_, rfl⟩
 obtain ⟨V, hV⟩ : ∃ v, kindV x t.nm = v := ⟨_, rfl⟩
 obtain ⟨r, hr⟩ : ∃ v, btw (-1000) t.co 1000 = v := ⟨_, rfl⟩
 have HKV := Lib.hid hKv
 have CK := Lib.hid (fun W (hW : Below w.heap.size w W) => (show Calls Tryz.prog 19 #[.agg (cSte x P), .string t.nm] W (Gives (.string V) W) by rw [← hV]; exact rkind_any x P t.nm W (HX.out.on hW) hn))
 have CB := Lib.hid (fun W => within_gives hr W)
 obtain ⟨b1, h1⟩ : ∃ b, decide (K = nE) = b := ⟨_, rfl⟩
 obtain ⟨b2, h2⟩ : ∃ b, decide (V = K) = b := ⟨_, rfl⟩
 obtain ⟨b3, h3⟩ : ∃ b, decide (t.co = 0) = b := ⟨_, rfl⟩
 have HE : Hid (trmE x t = orE (orE (unl (!b1) 1) (unl b2 5)) (unl (r && !b3) 2)) := Lib.hid (by unfold trmE; rw [hKv, hV, hr, trm_unl, h1, h2, h3])
 have u1 : K.toList.isEmpty = b1 := by rw [emp_is, ← h1]; unfold txB; rw [decide_eq_decide]; exact ⟨bs_inj, fun e => by rw [e]⟩
 have u2 : (K.toList == (⟨#[]⟩ : ByteArray).toList) = b1 := by rw [tx_eq]; exact h1
 have u4 : (K.toList != (⟨#[]⟩ : ByteArray).toList) = !b1 := by rw [bne, u2]
 have u3 : (V.toList == K.toList) = b2 := by rw [tx_eq]; exact h2
 have u5 : (t.co == 0) = b3 := by rw [← h3]; rfl
 have u6 : (t.co != 0) = !b3 := by rw [bne, u5]
 obtain ⟨wh, hwh⟩ : ∃ v, t.wh = v := ⟨_, rfl⟩
 have hc1 : ((w.alloc (.cells (cSte x P) 42)).alloc (.cells (cTrm t) 54)).cell? ⟨w.heap.size + 1, 1, none⟩ = some (.string wh) := by rw [← hwh]; exact (FX.out _ (Below.refl _ _)).2.get (cTrm1 t)
 rw [hwh] at HKV
 clear hx hn hn13 hKv hV hr h1 h2 h3 hwh
 go_enter Tryz.func120, Tryz.ntmps120
 go_upto_block 0 with fail
 go_cut [5] (fun v wr => v = .string K ∧ wr = ((w.alloc (.cells (cSte x P) 42)).alloc (.cells (cTrm t) 54)))
 case first =>
  clear u1 u2 u3 u4 u5 u6
  go_wp2_with fail
  all_goals first
   | exact (clash (by assumption) (by assumption)).elim
   | (go_meet; refine ⟨?_, rfl⟩; rw [← HKV.out, is_lit (s := wh) (by assumption)]; try rfl)
   | (go_meet; refine ⟨?_, rfl⟩; have n1 : ¬ wh = tCrd := not_lit (by assumption); have n2 : ¬ wh = tEnd := not_lit (by assumption); have n3 : ¬ wh = tIns := not_lit (by assumption); have n4 : ¬ wh = tStd := not_lit (by assumption); have n5 : ¬ wh = tEnt := not_lit (by assumption); have n6 : ¬ wh = tLft := not_lit (by assumption); have n7 : ¬ wh = tCtd := not_lit (by assumption); rw [← HKV.out, cnt_none n1 n2 n3 n4 n5 n6 n7]; try rfl)
 case rest =>
 obtain ⟨rfl, rfl⟩ := hcut
 clear hc1 HKV
 clear u2
 cases b1 <;> cases b2
 all_goals
  try simp only [Bool.not_false, Bool.not_true] at u4
  go_wp2_with fail
  go_region_held3 (fun W => (loadCellsFrom ⟨w.heap.size, 0, none⟩ 0 n13 #[]).run Tryz.prog W = .ok (cSte x P) W ∧ W.cell? ⟨w.heap.size + 1, 2, none⟩ = some (.string t.nm)) (first | (refine FS.out _ ?_; exact bl; done) | (go_keep; done)) (first
   | (have t := t3; go_at_call 32; refine (first_any _ _ _).mono ?_; rintro e w4 ⟨rfl, rfl⟩)
   | (have t := hb2; go_at_call 34; refine (unless_any _ 5 _).mono ?_; rintro e w3 ⟨rfl, rfl⟩; have t3 := trivial)
   | (have t := t1; go_at_call 19; refine (CK.out _ bl).mono ?_; rintro e w2 ⟨rfl, hb2⟩)
   | (go_at_call 34; refine (unless_any _ 1 _).mono ?_; rintro e w1 ⟨rfl, rfl⟩; have t1 := trivial))
  all_goals
   have HB2 := Lib.hid hb2
   have q := FK.out w2 bl
   cases r with
   | false =>
    go_wp2_with fail
    refine (CB.out _).mono ?_
    rintro e w5 ⟨rfl, rfl⟩
    go_wp2_with fail
    refine (unless_any _ 2 _).mono ?_
    rintro e w6 ⟨rfl, rfl⟩
    go_wp2_with fail
    refine (first_any _ _ _).mono ?_
    rintro e w7 ⟨rfl, rfl⟩
    go_wp2_with fail
    go_ret
    exact ⟨by rw [HE.out]; rfl, by have h := HB2.out; exact bl⟩
   | true =>
    cases b3 with
    | false =>
     go_wp2_with fail
     refine (CB.out _).mono ?_
     rintro e w5 ⟨rfl, rfl⟩
     go_wp2_with fail
     refine (unless_any _ 2 _).mono ?_
     rintro e w6 ⟨rfl, rfl⟩
     go_wp2_with fail
     refine (first_any _ _ _).mono ?_
     rintro e w7 ⟨rfl, rfl⟩
     go_wp2_with fail
     go_ret
     exact ⟨by rw [HE.out]; rfl, by have h := HB2.out; exact bl⟩
    | true =>
     go_wp2_with fail
     refine (CB.out _).mono ?_
     rintro e w5 ⟨rfl, rfl⟩
     go_wp2_with fail
     refine (unless_any _ 2 _).mono ?_
     rintro e w6 ⟨rfl, rfl⟩
     go_wp2_with fail
     refine (first_any _ _ _).mono ?_
     rintro e w7 ⟨rfl, rfl⟩
     go_wp2_with fail
     go_ret
     exact ⟨by rw [HE.out]; rfl, by have h := HB2.out; exact bl⟩
end Go.Proofs.YtaaffmbnhjaebaaGreat.Md
namespace Go.Proofs.YtaaffmbnhjaebaaGreat.Md
open Go.RowKit Go.Maps
open Go.Proofs.YtaaffmbnhjaebaaGreat.Na (Strs)
open Go.Proofs.YtaaffmbnhjaebaaGreat.Sm (orE orE_yes orE_right orE_assoc)
open Go.Proofs.YtaaffmbnhjaebaaGreat.Ex (Lo Gives block_lt)
attribute [local go_sem] cLw0 cLw1 cLw2
set_option maxHeartbeats 4000000
set_option linter.unusedVariables false
theorem law_unl (x : Ste) (l : Lw) (d : Int) : orE d (lawT x l) = orE (orE (orE (orE d (unl (decide (0 < l.ts.length)) 7)) (unl (decide (l.ts.length ≤ 8)) 6)) (frE (trmE x) l.ts)) (unl (btw (-1000000000000) l.tt 1000000000000) 2) := by
 rw [orE_assoc, orE_assoc, orE_assoc]
 congr 1
 unfold lawT lstE
 by_cases h0 : l.ts.length = 0
 · rw [if_pos h0, decide_eq_false (by omega)]; rfl
 rw [if_neg h0, decide_eq_true (show 0 < l.ts.length by omega), show unl true 7 = 0 from rfl, orE_yes]
 by_cases h8 : 8 < l.ts.length
 · rw [if_pos h8, decide_eq_false (by omega)]; rfl
 · rw [if_neg h8, decide_eq_true (show l.ts.length ≤ 8 by omega), show unl true 6 = 0 from rfl, orE_yes]; rfl
set_option maxRecDepth 100000 in
theorem rlaw_any (x : Ste) (P : PSte) (l : Lw) (Q : PLw) (p : Option Addr) (m c : Nat) (acc : List ByteArray) (w : World) (hx : OSte (Lo w.heap.size) w x P) (hn : NzSte x) (hl : OLw (Lo w.heap.size) w l Q) (hs : l.nm.size ≤ 9223372036854775807) (hst : ∀ W, Below w.heap.size w W → Strs W p m acc) :
 Calls Tryz.prog 69 #[.agg (cSte x P), .agg (cLw l Q), .slice p m c] w (Gives (.int .i64 (orE (decE acc l.nm) (lawT x l))) w) := by
 have HX := Lib.hid hx
 have HH := Lib.hid hl.ts
 obtain ⟨hlm, hm⟩ := hl.ts.len
 have HL := Lib.hid hlm
 have FX := far2 (w := w) 42 57 (cSte x P) (cLw l Q)
 obtain ⟨n13, hn13⟩ : ∃ n : Nat, 13 = n := ⟨_, rfl⟩
 have hsz13 : ∀ w, (sizeOf 42).run Tryz.prog w = .ok n13 w := fun w => by rw [Tryz.sizeOf42, hn13]
 have FS : Hid (∀ W, Below ((w.alloc (.cells (cSte x P) 42)).alloc (.cells (cLw l Q) 57)).heap.size ((w.alloc (.cells (cSte x P) 42)).alloc (.cells (cLw l Q) 57)) W → (loadCellsFrom ⟨w.heap.size, 0, none⟩ 0 n13 #[]).run Tryz.prog W = .ok (cSte x P) W) := Lib.hid fun W hb => (FX.out W hb).1.cell.ldN (by rw [cSte_size]; exact hn13)
 obtain ⟨n, hnn⟩ : ∃ n, Q.tsm = n := ⟨_, rfl⟩
 have FK : Hid (∀ W, Below ((w.alloc (.cells (cSte x P) 42)).alloc (.cells (cLw l Q) 57)).heap.size ((w.alloc (.cells (cSte x P) 42)).alloc (.cells (cLw l Q) 57)) W → W.cell? ⟨w.heap.size + 1, 1, none⟩ = some (.slice Q.tsp n Q.tsc) ∧ W.cell? ⟨w.heap.size + 1, 2, none⟩ = some (.int .i64 l.tt)) := Lib.hid fun W hb => ⟨by rw [← hnn]; exact (FX.out W hb).2.get (cLw1 l Q), (FX.out W hb).2.get (cLw2 l Q)⟩
 have CT := Lib.hid (fun W (hW : Below w.heap.size w W) (t : Trm) => rterm_any x P t W (HX.out.on hW) hn)
 rw [hnn] at HH HL hlm hm
 obtain ⟨d, hd⟩ : ∃ d, decE acc l.nm = d := ⟨_, rfl⟩
 have CN := Lib.hid (fun W (hW : Below w.heap.size w W) => (show Calls Tryz.prog 36 #[.string l.nm, .slice p m c] W (Gives (.int .i64 d) W) by rw [← hd]; exact rnamed_any l.nm p m c acc W hs (hst W hW) fun W2 hW2 => hst W2 (hW.trans (hW2.mono hW.size))))
 obtain ⟨r, hr⟩ : ∃ v, btw (-1000000000000) l.tt 1000000000000 = v := ⟨_, rfl⟩
 have CI := Lib.hid (fun W => (show Calls Tryz.prog 117 #[.int .i64 l.tt] W (Stay (.bool r) W) by rw [← hr]; exact rin_any _ W))
 obtain ⟨b1, h1⟩ : ∃ b, decide (0 < n) = b := ⟨_, rfl⟩
 obtain ⟨b2, h2⟩ : ∃ b, decide (n ≤ 8) = b := ⟨_, rfl⟩
 have u1 : decide ((0 : Int) < (n : Int)) = b1 := by rw [← h1, decide_eq_decide]; omega
 have u2 : decide ((n : Int) ≤ 8) = b2 := by rw [← h2, decide_eq_decide]; omega
 obtain ⟨E0, hE0⟩ : ∃ e, orE (orE d (unl b1 7)) (unl b2 6) = e := ⟨_, rfl⟩
 have HE := Lib.hid (show orE d (lawT x l) = orE (orE E0 (frE (trmE x) l.ts)) (unl r 2) by rw [law_unl, hlm, h1, h2, hE0, hr])
 have CF2 := Lib.hid (fun W => (show Calls Tryz.prog 32 #[.int .i64 (orE d (unl b1 7)), .int .i64 (unl b2 6)] W (Stay (.int .i64 E0) W) by rw [← hE0]; exact first_any _ _ W))
 rw [hd]
 have t3 : (n : Int) ≤ 9223372036854775807 := by omega
 clear hx hn hl hs hst hlm hm hn13 hnn hd hr hE0
 obtain ⟨kk, hkk⟩ : ∃ n : Nat, 3 = n := ⟨_, rfl⟩
 have hsz : ∀ w, (sizeOf 54).run Tryz.prog w = .ok kk w := fun w => by rw [Tryz.sizeOf54, hkk]
 have HKK := Lib.hid hkk
 clear hkk
 go_enter Tryz.func69, Tryz.ntmps69
 go_wp2_with fail
 refine (CN.out _ bl).mono ?_
 rintro e v1 ⟨rfl, hb1⟩
 have HB1 : Hid (Below ((w.alloc (.cells (cSte x P) 42)).alloc (.cells (cLw l Q) 57)).heap.size ((w.alloc (.cells (cSte x P) 42)).alloc (.cells (cLw l Q) 57)) v1) := Lib.hid bl
 obtain ⟨q1, q2⟩ := FK.out v1 HB1.out
 go_wp2_with fail
 try rw [h1]
 refine (unless_any b1 7 _).mono ?_
 rintro e v2 ⟨rfl, rfl⟩
 go_wp2_with fail
 refine (first_any d (unl b1 7) _).mono ?_
 rintro e v3 ⟨rfl, rfl⟩
 go_wp2_with fail
 try rw [h2]
 refine (unless_any b2 6 _).mono ?_
 rintro e v4 ⟨rfl, rfl⟩
 go_wp2_with fail
 refine (CF2.out _).mono ?_
 rintro e v5 ⟨rfl, rfl⟩
 go_wp2_with fail
 clear q1 q2 hb1 u1 u2 h1 h2
 go_loopw [7, 8] (fun s i wr => ∃ k : Nat, k ≤ n ∧ i = .int .i64 (k : Nat) ∧ s = .int .i64 (orE E0 (frE (trmE x) (l.ts.take k))) ∧ Hid (Below ((w.alloc (.cells (cSte x P) 42)).alloc (.cells (cLw l Q) 57)).heap.size ((w.alloc (.cells (cSte x P) 42)).alloc (.cells (cLw l Q) 57)) wr)) (fun _ i _ => n - (intOf i).toNat)
 case atStart => exact ⟨0, Nat.zero_le _, rfl, by rw [List.take_zero, frE, orE_right], HB1⟩
 case round =>
  obtain ⟨k, hk, rfl, rfl, HW⟩ := hrel
  have k0 : (0 : Int) ≤ (k : Int) := by omega
  obtain ⟨q1, q2⟩ := FK.out wr HW.out
  have HBW : Hid (Below w.heap.size w wr) := Lib.hid (by have h := HW.out; exact bl)
  rcases Nat.lt_or_ge k n with h | h
  · have k1 : (k : Int) < (n : Int) := by omega
    have hkl : k < l.ts.length := by rw [HL.out]; exact h
    have hgx := List.getElem?_eq_getElem hkl
    obtain ⟨b, o, hp, hbG, hG, hcell⟩ := (HH.out.below RTrm.map HBW.out).rows (by omega)
    obtain ⟨f, hds, hat, hR⟩ := hcell.out k hkl
    obtain ⟨y, hy⟩ : ∃ y, l.ts[k] = y := ⟨_, rfl⟩
    rw [hy] at hgx hR
    obtain rfl : f = cTrm y := hR
    rw [hp] at q1
    obtain ⟨T, hT⟩ : ∃ v, trmE x y = v := ⟨_, rfl⟩
    obtain ⟨A, hA⟩ : ∃ v, orE E0 (frE (trmE x) (l.ts.take k)) = v := ⟨_, rfl⟩
    have HN := Lib.hid (show orE E0 (frE (trmE x) (l.ts.take (k + 1))) = orE A T by rw [frE_take hgx, ← orE_assoc, hA, hT])
    rw [hA]
    have CT2 := Lib.hid (fun W (hW : Below wr.heap.size wr W) => (show Calls Tryz.prog 120 #[.agg (cSte x P), .agg (cTrm y)] W (Gives (.int .i64 T) W) by rw [← hT]; exact CT.out W (HBW.out.trans (hW.mono HBW.out.size)) y))
    have FR : Hid (∀ W, Below wr.heap.size wr W → (loadCellsFrom ⟨w.heap.size, 0, none⟩ 0 n13 #[]).run Tryz.prog W = .ok (cSte x P) W ∧ W.cell? ⟨w.heap.size + 1, 1, none⟩ = some (.slice (some ⟨b, o, none⟩) n Q.tsc) ∧ (loadCellsFrom ⟨b, o + k * kk, none⟩ 0 kk #[]).run Tryz.prog W = .ok (cTrm y) W) := Lib.hid fun W hW => ⟨FS.out W (by have h := HW.out; exact bl), (hW.cell (p := ⟨w.heap.size + 1, 1, none⟩) (block_lt q1)).trans q1, ((hat.on hW hG).at HKK.out).ldN HKK.out⟩
    clear hcell hds hat hgx hkl hy hT hA hG hbG hp q2
    go_wp2_with fail
    clear q1
    go_region_held3 (fun W => (loadCellsFrom ⟨w.heap.size, 0, none⟩ 0 n13 #[]).run Tryz.prog W = .ok (cSte x P) W ∧ W.cell? ⟨w.heap.size + 1, 1, none⟩ = some (.slice (some ⟨b, o, none⟩) n Q.tsc) ∧ (loadCellsFrom ⟨b, o + k * kk, none⟩ 0 kk #[]).run Tryz.prog W = .ok (cTrm y) W) (first | (refine FR.out _ ?_; exact bl; done) | (go_keep; done)) (first
     | (have t := hb2; go_at_call 32; refine (first_any A T _).mono ?_; rintro e w4 ⟨rfl, rfl⟩)
     | (go_at_call 120; refine (CT2.out _ bl).mono ?_; rintro e w2 ⟨rfl, hb2⟩))
    all_goals
     have HB2 : Hid (Below wr.heap.size wr w2) := Lib.hid bl
     go_wp2_with fail
     go_roundw
     case rel => exact ⟨k + 1, by omega, by go_num, by rw [HN.out], Lib.hid (by have h1 := HW.out; have h2 := HB2.out; exact bl)⟩
     case measure => simp [intOf]; omega
  · obtain rfl : n = k := by omega
    rw [List.take_of_length_le (by rw [HL.out]; exact Nat.le_refl _)]
    obtain ⟨A, hA⟩ : ∃ v, orE E0 (frE (trmE x) l.ts) = v := ⟨_, rfl⟩
    rw [hA] at HE ⊢
    clear hA
    go_wp2_with fail
    refine (CI.out _).mono ?_
    rintro e v6 ⟨rfl, rfl⟩
    go_wp2_with fail
    refine (unless_any r 2 _).mono ?_
    rintro e v7 ⟨rfl, rfl⟩
    go_wp2_with fail
    refine (first_any A (unl r 2) _).mono ?_
    rintro e v8 ⟨rfl, rfl⟩
    go_wp2_with fail
    go_ret
    exact ⟨by rw [HE.out]; rfl, HBW.out⟩
end Go.Proofs.YtaaffmbnhjaebaaGreat.Md
namespace Go.Proofs.YtaaffmbnhjaebaaGreat.Md
open Go.RowKit Go.Maps
open Go.Proofs.YtaaffmbnhjaebaaGreat.Na (Strs)
open Go.Proofs.YtaaffmbnhjaebaaGreat.Sm (cnL orE orE_no orE_yes)
open Go.Proofs.YtaaffmbnhjaebaaGreat.Ex (Lo Gives block_lt)
attribute [local go_sem] cSte11 cSte12
set_option maxHeartbeats 8000000
set_option linter.unusedVariables false
theorem thr_drop {K : List (Nat × List (ByteArray × Int))} {j : Nat} {k : Nat × List (ByteArray × Int)} (hk : K[j]? = some k) (acc : List ByteArray) : frE idE (thr (K.drop j) acc) = orE (eachE stepN k.1 k.2 acc).1 (frE idE (thr (K.drop (j + 1)) (eachE stepN k.1 k.2 acc).2)) := by
 obtain ⟨hj, e⟩ := List.getElem?_eq_some_iff.1 hk
 rw [List.drop_eq_getElem_cons hj, e, thr, frE, idE]
theorem kinds_at {x : Ste} {j : Nat} {k : Nat × List (ByteArray × Int)} (hk : (kinds x)[j]? = some k) : (names x)[j]? = some (k.2.map (·.1)) := by
 rw [← kinds_names, List.getElem?_map, hk]; rfl
theorem kinds_most {x : Ste} {j : Nat} {k : Nat × List (ByteArray × Int)} (hk : (kinds x)[j]? = some k) : k.1 = if j = 9 then 16 else 32 := by
 have hj : j < 10 := (List.getElem?_eq_some_iff.1 hk).1
 have h : j = 0 ∨ j = 1 ∨ j = 2 ∨ j = 3 ∨ j = 4 ∨ j = 5 ∨ j = 6 ∨ j = 7 ∨ j = 8 ∨ j = 9 := by omega
 rcases h with rfl | rfl | rfl | rfl | rfl | rfl | rfl | rfl | rfl | rfl <;> (cases Option.some.inj hk; rfl)
theorem map_at {α β : Type} {f : α → β} {l : List α} {i : Nat} {b : β} (h : (l.map f)[i]? = some b) : ∃ a, l[i]? = some a ∧ f a = b := by
 rw [List.getElem?_map] at h
 exact Option.map_eq_some_iff.1 h
set_option maxRecDepth 100000 in
theorem rdeclared_any (x : Ste) (P : PSte) (w : World) (hx : OSte (Lo w.heap.size) w x P) (hz : ZSte x) (hc : ∀ y ∈ x.ro, cnL y.bo ≤ 4000000) {j i : Nat} {k : Nat × List (ByteArray × Int)} {q : ByteArray × Int} (hk : (kinds x)[j]? = some k) (hq : k.2[i]? = some q) : Calls Tryz.prog 67 #[.agg (cSte x P), .int .i64 (j : Nat), .int .i64 (i : Nat)] w (Gives (.int .i64 q.2) w) := by
 have hj : j < 10 := (List.getElem?_eq_some_iff.1 hk).1
 by_cases h4 : 4 ≤ j ∧ j ≤ 8
 · have h0 : q.2 = 0 := by
    have h : j = 4 ∨ j = 5 ∨ j = 6 ∨ j = 7 ∨ j = 8 := by omega
    rcases h with rfl | rfl | rfl | rfl | rfl <;> (cases Option.some.inj hk; obtain ⟨y, hy, rfl⟩ := map_at hq; rfl)
   rw [h0]
   exact rdecl_tx x P i j w h4.1 h4.2
 · have h : j = 0 ∨ j = 1 ∨ j = 2 ∨ j = 3 ∨ j = 9 := by omega
   rcases h with rfl | rfl | rfl | rfl | rfl
   · cases Option.some.inj hk
     obtain ⟨y, hy, rfl⟩ := map_at hq
     exact rdecl_va x P i y w hx hy
   · cases Option.some.inj hk
     obtain ⟨y, hy, rfl⟩ := map_at hq
     exact rdecl_rs x P i y w hx hy
   · cases Option.some.inj hk
     obtain ⟨y, hy, rfl⟩ := map_at hq
     exact rdecl_st x P i y w hx hy
   · cases Option.some.inj hk
     obtain ⟨y, hy, rfl⟩ := map_at hq
     exact rdecl_be x P i y w hx hy
   · cases Option.some.inj hk
     obtain ⟨y, hy, rfl⟩ := map_at hq
     exact rdecl_ro x P i y w hx hy (hz.ro y (List.mem_of_getElem? hy)) (hc y (List.mem_of_getElem? hy))
theorem zs_names {x : Ste} (hz : ZSte x) : ∀ l ∈ names x, ∀ s ∈ l, s.size ≤ 9223372036854775807 := by
 intro l hl s hs
 simp only [names, List.mem_cons, List.mem_nil_iff, or_false] at hl
 rcases hl with rfl | rfl | rfl | rfl | rfl | rfl | rfl | rfl | rfl | rfl
 · obtain ⟨y, hy, rfl⟩ := List.mem_map.1 hs; exact hz.va y hy
 · obtain ⟨y, hy, rfl⟩ := List.mem_map.1 hs; exact hz.rs y hy
 · obtain ⟨y, hy, rfl⟩ := List.mem_map.1 hs; exact hz.st y hy
 · obtain ⟨y, hy, rfl⟩ := List.mem_map.1 hs; exact hz.be y hy
 · exact hz.qu s hs
 · exact hz.sm s hs
 · exact hz.ta s hs
 · exact hz.le s hs
 · exact hz.co s hs
 · obtain ⟨y, hy, rfl⟩ := List.mem_map.1 hs; exact (hz.ro y hy).nm
theorem each_big {most : Nat} {L : List (ByteArray × Int)} {acc : List ByteArray} (h : most < L.length) : eachE stepN most L acc = (6, acc) := by unfold eachE; rw [if_pos h]
theorem each_fit {most : Nat} {L : List (ByteArray × Int)} {acc : List ByteArray} (h : ¬ most < L.length) : eachE stepN most L acc = goE stepN L acc := by unfold eachE; rw [if_neg h]
set_option maxRecDepth 100000 in
theorem rsiteT_any (x : Ste) (P : PSte) (w : World) (hx : OSte (Lo w.heap.size) w x P) (hz : ZSte x) (hn : NwSte x) (hc : ∀ y ∈ x.ro, cnL y.bo ≤ 4000000) : Calls Tryz.prog 37 #[.agg (cSte x P)] w (Gives (.int .i64 (siteT x)) w) := by
 have HX := Lib.hid hx
 have FX := far (w := w) 42 (cSte x P)
 obtain ⟨n13, hn13⟩ : ∃ n : Nat, 13 = n := ⟨_, rfl⟩
 have hsz13 : ∀ w, (sizeOf 42).run Tryz.prog w = .ok n13 w := fun w => by rw [Tryz.sizeOf42, hn13]
 have FM : Hid (∀ W, Below (w.alloc (.cells (cSte x P) 42)).heap.size (w.alloc (.cells (cSte x P) 42)) W → (loadCellsFrom ⟨w.heap.size, 0, none⟩ 0 n13 #[]).run Tryz.prog W = .ok (cSte x P) W) := Lib.hid fun W hb => (FX.out W hb).cell.ldN (by rw [cSte_size]; exact hn13)
 have FK : Hid (∀ W, Below (w.alloc (.cells (cSte x P) 42)).heap.size (w.alloc (.cells (cSte x P) 42)) W → W.cell? ⟨w.heap.size, 11, none⟩ = some (.slice P.ssp P.ssm P.ssc) ∧ W.cell? ⟨w.heap.size, 12, none⟩ = some (.slice P.lap P.lam P.lac)) := Lib.hid fun W hb => ⟨(FX.out W hb).get (cSte11 x P), (FX.out W hb).get (cSte12 x P)⟩
 have CN := Lib.hid (fun W (hW : Below w.heap.size w W) => names_any x P W (hx.on hW) hn.nz)
 have CD := Lib.hid (fun W (hW : Below w.heap.size w W) {j i : Nat} {k : Nat × List (ByteArray × Int)} {q : ByteArray × Int} (hk : (kinds x)[j]? = some k) (hq : k.2[i]? = some q) => rdeclared_any x P W (HX.out.on hW) hz hc hk hq)
 have CS := Lib.hid (fun W (hW : Below w.heap.size w W) (d : Sta) (Q : PSta) (hd : OSta (Lo W.heap.size) W d Q) => rstart_any x P d Q W (HX.out.on hW) hn.nz hd)
 have CL := Lib.hid (fun W (hW : Below w.heap.size w W) (l : Lw) (Q : PLw) (p : Option Addr) (m c : Nat) (acc : List ByteArray) (hl : OLw (Lo W.heap.size) W l Q) (hs : l.nm.size ≤ 9223372036854775807) (hst : ∀ W2, Below W.heap.size W W2 → Strs W2 p m acc) => rlaw_any x P l Q p m c acc W (HX.out.on hW) hn.nz hl hs hst)
 have HZN := Lib.hid (zs_names hz)
 have HZL := Lib.hid hz.la
 have HNL := Lib.hid (show (names x).length = 10 from rfl)
 have HKL := Lib.hid (show (kinds x).length = 10 from rfl)
 have HS := Lib.hid (show siteT x = orE (frE idE (thr (kinds x) [])) (orE (lstE (staE x.ro) 32 x.ss) (eachE (fun a l => stepN a (lawP x l)) 32 x.la []).1) by unfold siteT lawsE; rw [eachE_map])
 have HSS := Lib.hid hx.ss
 have HLA := Lib.hid hx.la
 obtain ⟨hsl, hsm⟩ := hx.ss.len
 obtain ⟨hll, hlm⟩ := hx.la.len
 have HSL := Lib.hid (And.intro hsl hsm)
 have HLL := Lib.hid (And.intro hll hlm)
 have ld0 := FM.out (w.alloc (.cells (cSte x P) 42)) (Below.refl _ _)
 obtain ⟨kk5, hkk5⟩ : ∃ n : Nat, 5 = n := ⟨_, rfl⟩
 have hsz5 : ∀ w, (sizeOf 105).run Tryz.prog w = .ok kk5 w := fun w => by rw [Tryz.sizeOf105, hkk5]
 have HK5 := Lib.hid hkk5
 obtain ⟨kk3, hkk3⟩ : ∃ n : Nat, 3 = n := ⟨_, rfl⟩
 have hsz3 : ∀ w, (sizeOf 57).run Tryz.prog w = .ok kk3 w := fun w => by rw [Tryz.sizeOf57, hkk3]
 have HK3 := Lib.hid hkk3
 clear hx hz hn hc hn13 hsl hsm hll hlm hkk5 hkk3
 go_enter Tryz.func37, Tryz.ntmps37
 go_wp2_with fail
 refine (CN.out _ bl).mono ?_
 rintro e U ⟨B, rfl, hB, hbU, hN⟩
 have HN := Lib.hid hN
 have HBU : Hid (Below (w.alloc (.cells (cSte x P) 42)).heap.size (w.alloc (.cells (cSte x P) 42)) U) := Lib.hid bl
 clear hN hB hbU ld0
 go_wp2_with fail
 go_loopw [3, 5] (fun v i wr => ∃ (j : Nat) (acc : List ByteArray), j ≤ 10 ∧ i = .int .i64 (j : Nat) ∧ Hid (Bfo U v acc wr ∧ acc.length ≤ 32 * j) ∧ Hid (frE idE (thr (kinds x) []) = frE idE (thr ((kinds x).drop j) acc))) (fun _ i _ => 10 - (intOf i).toNat)
 case atStart => exact ⟨0, [], Nat.zero_le _, rfl, Lib.hid ⟨Bfo.nil U, Nat.zero_le _⟩, Lib.hid rfl⟩
 case round =>
  obtain ⟨j, acc, hj, rfl, HO, HA⟩ := hrel
  have j0 : (0 : Int) ≤ (j : Int) := by omega
  rcases Nat.lt_or_ge j 10 with h | h
  · have j1 : (j : Int) < 10 := by omega
    obtain ⟨k, hk⟩ : ∃ k, (kinds x)[j]? = some k := ⟨_, List.getElem?_eq_getElem (by rw [HKL.out]; exact h)⟩
    have HK := Lib.hid hk
    have hNj : j < (names x).length := by rw [HNL.out]; exact h
    obtain ⟨p, m, c, eJ, hJ⟩ := HN.out j hNj
    have hNe : (names x)[j] = k.2.map (·.1) := by
     have h1 := kinds_at hk
     rw [List.getElem?_eq_getElem hNj] at h1
     exact Option.some.inj h1
    have hJs := hJ.strs
    have HZj := Lib.hid (HZN.out _ (List.getElem_mem hNj))
    rw [hNe] at hJs HZj
    obtain ⟨hml, hmm, -⟩ := hJs
    have HSt := Lib.hid hJ.strs
    rw [hNe] at HSt
    rw [List.length_map] at hml
    have hmost := kinds_most hk
    have HD := Lib.hid (thr_drop hk acc)
    have HML := Lib.hid hml
    have HBW : Hid (Below (w.alloc (.cells (cSte x P) 42)).heap.size (w.alloc (.cells (cSte x P) 42)) wr) := Lib.hid (by have h1 := HBU.out; have h2 := HO.out.1.below; exact bl)
    have FJ : Hid (∀ W, Below U.heap.size U W → W.cell? ⟨B, j, none⟩ = some (.slice p m c)) := Lib.hid fun W hW => (hW.cell (p := ⟨B, j, none⟩) (block_lt eJ)).trans eJ
    clear eJ
    have eJ := FJ.out wr HO.out.1.below
    clear hJ hNe hNj
    by_cases hA : 32 < m
    · have d1 : decide ((32 : Int) < (m : Int)) = true := decide_eq_true (by omega)
      have d2 : (32 : Int) < (m : Int) := by omega
      have HV := Lib.hid (show siteT x = 6 by
       rw [HS.out, HA.out, HD.out, each_big (by rw [hmost]; split <;> omega)]; rfl)
      clear hk hml hmost hA hmm
      go_wp2_with fail
      go_ret
      exact ⟨by rw [HV.out]; rfl, by have h1 := HBW.out; exact bl⟩
    have d1 : decide ((32 : Int) < (m : Int)) = false := decide_eq_false (by omega)
    have d2 : (m : Int) ≤ 32 := by omega
    by_cases hBj : j = 9 ∧ 16 < m
    · have e9 : ((j : Int) == 9) = true := beq_iff_eq.2 (by omega)
      have d3 : decide ((16 : Int) < (m : Int)) = true := decide_eq_true (by omega)
      have d4 : (16 : Int) < (m : Int) := by omega
      have HV := Lib.hid (show siteT x = 6 by
       rw [HS.out, HA.out, HD.out, each_big (by rw [hmost, if_pos hBj.1]; omega)]; rfl)
      clear hk hml hmost hA hmm hBj
      go_wp2_with fail
      go_ret
      exact ⟨by rw [HV.out]; rfl, by have h1 := HBW.out; exact bl⟩
    have HF := Lib.hid (show eachE stepN k.1 k.2 acc = goE stepN k.2 acc from each_fit (by rw [hmost]; split <;> omega))
    have m0 : m ≤ 32 := by omega
    have hCD : (((j : Int) == 9) = true ∧ decide ((16 : Int) < (m : Int)) = false) ∨ (((j : Int) == 9) = false ∧ True) := by
     by_cases h9 : j = 9
     · exact .inl ⟨beq_iff_eq.2 (by omega), decide_eq_false (by omega)⟩
     · exact .inr ⟨beq_eq_false_iff_ne.2 (by omega), trivial⟩
    clear hk hml hmost hA hmm hBj
    rcases hCD with ⟨e9, d3⟩ | ⟨e9, d3⟩
    all_goals
     go_wp2_with fail
     clear eJ
     go_loopw [3, 6] (fun v i wv => ∃ (i' : Nat) (acc2 : List ByteArray), i' ≤ m ∧ i = .int .i64 (i' : Nat) ∧ Hid (Bfo U v acc2 wv) ∧ Hid (goE stepN (k.2.take i') acc = (0, acc2) ∧ acc2.length ≤ 32 * j + i')) (fun _ i _ => m - (intOf i).toNat)
     case atStart => exact ⟨0, acc, Nat.zero_le _, rfl, Lib.hid HO.out.1, Lib.hid ⟨rfl, HO.out.2⟩⟩
     case round =>
      obtain ⟨i, acc2, hi, rfl, HO2, HG⟩ := hrel
      have i0 : (0 : Int) ≤ (i : Int) := by omega
      have hbo := HO2.out
      obtain ⟨p2, m2, c2, rfl, hst⟩ := hbo.strs (by have := HG.out.2; omega)
      have HST := Lib.hid hst
      have HBo := Lib.hid hbo
      have HBI : Hid (Below (w.alloc (.cells (cSte x P) 42)).heap.size (w.alloc (.cells (cSte x P) 42)) wr) := Lib.hid (by have h1 := HBU.out; have h2 := hbo.below; exact bl)
      have HBw : Hid (Below w.heap.size w wr) := Lib.hid (by have h1 := HBI.out; exact bl)
      have eJ2 := FJ.out wr hbo.below
      clear hst hbo HO2
      rcases Nat.lt_or_ge i m with hlt | hge
      · have i1 : (i : Int) < (m : Int) := by omega
        have hil : i < k.2.length := by rw [HML.out]; exact hlt
        obtain ⟨q, hq⟩ : ∃ q, k.2[i]? = some q := ⟨_, List.getElem?_eq_getElem hil⟩
        have HQ := Lib.hid hq
        obtain ⟨b, o, hp, hG, hcell⟩ := (HSt.out.on HBo.out.below).2.2.resolve_left (by omega)
        have hil2 : i < (k.2.map (·.1)).length := by rw [List.length_map]; exact hil
        have hqe : (k.2.map (·.1))[i] = q.1 := by
         have h1 : (k.2.map (·.1))[i]? = some q.1 := by rw [List.getElem?_map, hq]; rfl
         rw [List.getElem?_eq_getElem hil2] at h1
         exact Option.some.inj h1
        have a0 := hcell.out i hil2
        have HNs := Lib.hid (HZj.out _ (List.getElem_mem hil2))
        rw [hqe] at a0 HNs
        obtain ⟨nm, hnm⟩ : ∃ v, q.1 = v := ⟨_, rfl⟩
        obtain ⟨e1, he1⟩ : ∃ e, decE acc2 q.1 = e := ⟨_, rfl⟩
        obtain ⟨e2, he2⟩ : ∃ e, q.2 = e := ⟨_, rfl⟩
        obtain ⟨e, he⟩ : ∃ e, orE e1 e2 = e := ⟨_, rfl⟩
        have HSt2 : Hid ((stepN acc2 q).1 = e) := Lib.hid (by show orE (decE acc2 q.1) q.2 = e; rw [he1, he2, he])
        have HQ1 := Lib.hid hnm
        rw [hnm] at a0 HNs he1
        have C1 := Lib.hid (fun W (hW : Below wr.heap.size wr W) => rnamed_bf (U := U) (v := .slice p2 m2 c2) (c := c2) he1 HNs.out HST.out hW)
        have C2 := Lib.hid (fun W (hW : Below wr.heap.size wr W) => (show Calls Tryz.prog 67 #[.agg (cSte x P), .int .i64 (j : Nat), .int .i64 (i : Nat)] W (Gives (.int .i64 e2) W) by rw [← he2]; exact CD.out W (HBw.out.trans (hW.mono HBw.out.size)) HK.out HQ.out))
        have C3 := Lib.hid (fun W => (show Calls Tryz.prog 32 #[.int .i64 e1, .int .i64 e2] W (Stay (.int .i64 e) W) by rw [← he]; exact first_any _ _ W))
        rw [hp] at eJ2 ⊢
        have FR : Hid (∀ W, Below wr.heap.size wr W → W.cell? ⟨B, j, none⟩ = some (.slice (some ⟨b, o, none⟩) m c) ∧ W.cell? ⟨b, o + i, none⟩ = some (.string nm) ∧ (loadCellsFrom ⟨w.heap.size, 0, none⟩ 0 n13 #[]).run Tryz.prog W = .ok (cSte x P) W) := Lib.hid fun W hW => ⟨(hW.cell (p := ⟨B, j, none⟩) (block_lt eJ2)).trans eJ2, (hW.cell (p := ⟨b, o + i, none⟩) (block_lt a0)).trans a0, FM.out W (HBI.out.trans (hW.mono HBI.out.size))⟩
        clear hil hq hcell hil2 hqe hnm he1 he2 he hG
        go_wp2_with fail
        clear a0 eJ2
        go_region_held3 (fun W => W.cell? ⟨B, j, none⟩ = some (.slice (some ⟨b, o, none⟩) m c) ∧ W.cell? ⟨b, o + i, none⟩ = some (.string nm) ∧ (loadCellsFrom ⟨w.heap.size, 0, none⟩ 0 n13 #[]).run Tryz.prog W = .ok (cSte x P) W) (first | (refine FR.out _ ?_; exact bl; done) | (go_keep; done)) (first
         | (have t := hb2; go_at_call 32; refine (C3.out _).mono ?_; rintro e w4 ⟨rfl, rfl⟩)
         | (have t := hb1; go_at_call 67; refine (C2.out _ bl).mono ?_; rintro e w2 ⟨rfl, hb2⟩)
         | (go_at_call 36; refine (C1.out _ bl).mono ?_; rintro e w1 ⟨rfl, hb1⟩))
        all_goals
         have HB2 : Hid (Below wr.heap.size wr w2) := Lib.hid bl
         obtain ⟨f0, f1, f2⟩ := FR.out w2 HB2.out
         by_cases h0 : e = 0
         rotate_left 1
         · have t1 : (e != 0) = true := bne_iff_ne.2 h0
           have HV := Lib.hid (show siteT x = e by
            rw [HS.out, HA.out, HD.out, HF.out, goE_stop HQ.out HG.out.1 (by rw [HSt2.out]; exact h0), HSt2.out, orE_no h0, orE_no h0])
           clear h0
           go_wp2_with fail
           go_ret
           exact ⟨by rw [HV.out]; rfl, by have h1 := HB2.out; have h2 := HBw.out; exact bl⟩
         · subst h0
           have HG2 := Lib.hid (show goE stepN (k.2.take (i + 1)) acc = (0, acc2 ++ [nm]) by rw [← HQ1.out]; exact go_acc (g := fun p => p) HQ.out HG.out.1 HSt2.out)
           obtain ⟨v3, w3, hrun, hb3⟩ := HBo.out.app HB2.out nm (by have := HG.out.2; omega)
           have HB3 := Lib.hid hb3
           clear hb3
           go_wp2_with (at_builtin; refine Lib.wpList_append_run _ rfl _ _ _ _ rfl _ _ rfl rfl _ _ hrun ?_)
           try rw [← hp]
           go_roundw
           case rel => exact ⟨i + 1, acc2 ++ [nm], by omega, by go_num, HB3, Lib.hid ⟨HG2.out, by rw [List.length_append]; have := HG.out.2; simp; omega⟩⟩
           case measure => simp [intOf]; omega
      · obtain rfl : m = i := by omega
        have HG3 := Lib.hid (show goE stepN k.2 acc = (0, acc2) by have h1 := HG.out.1; rwa [List.take_of_length_le (by rw [HML.out]; exact Nat.le_refl _)] at h1)
        have HA2 := Lib.hid (show frE idE (thr (kinds x) []) = frE idE (thr ((kinds x).drop (j + 1)) acc2) by rw [HA.out, HD.out, HF.out, HG3.out]; exact orE_yes)
        go_wp2_with fail
        go_roundw
        case rel => exact ⟨j + 1, acc2, by omega, by go_num, Lib.hid ⟨HBo.out, by have := HG.out.2; omega⟩, HA2⟩
        case measure => simp [intOf]; omega
  · obtain rfl : j = 10 := by omega
    have HS2 := Lib.hid (show siteT x = orE (lstE (staE x.ro) 32 x.ss) (eachE (fun a l => stepN a (lawP x l)) 32 x.la []).1 by
     rw [HS.out, HA.out]; exact orE_yes)
    have HBW : Hid (Below (w.alloc (.cells (cSte x P) 42)).heap.size (w.alloc (.cells (cSte x P) 42)) wr) := Lib.hid (by have h1 := HBU.out; have h2 := HO.out.1.below; exact bl)
    have HBw : Hid (Below w.heap.size w wr) := Lib.hid (by have h1 := HBW.out; exact bl)
    obtain ⟨p0, c0, hv0, -⟩ := HO.out.1.strs (by have := HO.out.2; omega)
    clear HO HA hv0
    obtain ⟨hsl, hsm⟩ := HSL.out
    obtain ⟨g11, g12⟩ := FK.out wr HBW.out
    by_cases h32 : 32 < P.ssm
    · have d1 : decide ((32 : Int) < (P.ssm : Int)) = true := decide_eq_true (by omega)
      have d2 : (32 : Int) < (P.ssm : Int) := by omega
      have HV := Lib.hid (show siteT x = 6 by rw [HS2.out]; unfold lstE; rw [if_pos (by omega)]; rfl)
      clear hsl hsm h32
      go_wp2_with fail
      go_ret
      exact ⟨by rw [HV.out]; rfl, HBw.out⟩
    have d1 : decide ((32 : Int) < (P.ssm : Int)) = false := decide_eq_false (by omega)
    have d2 : (P.ssm : Int) ≤ 32 := by omega
    have HS3 := Lib.hid (show siteT x = orE (frE (staE x.ro) x.ss) (eachE (fun a l => stepN a (lawP x l)) 32 x.la []).1 by rw [HS2.out]; unfold lstE; rw [if_neg (by omega)])
    obtain ⟨sm, hsmx⟩ : ∃ n, P.ssm = n := ⟨_, rfl⟩
    have HSM := Lib.hid hsmx
    have HSN := Lib.hid (show x.ss.length = sm by omega)
    rw [hsmx] at g11 d1 d2
    have sm2 : sm ≤ 32 := by omega
    clear hsl hsm h32 HS2 hsmx
    go_wp2_with fail
    obtain ⟨U0, hU0⟩ : ∃ W, W = wr := ⟨_, rfl⟩
    subst hU0
    clear g11 g12
    go_loopw [8] (fun i wv => ∃ (i' : Nat), i' ≤ sm ∧ i = .int .i64 (i' : Nat) ∧ Hid (Below (w.alloc (.cells (cSte x P) 42)).heap.size (w.alloc (.cells (cSte x P) 42)) wv) ∧ Hid (frE (staE x.ro) (x.ss.take i') = 0)) (fun i _ => sm - (intOf i).toNat)
    case atStart => exact ⟨0, Nat.zero_le _, rfl, HBW, Lib.hid rfl⟩
    case round =>
     obtain ⟨i, hi, rfl, HV, HG⟩ := hrel
     have i0 : (0 : Int) ≤ (i : Int) := by omega
     have HVw : Hid (Below w.heap.size w wr) := Lib.hid (by have h1 := HV.out; exact bl)
     obtain ⟨g11, g12⟩ := FK.out wr HV.out
     rw [HSM.out] at g11
     rcases Nat.lt_or_ge i sm with hlt | hge
     · have i1 : (i : Int) < (sm : Int) := by omega
       have hil : i < x.ss.length := by rw [HSN.out]; exact hlt
       obtain ⟨b, o, hp, hbG, hG, hcell⟩ := (HSS.out.on RSta.map HVw.out).rows (by have := HSM.out; omega)
       obtain ⟨d, hds, hat, hR⟩ := hcell.out i hil
       obtain ⟨y, hy⟩ : ∃ y, x.ss[i] = y := ⟨_, rfl⟩
       have HX2 := Lib.hid (show x.ss[i]? = some y by rw [← hy]; exact List.getElem?_eq_getElem hil)
       rw [hy] at hR
       obtain ⟨Q, rfl, hQ⟩ := hR
       rw [hp] at g11
       obtain ⟨e, he⟩ : ∃ e, staE x.ro y = e := ⟨_, rfl⟩
       have HE := Lib.hid he
       have C1 := Lib.hid (fun W (hW : Below wr.heap.size wr W) => (show Calls Tryz.prog 68 #[.agg (cSte x P), .agg (cSta y Q)] W (Gives (.int .i64 e) W) by rw [← he]; exact CS.out W (HVw.out.trans (hW.mono HVw.out.size)) y Q (hQ.on hW)))
       have FR : Hid (∀ W, Below wr.heap.size wr W → W.cell? ⟨w.heap.size, 11, none⟩ = some (.slice (some ⟨b, o, none⟩) sm P.ssc) ∧ (loadCellsFrom ⟨w.heap.size, 0, none⟩ 0 n13 #[]).run Tryz.prog W = .ok (cSte x P) W ∧ (loadCellsFrom ⟨b, o + i * kk5, none⟩ 0 kk5 #[]).run Tryz.prog W = .ok (cSta y Q) W) := Lib.hid fun W hW => ⟨(hW.cell (p := ⟨w.heap.size, 11, none⟩) (block_lt g11)).trans g11, FM.out W (HV.out.trans (hW.mono HV.out.size)), ((hat.on hW hG).at HK5.out).ldN (by rw [hds]; exact HK5.out)⟩
       clear hil hcell hds hat hy hbG hG hp he hQ
       go_wp2_with fail
       clear g11 g12
       go_region_held3 (fun W => W.cell? ⟨w.heap.size, 11, none⟩ = some (.slice (some ⟨b, o, none⟩) sm P.ssc) ∧ (loadCellsFrom ⟨w.heap.size, 0, none⟩ 0 n13 #[]).run Tryz.prog W = .ok (cSte x P) W ∧ (loadCellsFrom ⟨b, o + i * kk5, none⟩ 0 kk5 #[]).run Tryz.prog W = .ok (cSta y Q) W) (first | (refine FR.out _ ?_; exact bl; done) | (go_keep; done)) (first
        | (go_at_call 68; refine (C1.out _ bl).mono ?_; rintro e w1 ⟨rfl, hb1⟩))
       all_goals
        have HB1 : Hid (Below wr.heap.size wr w1) := Lib.hid bl
        by_cases h0 : e = 0
        rotate_left 1
        · have t1 : (e != 0) = true := bne_iff_ne.2 h0
          have HR := Lib.hid (show siteT x = e by rw [HS3.out, frE_stop HX2.out HG.out (by rw [HE.out]; exact h0), HE.out, orE_no h0])
          clear h0
          go_wp2_with fail
          go_ret
          exact ⟨by rw [HR.out]; rfl, by have h1 := HB1.out; have h2 := HVw.out; exact bl⟩
        · subst h0
          have HG2 := Lib.hid (frE_next HX2.out HG.out HE.out)
          go_wp2_with fail
          go_roundw
          case rel => (repeat apply Exists.intro); refine And.intro ?_ rfl; exact ⟨i + 1, by omega, by go_num, Lib.hid (by have h1 := HB1.out; have h2 := HV.out; exact bl), HG2⟩
          case measure => simp [intOf]; omega
     · obtain rfl : sm = i := by omega
       have HS4 := Lib.hid (show siteT x = (eachE (fun a l => stepN a (lawP x l)) 32 x.la []).1 by
        have h1 := HG.out
        rw [List.take_of_length_le (by rw [HSN.out]; exact Nat.le_refl _)] at h1
        rw [HS3.out, h1, orE_yes])
       obtain ⟨hll, hlm⟩ := HLL.out
       by_cases h32 : 32 < P.lam
       · have d3 : decide ((32 : Int) < (P.lam : Int)) = true := decide_eq_true (by omega)
         have d4 : (32 : Int) < (P.lam : Int) := by omega
         have HR := Lib.hid (show siteT x = 6 by rw [HS4.out]; unfold eachE; rw [if_pos (by omega)])
         clear hll hlm h32
         go_wp2_with fail
         go_ret
         exact ⟨by rw [HR.out]; rfl, HVw.out⟩
       have d3 : decide ((32 : Int) < (P.lam : Int)) = false := decide_eq_false (by omega)
       have d4 : (P.lam : Int) ≤ 32 := by omega
       have HS5 := Lib.hid (show siteT x = (goE (fun a l => stepN a (lawP x l)) x.la []).1 by rw [HS4.out]; unfold eachE; rw [if_neg (by omega)])
       obtain ⟨ln, hlnx⟩ : ∃ n, P.lam = n := ⟨_, rfl⟩
       have HLM := Lib.hid hlnx
       have HLN := Lib.hid (show x.la.length = ln by omega)
       rw [hlnx] at g12 d3 d4
       have ln2 : ln ≤ 32 := by omega
       clear hll hlm h32 HS4 hlnx
       go_wp2_with fail
       obtain ⟨U1, hU1⟩ : ∃ W, W = wr := ⟨_, rfl⟩
       subst hU1
       clear g11 g12
       go_loopw [10, 11] (fun v i wv => ∃ (i' : Nat) (acc : List ByteArray), i' ≤ ln ∧ i = .int .i64 (i' : Nat) ∧ Hid (Bfo U1 v acc wv ∧ acc.length ≤ i') ∧ Hid (goE (fun a l => stepN a (lawP x l)) (x.la.take i') [] = (0, acc))) (fun _ i _ => ln - (intOf i).toNat)
       case atStart => exact ⟨0, [], Nat.zero_le _, rfl, Lib.hid ⟨Bfo.nil U1, Nat.zero_le _⟩, Lib.hid rfl⟩
       case round =>
        obtain ⟨i, acc, hi, rfl, HO, HG2⟩ := hrel
        have i0 : (0 : Int) ≤ (i : Int) := by omega
        obtain ⟨hbo, hal⟩ := HO.out
        obtain ⟨p2, m2, c2, rfl, hst⟩ := hbo.strs (by omega)
        have HST := Lib.hid hst
        have HAL := Lib.hid hal
        have HBo := Lib.hid hbo
        have HBI : Hid (Below (w.alloc (.cells (cSte x P) 42)).heap.size (w.alloc (.cells (cSte x P) 42)) wr) := Lib.hid (by have h1 := HV.out; have h2 := hbo.below; exact bl)
        have HBx : Hid (Below w.heap.size w wr) := Lib.hid (by have h1 := HBI.out; exact bl)
        obtain ⟨g11, g12⟩ := FK.out wr HBI.out
        rw [HLM.out] at g12
        clear hst hbo hal HO
        rcases Nat.lt_or_ge i ln with hlt | hge
        · have i1 : (i : Int) < (ln : Int) := by omega
          have hil : i < x.la.length := by rw [HLN.out]; exact hlt
          obtain ⟨b, o, hp, hbG, hG, hcell⟩ := (HLA.out.on RLw.map HBx.out).rows (by have := HLM.out; omega)
          obtain ⟨d, hds, hat, hR⟩ := hcell.out i hil
          obtain ⟨y, hy⟩ : ∃ y, x.la[i] = y := ⟨_, rfl⟩
          have HX2 := Lib.hid (show x.la[i]? = some y by rw [← hy]; exact List.getElem?_eq_getElem hil)
          have HNs := Lib.hid (HZL.out y (by rw [← hy]; exact List.getElem_mem hil))
          rw [hy] at hR
          obtain ⟨Q, rfl, hQ⟩ := hR
          rw [hp] at g12
          obtain ⟨e, he⟩ : ∃ e, orE (decE acc y.nm) (lawT x y) = e := ⟨_, rfl⟩
          have HE := Lib.hid (show (stepN acc (lawP x y)).1 = e from he)
          have C1 := Lib.hid (fun W (hW : Below wr.heap.size wr W) => (show Calls Tryz.prog 69 #[.agg (cSte x P), .agg (cLw y Q), .slice p2 m2 c2] W (Gives (.int .i64 e) W) by rw [← he]; exact CL.out W (HBx.out.trans (hW.mono HBx.out.size)) y Q p2 m2 c2 acc (hQ.on hW) HNs.out fun W2 hW2 => HST.out W2 (hW.trans (hW2.mono hW.size))))
          have a0 := (hat.at HK3.out).get (r := 0) (v := .string y.nm) (cLw0 y Q)
          rw [Nat.add_zero] at a0
          have FR : Hid (∀ W, Below wr.heap.size wr W → W.cell? ⟨w.heap.size, 12, none⟩ = some (.slice (some ⟨b, o, none⟩) ln P.lac) ∧ (loadCellsFrom ⟨w.heap.size, 0, none⟩ 0 n13 #[]).run Tryz.prog W = .ok (cSte x P) W ∧ (loadCellsFrom ⟨b, o + i * kk3, none⟩ 0 kk3 #[]).run Tryz.prog W = .ok (cLw y Q) W) := Lib.hid fun W hW => ⟨(hW.cell (p := ⟨w.heap.size, 12, none⟩) (block_lt g12)).trans g12, FM.out W (HBI.out.trans (hW.mono HBI.out.size)), ((hat.on hW hG).at HK3.out).ldN (by rw [hds]; exact HK3.out)⟩
          have FN : Hid (∀ W, Below wr.heap.size wr W → W.cell? ⟨b, o + i * kk3, none⟩ = some (.string y.nm)) := Lib.hid fun W hW => (hW.cell (p := ⟨b, o + i * kk3, none⟩) (block_lt a0)).trans a0
          clear hil hcell hds hat hy hbG hG hp he hQ a0
          go_wp2_with fail
          clear g11 g12
          go_region_held3 (fun W => W.cell? ⟨w.heap.size, 12, none⟩ = some (.slice (some ⟨b, o, none⟩) ln P.lac) ∧ (loadCellsFrom ⟨w.heap.size, 0, none⟩ 0 n13 #[]).run Tryz.prog W = .ok (cSte x P) W ∧ (loadCellsFrom ⟨b, o + i * kk3, none⟩ 0 kk3 #[]).run Tryz.prog W = .ok (cLw y Q) W) (first | (refine FR.out _ ?_; exact bl; done) | (go_keep; done)) (first
           | (go_at_call 69; refine (C1.out _ bl).mono ?_; rintro e w1 ⟨rfl, hb1⟩))
          all_goals
           have HB1 : Hid (Below wr.heap.size wr w1) := Lib.hid bl
           obtain ⟨f0, f1, f2⟩ := FR.out w1 HB1.out
           have f3 := FN.out w1 HB1.out
           by_cases h0 : e = 0
           rotate_left 1
           · have t1 : (e != 0) = true := bne_iff_ne.2 h0
             have HR := Lib.hid (show siteT x = e by rw [HS5.out, goE_stop HX2.out HG2.out (by rw [HE.out]; exact h0), HE.out])
             clear h0
             go_wp2_with fail
             go_ret
             exact ⟨by rw [HR.out]; rfl, by have h1 := HB1.out; have h2 := HBx.out; exact bl⟩
           · subst h0
             have HG3 := Lib.hid (go_acc HX2.out HG2.out HE.out)
             obtain ⟨v3, w3, hrun, hb3⟩ := HBo.out.app HB1.out y.nm (by have := HAL.out; omega)
             have HB3 := Lib.hid hb3
             clear hb3
             go_wp2_with (at_builtin; refine Lib.wpList_append_run _ rfl _ _ _ _ rfl _ _ rfl rfl _ _ hrun ?_)
             go_roundw
             case rel => (repeat apply Exists.intro); refine And.intro ?_ rfl; exact ⟨i + 1, acc ++ [y.nm], by omega, by go_num, Lib.hid ⟨HB3.out, by rw [List.length_append]; have := HAL.out; simp; omega⟩, HG3⟩
             case measure => simp [intOf]; omega
        · obtain rfl : ln = i := by omega
          have HR := Lib.hid (show siteT x = 0 by
           have h1 := HG2.out
           rw [List.take_of_length_le (by rw [HLN.out]; exact Nat.le_refl _)] at h1
           rw [HS5.out, h1])
          go_wp2_with fail
          go_ret
          exact ⟨by rw [HR.out]; rfl, HBx.out⟩
end Go.Proofs.YtaaffmbnhjaebaaGreat.Md
