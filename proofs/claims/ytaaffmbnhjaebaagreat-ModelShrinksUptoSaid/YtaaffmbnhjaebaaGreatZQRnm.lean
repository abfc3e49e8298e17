/-
  Parts of this proof: The contract of the reference's Names. The contracts of the reference's Routine, Kind and Index. The reference's lists of the names before.
-/
import Derived.Test.YtaaffmbnhjaebaaGreatZQFlt
set_option linter.unusedSimpArgs false
namespace Go.Proofs.YtaaffmbnhjaebaaGreat.Md
open Go.RowKit
open Go.Proofs.YtaaffmbnhjaebaaGreat.Ex (Lo block_lt take_one)
set_option maxHeartbeats 8000000
set_option linter.unusedVariables false
theorem OwnL.slot {base B i : Nat} {w : World} {v u : Value} {l : List ByteArray} (h : OwnL 9 1 RTxt base w v l) (hB : B < base) : OwnL 9 1 RTxt base (w.setCell ⟨B, i, none⟩ u) v l := by
 obtain ⟨L, h1, h2, h3⟩ := h
 refine ⟨L, h1, fun i hi hi2 => h2 i hi hi2, h3.kept (row := some B) ⟨rfl, rfl, rfl, ?_, fun k hk hne => ?_⟩ ?_⟩
 · show w.heap.size ≤ (w.heap.modify B _).size
   rw [Array.size_modify]; exact Nat.le_refl _
 · show (w.heap.modify B _)[k]? = _
   rw [Array.getElem?_modify, if_neg (fun e => hne (by rw [e]))]
 · cases hv : v.ownBlock with
   | none => exact .inl rfl
   | some g => exact .inr (fun e => by cases e; have := (h3.lt _ hv).1; omega)
theorem But.grow {b base : Nat} {w0 w w2 : World} {v : Value} {l : List ByteArray} (h : But b w0 w) (ho : OwnL 9 1 RTxt base w v l) (hg : w.grownBy w2 v.ownBlock) (hs : w0.heap.size ≤ base) : But b w0 w2 := by
 obtain ⟨L, h1, h2, h3⟩ := ho
 exact ⟨hg.os.trans h.os, hg.tape.trans h.tape, hg.output.trans h.output, Nat.le_trans h.size hg.size, fun k hk hb => (hg.block k (Nat.lt_of_lt_of_le hk h.size) (fun he => by have := (h3.lt k he.symm).1; omega)).trans (h.block k hk hb)⟩
theorem Box.grow {g base : Nat} {w w2 : World} {t : TypeId} {c : Array Value} {v : Value} {l : List ByteArray} (h : Box w g t c) (ho : OwnL 9 1 RTxt base w v l) (hg : w.grownBy w2 v.ownBlock) (hs : g < base) : Box w2 g t c := by
 obtain ⟨L, h1, h2, h3⟩ := ho
 exact h.keep (hg.block g h.lt (fun he => by have := (h3.lt g he.symm).1; omega))
theorem OwnL.slice {base : Nat} {w : World} {v : Value} {l : List ByteArray} (ho : OwnL 9 1 RTxt base w v l) : ∃ p m c, v = .slice p m c := by
 obtain ⟨L, h1, h2, h3⟩ := ho
 rcases h3.2 with ⟨rfl, -⟩ | ⟨g, cap, cur, rfl, -⟩
 · exact ⟨none, 0, 0, rfl⟩
 · exact ⟨_, _, _, rfl⟩
theorem Box.thaw {g i : Nat} {w : World} {t : TypeId} {c : Array Value} (h : Box w g t c) : w.frozen? ⟨g, i, none⟩ = false := by unfold World.frozen?; rw [show w.heap[(⟨g, i, none⟩ : Addr).block]? = _ from h]; simp
def NamesAt (W : World) (B : Nat) (x : Ste) : Prop := ∀ j, (h : j < (names x).length) → ∃ p m c, W.cell? ⟨B, j, none⟩ = some (.slice p m c) ∧ Rw 1 RTxt (Bf B W.heap.size) W ((names x)[j]) p m
structure NzSte (x : Ste) : Prop where
 va : x.va.length < 1000000
 rs : x.rs.length < 1000000
 st : x.st.length < 1000000
 be : x.be.length < 1000000
 ro : x.ro.length < 1000000
theorem zQRnm_0 {p : Prop} (h : p := by
 intro W2 hS2
 try dsimp only at hS2
 obtain ⟨s1, s2⟩ := hS2
 clear hHeld eS a0 eB eB0 eB2 eB3 eB3b eF2 hrun
 first | (go_simp; done) | (go_simp; with_reducible rfl)
 ) : p := h
theorem zQRnm_1 {p : Prop} (h : p := by
 go_simp
 clear hHeld
 refine hK.out _ _ (show ((fun (W : World) => W.cell? ⟨w.heap.size, 2, none⟩ = some (.slice (some ⟨b, o, none⟩) m1 P.rsc) ∧ W.cell? ⟨b, o + k * 17, none⟩ = some (.string y.nm))) _ from SB.out) (fun hHeld => ?_)
 clear hK K
 try simp only [Act.put, sA, sB, sC]
 refine hcall 11 (fun K hK => ?_)
 refine Lib.wp_append_run _ _ _ _ _ rfl _ _ rfl rfl _ _ hrun ?_
 clear hHeld
 refine hK.out _ _ (show ((fun (W : World) => W.cell? ⟨w.heap.size, 2, none⟩ = some (.slice (some ⟨b, o, none⟩) m1 P.rsc) ∧ W.cell? ⟨b, o + k * 17, none⟩ = some (.string y.nm))) _ from SC.out) (fun hHeld => ?_)
 clear hK K
 try simp only [Act.put, sA, sB, sC]
 refine htake 12 ((.pointer (some ⟨B, 1, none⟩) : Value)) (hy := ?_) (h := ?_)
 · exact zQRnm_0
 try simp only [Act.put, sA, sB, sC]
 refine hcall 13 (fun K hK => ?_)
 go_simp
 clear hHeld
 refine hK.out _ _ (show ((fun (W : World) => W.cell? ⟨w.heap.size, 2, none⟩ = some (.slice (some ⟨b, o, none⟩) m1 P.rsc) ∧ W.cell? ⟨b, o + k * 17, none⟩ = some (.string y.nm))) _ from SD.out) (fun hHeld => ?_)
 clear hK K
 try simp only [Act.put, sA, sB, sC]
 refine wpAnyH_done (by kernel_rfl) ?_ _
 try refine NoPanic.normal ?_
 go_wp2_with fail
 go_roundw
 case rel => exact ⟨k + 1, _, by omega, by go_num, Lib.hid (HQ2.out.set 1 _), Lib.hid (HT2.out.set 1 _), Lib.hid (HO2.out.slot hBU)⟩
 case measure => simp [intOf]; omega
 ) : p := h
theorem zQRnm_2 {p : Prop} (h : p := by
 go_simp
 clear hHeld
 refine hK.out _ _ (show ((fun (W : World) => W.cell? ⟨w.heap.size, 10, none⟩ = some (.slice (some ⟨b, o, none⟩) m9 P.roc) ∧ W.cell? ⟨b, o + k * 4, none⟩ = some (.string y.nm))) _ from SB.out) (fun hHeld => ?_)
 clear hK K
 try simp only [Act.put, sA, sB, sC]
 refine hcall 11 (fun K hK => ?_)
 refine Lib.wp_append_run _ _ _ _ _ rfl _ _ rfl rfl _ _ hrun ?_
 clear hHeld
 refine hK.out _ _ (show ((fun (W : World) => W.cell? ⟨w.heap.size, 10, none⟩ = some (.slice (some ⟨b, o, none⟩) m9 P.roc) ∧ W.cell? ⟨b, o + k * 4, none⟩ = some (.string y.nm))) _ from SC.out) (fun hHeld => ?_)
 clear hK K
 try simp only [Act.put, sA, sB, sC]
 refine htake 12 ((.pointer (some ⟨B, 9, none⟩) : Value)) (hy := ?_) (h := ?_)
 · exact zQRnm_0
 try simp only [Act.put, sA, sB, sC]
 refine hcall 13 (fun K hK => ?_)
 go_simp
 clear hHeld
 refine hK.out _ _ (show ((fun (W : World) => W.cell? ⟨w.heap.size, 10, none⟩ = some (.slice (some ⟨b, o, none⟩) m9 P.roc) ∧ W.cell? ⟨b, o + k * 4, none⟩ = some (.string y.nm))) _ from SD.out) (fun hHeld => ?_)
 clear hK K
 try simp only [Act.put, sA, sB, sC]
 refine wpAnyH_done (by kernel_rfl) ?_ _
 try refine NoPanic.normal ?_
 go_wp2_with fail
 go_roundw
 case rel => exact ⟨k + 1, _, by omega, by go_num, Lib.hid (HQ2.out.set 9 _), Lib.hid (HT2.out.set 9 _), Lib.hid (HO2.out.slot hBU)⟩
 case measure => simp [intOf]; omega
 ) : p := h
theorem zQRnm_3 {p : Prop} (h : p := by
 go_simp
 clear hHeld
 refine hK.out _ _ (show ((fun (W : World) => W.cell? ⟨w.heap.size, 1, none⟩ = some (.slice (some ⟨b, o, none⟩) m0 P.vac) ∧ W.cell? ⟨b, o + k * 3, none⟩ = some (.string y.nm))) _ from SB.out) (fun hHeld => ?_)
 clear hK K
 try simp only [Act.put, sA, sB, sC]
 refine hcall 11 (fun K hK => ?_)
 refine Lib.wp_append_run _ _ _ _ _ rfl _ _ rfl rfl _ _ hrun ?_
 clear hHeld
 refine hK.out _ _ (show ((fun (W : World) => W.cell? ⟨w.heap.size, 1, none⟩ = some (.slice (some ⟨b, o, none⟩) m0 P.vac) ∧ W.cell? ⟨b, o + k * 3, none⟩ = some (.string y.nm))) _ from SC.out) (fun hHeld => ?_)
 clear hK K
 try simp only [Act.put, sA, sB, sC]
 refine htake 12 ((.pointer (some ⟨B, 0, none⟩) : Value)) (hy := ?_) (h := ?_)
 · exact zQRnm_0
 try simp only [Act.put, sA, sB, sC]
 refine hcall 13 (fun K hK => ?_)
 go_simp
 clear hHeld
 refine hK.out _ _ (show ((fun (W : World) => W.cell? ⟨w.heap.size, 1, none⟩ = some (.slice (some ⟨b, o, none⟩) m0 P.vac) ∧ W.cell? ⟨b, o + k * 3, none⟩ = some (.string y.nm))) _ from SD.out) (fun hHeld => ?_)
 clear hK K
 try simp only [Act.put, sA, sB, sC]
 refine wpAnyH_done (by kernel_rfl) ?_ _
 try refine NoPanic.normal ?_
 go_wp2_with fail
 go_roundw
 case rel => exact ⟨k + 1, _, by omega, by go_num, Lib.hid (HQ2.out.set 0 _), Lib.hid (HT2.out.set 0 _), Lib.hid (HO2.out.slot hBU)⟩
 case measure => simp [intOf]; omega
 ) : p := h
theorem zQRnm_4 {p : Prop} (h : p := by
 go_simp
 clear hHeld
 refine hK.out _ _ (show ((fun (W : World) => W.cell? ⟨w.heap.size, 3, none⟩ = some (.slice (some ⟨b, o, none⟩) m2 P.stc) ∧ W.cell? ⟨b, o + k * 3, none⟩ = some (.string y.nm))) _ from SB.out) (fun hHeld => ?_)
 clear hK K
 try simp only [Act.put, sA, sB, sC]
 refine hcall 11 (fun K hK => ?_)
 refine Lib.wp_append_run _ _ _ _ _ rfl _ _ rfl rfl _ _ hrun ?_
 clear hHeld
 refine hK.out _ _ (show ((fun (W : World) => W.cell? ⟨w.heap.size, 3, none⟩ = some (.slice (some ⟨b, o, none⟩) m2 P.stc) ∧ W.cell? ⟨b, o + k * 3, none⟩ = some (.string y.nm))) _ from SC.out) (fun hHeld => ?_)
 clear hK K
 try simp only [Act.put, sA, sB, sC]
 refine htake 12 ((.pointer (some ⟨B, 2, none⟩) : Value)) (hy := ?_) (h := ?_)
 · exact zQRnm_0
 try simp only [Act.put, sA, sB, sC]
 refine hcall 13 (fun K hK => ?_)
 go_simp
 clear hHeld
 refine hK.out _ _ (show ((fun (W : World) => W.cell? ⟨w.heap.size, 3, none⟩ = some (.slice (some ⟨b, o, none⟩) m2 P.stc) ∧ W.cell? ⟨b, o + k * 3, none⟩ = some (.string y.nm))) _ from SD.out) (fun hHeld => ?_)
 clear hK K
 try simp only [Act.put, sA, sB, sC]
 refine wpAnyH_done (by kernel_rfl) ?_ _
 try refine NoPanic.normal ?_
 go_wp2_with fail
 go_roundw
 case rel => exact ⟨k + 1, _, by omega, by go_num, Lib.hid (HQ2.out.set 2 _), Lib.hid (HT2.out.set 2 _), Lib.hid (HO2.out.slot hBU)⟩
 case measure => simp [intOf]; omega
 ) : p := h
theorem zQRnm_5 {p : Prop} (h : p := by
 go_simp
 clear hHeld
 refine hK.out _ _ (show ((fun (W : World) => W.cell? ⟨w.heap.size, 4, none⟩ = some (.slice (some ⟨b, o, none⟩) m3 P.bec) ∧ W.cell? ⟨b, o + k * 3, none⟩ = some (.string y.nm))) _ from SB.out) (fun hHeld => ?_)
 clear hK K
 try simp only [Act.put, sA, sB, sC]
 refine hcall 11 (fun K hK => ?_)
 refine Lib.wp_append_run _ _ _ _ _ rfl _ _ rfl rfl _ _ hrun ?_
 clear hHeld
 refine hK.out _ _ (show ((fun (W : World) => W.cell? ⟨w.heap.size, 4, none⟩ = some (.slice (some ⟨b, o, none⟩) m3 P.bec) ∧ W.cell? ⟨b, o + k * 3, none⟩ = some (.string y.nm))) _ from SC.out) (fun hHeld => ?_)
 clear hK K
 try simp only [Act.put, sA, sB, sC]
 refine htake 12 ((.pointer (some ⟨B, 3, none⟩) : Value)) (hy := ?_) (h := ?_)
 · exact zQRnm_0
 try simp only [Act.put, sA, sB, sC]
 refine hcall 13 (fun K hK => ?_)
 go_simp
 clear hHeld
 refine hK.out _ _ (show ((fun (W : World) => W.cell? ⟨w.heap.size, 4, none⟩ = some (.slice (some ⟨b, o, none⟩) m3 P.bec) ∧ W.cell? ⟨b, o + k * 3, none⟩ = some (.string y.nm))) _ from SD.out) (fun hHeld => ?_)
 clear hK K
 try simp only [Act.put, sA, sB, sC]
 refine wpAnyH_done (by kernel_rfl) ?_ _
 try refine NoPanic.normal ?_
 go_wp2_with fail
 go_roundw
 case rel => exact ⟨k + 1, _, by omega, by go_num, Lib.hid (HQ2.out.set 3 _), Lib.hid (HT2.out.set 3 _), Lib.hid (HO2.out.slot hBU)⟩
 case measure => simp [intOf]; omega
 ) : p := h
theorem zQRnm_6 {p : Prop} (h : p := by rw [List.getElem?_map, List.getElem?_eq_getElem hkl, hy]; rfl) : p := h
set_option maxRecDepth 100000 in
theorem names_any (x : Ste) (P : PSte) (w : World) (hx : OSte (Lo w.heap.size) w x P) (hn : NzSte x) : Calls Tryz.prog 22 #[.agg (cSte x P)] w (fun e w' => ∃ B, e = .returned (.slice (some ⟨B, 0, none⟩) 10 10) ∧ w.heap.size ≤ B ∧ Below w.heap.size w w' ∧ NamesAt w' B x) := by
 have HX := Lib.hid hx
 have HZ := Lib.hid hn
 have FX := far (w := w) 42 (cSte x P)
 have hmk : ∀ W : World, (Instr.makeSlice 46 (.int .i64 10) (.int .i64 10)).run Tryz.prog W = .ok (.slice (some ⟨W.heap.size, 0, none⟩) 10 10) (W.alloc (.cells #[.slice none 0 0, .slice none 0 0, .slice none 0 0, .slice none 0 0, .slice none 0 0, .slice none 0 0, .slice none 0 0, .slice none 0 0, .slice none 0 0, .slice none 0 0] 37)) := fun W => by kernel_rfl
 clear hx hn
 go_enter Tryz.func22, Tryz.ntmps22
 go_wp2_with fail
 obtain ⟨U0, hU0⟩ : ∃ U, (w.alloc (.cells (cSte x P) 42)).alloc (.cells #[.slice none 0 0, .slice none 0 0, .slice none 0 0, .slice none 0 0, .slice none 0 0, .slice none 0 0, .slice none 0 0, .slice none 0 0, .slice none 0 0, .slice none 0 0] 37) = U := ⟨_, rfl⟩
 obtain ⟨B, hB⟩ : ∃ B, w.heap.size + 1 = B := ⟨_, rfl⟩
 have HB0 : Hid (Below (w.alloc (.cells (cSte x P) 42)).heap.size (w.alloc (.cells (cSte x P) 42)) U0) := Lib.hid (by rw [← hU0]; exact bl)
 have HBx0 : Hid (Box U0 B 37 #[.slice none 0 0, .slice none 0 0, .slice none 0 0, .slice none 0 0, .slice none 0 0, .slice none 0 0, .slice none 0 0, .slice none 0 0, .slice none 0 0, .slice none 0 0]) := Lib.hid (by rw [← hU0, ← hB, show w.heap.size + 1 = (w.alloc (.cells (cSte x P) 42)).heap.size by simp]; exact Box.new)
 have HBs : Hid ((w.alloc (.cells (cSte x P) 42)).heap.size ≤ B ∧ w.heap.size ≤ B) := Lib.hid ⟨by rw [← hB]; simp, by omega⟩
 try rw [hB]
 rw [hU0]
 clear hU0 hB hmk
 obtain ⟨m0, hm0⟩ : ∃ m, P.vam = m := ⟨_, rfl⟩
 have HL0 := Lib.hid (show x.va.length = m0 ∧ m0 < 1000000 by have := HX.out.va.1; have := HZ.out.va; omega)
 have FK0 : Hid (∀ W, Below (w.alloc (.cells (cSte x P) 42)).heap.size (w.alloc (.cells (cSte x P) 42)) W → W.cell? ⟨w.heap.size, 1, none⟩ = some (.slice P.vap m0 P.vac)) := Lib.hid fun W hb => (FX.out W hb).get (by rw [cSte1, hm0])
 have HR0 := Lib.hid (show Rw 3 RVal (Lo w.heap.size) w x.va P.vap m0 by rw [← hm0]; exact HX.out.va)
 clear hm0
 have t0 : (m0 : Int) ≤ 9223372036854775807 := by have := HL0.out; omega
 go_loopw [4] (fun i wr => ∃ (k : Nat) (v : Value), k ≤ m0 ∧ i = .int .i64 (k : Nat) ∧ Hid (Box wr B 37 #[v, .slice none 0 0, .slice none 0 0, .slice none 0 0, .slice none 0 0, .slice none 0 0, .slice none 0 0, .slice none 0 0, .slice none 0 0, .slice none 0 0]) ∧ Hid (But B U0 wr) ∧ Hid (OwnL 9 1 RTxt U0.heap.size wr v ((x.va.map (·.nm)).take k))) (fun i _ => m0 - (intOf i).toNat)
 case atStart => exact ⟨0, .slice none 0 0, Nat.zero_le _, rfl, HBx0, Lib.hid (But.refl _ _), Lib.hid OwnL.nil⟩
 case round =>
  obtain ⟨k, v, hk, rfl, HQ, HT, HO⟩ := hrel
  have k0 : (0 : Int) ≤ (k : Int) := by omega
  have hBU : B < U0.heap.size := HBx0.out.lt
  have HW : Hid (Below (w.alloc (.cells (cSte x P) 42)).heap.size (w.alloc (.cells (cSte x P) 42)) wr) := Lib.hid (But.below HB0.out HT.out HBs.out.1 HB0.out.size)
  have eS := FK0.out wr HW.out
  rcases Nat.lt_or_ge k m0 with h | h
  · have k1 : (k : Int) < (m0 : Int) := by omega
    have hkl : k < x.va.length := by rw [HL0.out.1]; exact h
    obtain ⟨b, o, hp, hbG, hG, hcell⟩ := (HR0.out.below RVal.map (show Below w.heap.size w wr by have HBB := HW.out; exact bl)).rows (by omega)
    rw [hp] at eS
    have hbU : b < U0.heap.size := Nat.lt_of_lt_of_le (show b < w.heap.size from hbG) (show Below w.heap.size w U0 by have HBB := HB0.out; exact bl).size
    have hbB : b ≠ B := by have h1 : b < w.heap.size := hbG; have h2 := HBs.out.2; omega
    obtain ⟨d, hds, hat, hR⟩ := hcell.out k hkl
    obtain ⟨y, hy⟩ : ∃ y, x.va[k] = y := ⟨_, rfl⟩
    have HTk : Hid ((x.va.map (·.nm)).take (k + 1) = (x.va.map (·.nm)).take k ++ [y.nm]) := Lib.hid (take_one zQRnm_6)
    rw [hy] at hR
    have a0 := hat.get (r := 0) (v := .string y.nm) (by rw [hR]; rfl)
    rw [show o + k * 3 + 0 = o + k * 3 by omega] at a0
    have eB := HQ.out.get (r := 0) (v := v) rfl
    have HO3 := HO.out.on RTxt.map (show Below wr.heap.size wr ((wr.drew).alloc (.cells #[.string y.nm] 9)) by exact bl) HT.out.size
    obtain ⟨v2, w2, hrun, ho2, hg2⟩ := OwnL.app1 HO3 (a := ⟨wr.heap.size, 0, none⟩) y.nm (by go_simp) 1 (Nat.le_trans HT.out.size (by simp)) (by rw [List.length_take]; have := HL0.out; omega)
    have hB3 : Box ((wr.drew).alloc (.cells #[.string y.nm] 9)) B 37 #[v, .slice none 0 0, .slice none 0 0, .slice none 0 0, .slice none 0 0, .slice none 0 0, .slice none 0 0, .slice none 0 0, .slice none 0 0, .slice none 0 0] := HQ.out.on bl
    have hB2 := hB3.grow HO3 hg2 hBU
    have hT2 : But B U0 w2 := (HT.out.then (show Below wr.heap.size wr ((wr.drew).alloc (.cells #[.string y.nm] 9)) by exact bl)).grow HO3 hg2 (Nat.le_refl _)
    have eB2 := hB2.get (r := 0) (v := v) rfl
    have eF2 : w2.frozen? ⟨B, 0, none⟩ = false := hB2.thaw
    rw [← HTk.out] at ho2
    obtain ⟨ps, ms, cs, rfl⟩ := ho2.slice
    have HW3 := Lib.hid (show Below wr.heap.size wr ((wr.drew).alloc (.cells #[.string y.nm] 9)) by exact bl)
    have hB3x := Lib.hid (hB3.get (r := 0) (v := v) rfl)
    have HKP : Hid (∀ W, But B U0 W → W.cell? ⟨b, o + k * 3, none⟩ = some (.string y.nm)) := Lib.hid fun W hW => (World.cell?_of_block (w := U0) (a := ⟨b, o + k * 3, none⟩) (hW.block b hbU hbB)).trans ((World.cell?_of_block (w := U0) (a := ⟨b, o + k * 3, none⟩) (HT.out.block b hbU hbB)).symm.trans a0)
    have HQ2 := Lib.hid hB2
    have HT2 := Lib.hid hT2
    have HO2 := Lib.hid ho2
    clear hcell hds hat hR hy hkl HO3 hB3 hB2 hT2 ho2 hg2
    go_wp2_with fail
    have sA : ((fun (W : World) => W.cell? ⟨w.heap.size, 1, none⟩ = some (.slice (some ⟨b, o, none⟩) m0 P.vac) ∧ W.cell? ⟨b, o + k * 3, none⟩ = some (.string y.nm))) wr.drew := ⟨eS, a0⟩
    have sB : ((fun (W : World) => W.cell? ⟨w.heap.size, 1, none⟩ = some (.slice (some ⟨b, o, none⟩) m0 P.vac) ∧ W.cell? ⟨b, o + k * 3, none⟩ = some (.string y.nm))) ((wr.drew).alloc (.cells #[.string y.nm] 9)) := ⟨(HW3.out.cell (p := ⟨w.heap.size, 1, none⟩) (block_lt eS)).trans eS, (HW3.out.cell (p := ⟨b, o + k * 3, none⟩) (block_lt a0)).trans a0⟩
    have sC : ((fun (W : World) => W.cell? ⟨w.heap.size, 1, none⟩ = some (.slice (some ⟨b, o, none⟩) m0 P.vac) ∧ W.cell? ⟨b, o + k * 3, none⟩ = some (.string y.nm))) w2 := ⟨FK0.out w2 (But.below HB0.out HT2.out HBs.out.1 HB0.out.size) |>.trans (by rw [hp]), HKP.out w2 HT2.out⟩
    have sD : ((fun (W : World) => W.cell? ⟨w.heap.size, 1, none⟩ = some (.slice (some ⟨b, o, none⟩) m0 P.vac) ∧ W.cell? ⟨b, o + k * 3, none⟩ = some (.string y.nm))) (w2.setCell ⟨B, 0, none⟩ (.slice ps ms cs)) := ⟨FK0.out _ (But.below HB0.out (HT2.out.set 0 _) HBs.out.1 HB0.out.size) |>.trans (by rw [hp]), HKP.out _ (HT2.out.set 0 _)⟩
    have eB0 : (wr.drew).cell? ⟨B, 0, none⟩ = some v := eB
    have eB3 : ((wr.drew).alloc (.cells #[.string y.nm] 9)).cell? ⟨B, 0, none⟩ = some v := hB3x.out
    have eB3b : (wr.alloc (.cells #[.string y.nm] 9)).cell? ⟨B, 0, none⟩ = some v := hB3x.out
    have SA := Lib.hid sA
    have SB := Lib.hid sB
    have SC := Lib.hid sC
    have SD := Lib.hid sD
    clear sA sB sC sD
    refine wp_region_held_drew (S := (fun (W : World) => W.cell? ⟨w.heap.size, 1, none⟩ = some (.slice (some ⟨b, o, none⟩) m0 P.vac) ∧ W.cell? ⟨b, o + k * 3, none⟩ = some (.string y.nm))) (by kernel_rfl) SA.out (fun hHeld => ?_)
    refine htake 0 ((.slice (some ⟨B, 0, none⟩) 10 10 : Value)) (hy := ?_) (h := ?_)
    · exact zQRnm_0
    try simp only [Act.put, sA, sB, sC]
    refine htake 1 ((.slice (some ⟨B, 0, none⟩) 10 10 : Value)) (hy := ?_) (h := ?_)
    · exact zQRnm_0
    try simp only [Act.put, sA, sB, sC]
    refine htake 2 ((.pointer (some ⟨B, 0, none⟩) : Value)) (hy := ?_) (h := ?_)
    · exact zQRnm_0
    try simp only [Act.put, sA, sB, sC]
    refine htake 4 ((.pointer (some ⟨w.heap.size, 1, none⟩) : Value)) (hy := ?_) (h := ?_)
    · exact zQRnm_0
    try simp only [Act.put, sA, sB, sC]
    refine htake 5 ((.slice (some ⟨b, o, none⟩) m0 P.vac : Value)) (hy := ?_) (h := ?_)
    · exact zQRnm_0
    try simp only [Act.put, sA, sB, sC]
    refine htake 6 ((.int .i64 (k : Nat) : Value)) (hy := ?_) (h := ?_)
    · exact zQRnm_0
    try simp only [Act.put, sA, sB, sC]
    refine htake 7 ((.pointer (some ⟨b, o + k * 3, none⟩) : Value)) (hy := ?_) (h := ?_)
    · exact zQRnm_0
    try simp only [Act.put, sA, sB, sC]
    refine htake 8 ((.pointer (some ⟨b, o + k * 3, none⟩) : Value)) (hy := ?_) (h := ?_)
    · exact zQRnm_0
    try simp only [Act.put, sA, sB, sC]
    refine htake 9 ((.string y.nm : Value)) (hy := ?_) (h := ?_)
    · exact zQRnm_0
    try simp only [Act.put, sA, sB, sC]
    refine hrdy [3, 10] ?_
    refine hcons (fun K hK => ?_) ?_
    rotate_left 1
    · refine hcons (fun K hK => ?_) AllReadyH.nil
      go_simp
      clear hHeld
      refine hK.out _ _ (show ((fun (W : World) => W.cell? ⟨w.heap.size, 1, none⟩ = some (.slice (some ⟨b, o, none⟩) m0 P.vac) ∧ W.cell? ⟨b, o + k * 3, none⟩ = some (.string y.nm))) _ from SB.out) (fun hHeld => ?_)
      clear hK K
      try simp only [Act.put, sA, sB, sC]
      refine hcall 3 (fun K hK => ?_)
      exact zQRnm_3
    go_simp
    clear hHeld
    refine hK.out _ _ (show ((fun (W : World) => W.cell? ⟨w.heap.size, 1, none⟩ = some (.slice (some ⟨b, o, none⟩) m0 P.vac) ∧ W.cell? ⟨b, o + k * 3, none⟩ = some (.string y.nm))) _ from SA.out) (fun hHeld => ?_)
    clear hK K
    try simp only [Act.put, sA, sB, sC]
    refine hcall 10 (fun K hK => ?_)
    exact zQRnm_3
  · obtain rfl : m0 = k := by omega
    go_wp2_with fail
    obtain ⟨p0, c0, hv0, hr0⟩ := HO.out.rwB hBU (by rw [List.length_take]; have := HL0.out; omega)
    rw [List.take_of_length_le (by rw [List.length_map, HL0.out.1]; exact Nat.le_refl _), List.length_map, HL0.out.1] at hv0 hr0
    subst hv0
    have N0 := Lib.hid hr0
    have HB1 := HW
    have HBx1 := HQ
    obtain ⟨U1, hU1⟩ : ∃ U, U = wr := ⟨_, rfl⟩
    subst hU1
    clear HW HQ HT HO eS hr0 k0 h hk
    obtain ⟨m1, hm1⟩ : ∃ m, P.rsm = m := ⟨_, rfl⟩
    have HL1 := Lib.hid (show x.rs.length = m1 ∧ m1 < 1000000 by have := HX.out.rs.1; have := HZ.out.rs; omega)
    have FK1 : Hid (∀ W, Below (w.alloc (.cells (cSte x P) 42)).heap.size (w.alloc (.cells (cSte x P) 42)) W → W.cell? ⟨w.heap.size, 2, none⟩ = some (.slice P.rsp m1 P.rsc)) := Lib.hid fun W hb => (FX.out W hb).get (by rw [cSte2, hm1])
    have HR1 := Lib.hid (show Rw 17 RRes (Lo w.heap.size) w x.rs P.rsp m1 by rw [← hm1]; exact HX.out.rs)
    clear hm1
    have t1 : (m1 : Int) ≤ 9223372036854775807 := by have := HL1.out; omega
    go_loopw [5] (fun i wr => ∃ (k : Nat) (v : Value), k ≤ m1 ∧ i = .int .i64 (k : Nat) ∧ Hid (Box wr B 37 #[.slice p0 m0 c0, v, .slice none 0 0, .slice none 0 0, .slice none 0 0, .slice none 0 0, .slice none 0 0, .slice none 0 0, .slice none 0 0, .slice none 0 0]) ∧ Hid (But B U1 wr) ∧ Hid (OwnL 9 1 RTxt U1.heap.size wr v ((x.rs.map (·.nm)).take k))) (fun i _ => m1 - (intOf i).toNat)
    case atStart => exact ⟨0, .slice none 0 0, Nat.zero_le _, rfl, HBx1, Lib.hid (But.refl _ _), Lib.hid OwnL.nil⟩
    case round =>
     obtain ⟨k, v, hk, rfl, HQ, HT, HO⟩ := hrel
     have k0 : (0 : Int) ≤ (k : Int) := by omega
     have hBU : B < U1.heap.size := HBx1.out.lt
     have HW : Hid (Below (w.alloc (.cells (cSte x P) 42)).heap.size (w.alloc (.cells (cSte x P) 42)) wr) := Lib.hid (But.below HB1.out HT.out HBs.out.1 HB1.out.size)
     have eS := FK1.out wr HW.out
     rcases Nat.lt_or_ge k m1 with h | h
     · have k1 : (k : Int) < (m1 : Int) := by omega
       have hkl : k < x.rs.length := by rw [HL1.out.1]; exact h
       obtain ⟨b, o, hp, hbG, hG, hcell⟩ := (HR1.out.below RRes.map (show Below w.heap.size w wr by have HBB := HW.out; exact bl)).rows (by omega)
       rw [hp] at eS
       have hbU : b < U1.heap.size := Nat.lt_of_lt_of_le (show b < w.heap.size from hbG) (show Below w.heap.size w U1 by have HBB := HB1.out; exact bl).size
       have hbB : b ≠ B := by have h1 : b < w.heap.size := hbG; have h2 := HBs.out.2; omega
       obtain ⟨d, hds, hat, hR⟩ := hcell.out k hkl
       obtain ⟨y, hy⟩ : ∃ y, x.rs[k] = y := ⟨_, rfl⟩
       have HTk : Hid ((x.rs.map (·.nm)).take (k + 1) = (x.rs.map (·.nm)).take k ++ [y.nm]) := Lib.hid (take_one zQRnm_6)
       rw [hy] at hR
       obtain ⟨Q, hdQ, -⟩ := hR
       have a0 := hat.get (r := 0) (v := .string y.nm) (by rw [hdQ]; rfl)
       rw [show o + k * 17 + 0 = o + k * 17 by omega] at a0
       have eB := HQ.out.get (r := 1) (v := v) rfl
       have HO3 := HO.out.on RTxt.map (show Below wr.heap.size wr ((wr.drew).alloc (.cells #[.string y.nm] 9)) by exact bl) HT.out.size
       obtain ⟨v2, w2, hrun, ho2, hg2⟩ := OwnL.app1 HO3 (a := ⟨wr.heap.size, 0, none⟩) y.nm (by go_simp) 1 (Nat.le_trans HT.out.size (by simp)) (by rw [List.length_take]; have := HL1.out; omega)
       have hB3 : Box ((wr.drew).alloc (.cells #[.string y.nm] 9)) B 37 #[.slice p0 m0 c0, v, .slice none 0 0, .slice none 0 0, .slice none 0 0, .slice none 0 0, .slice none 0 0, .slice none 0 0, .slice none 0 0, .slice none 0 0] := HQ.out.on bl
       have hB2 := hB3.grow HO3 hg2 hBU
       have hT2 : But B U1 w2 := (HT.out.then (show Below wr.heap.size wr ((wr.drew).alloc (.cells #[.string y.nm] 9)) by exact bl)).grow HO3 hg2 (Nat.le_refl _)
       have eB2 := hB2.get (r := 1) (v := v) rfl
       have eF2 : w2.frozen? ⟨B, 1, none⟩ = false := hB2.thaw
       rw [← HTk.out] at ho2
       obtain ⟨ps, ms, cs, rfl⟩ := ho2.slice
       have HW3 := Lib.hid (show Below wr.heap.size wr ((wr.drew).alloc (.cells #[.string y.nm] 9)) by exact bl)
       have hB3x := Lib.hid (hB3.get (r := 1) (v := v) rfl)
       have HKP : Hid (∀ W, But B U1 W → W.cell? ⟨b, o + k * 17, none⟩ = some (.string y.nm)) := Lib.hid fun W hW => (World.cell?_of_block (w := U1) (a := ⟨b, o + k * 17, none⟩) (hW.block b hbU hbB)).trans ((World.cell?_of_block (w := U1) (a := ⟨b, o + k * 17, none⟩) (HT.out.block b hbU hbB)).symm.trans a0)
       have HQ2 := Lib.hid hB2
       have HT2 := Lib.hid hT2
       have HO2 := Lib.hid ho2
       clear hcell hds hat hdQ hy hkl HO3 hB3 hB2 hT2 ho2 hg2
       go_wp2_with fail
       have sA : ((fun (W : World) => W.cell? ⟨w.heap.size, 2, none⟩ = some (.slice (some ⟨b, o, none⟩) m1 P.rsc) ∧ W.cell? ⟨b, o + k * 17, none⟩ = some (.string y.nm))) wr.drew := ⟨eS, a0⟩
       have sB : ((fun (W : World) => W.cell? ⟨w.heap.size, 2, none⟩ = some (.slice (some ⟨b, o, none⟩) m1 P.rsc) ∧ W.cell? ⟨b, o + k * 17, none⟩ = some (.string y.nm))) ((wr.drew).alloc (.cells #[.string y.nm] 9)) := ⟨(HW3.out.cell (p := ⟨w.heap.size, 2, none⟩) (block_lt eS)).trans eS, (HW3.out.cell (p := ⟨b, o + k * 17, none⟩) (block_lt a0)).trans a0⟩
       have sC : ((fun (W : World) => W.cell? ⟨w.heap.size, 2, none⟩ = some (.slice (some ⟨b, o, none⟩) m1 P.rsc) ∧ W.cell? ⟨b, o + k * 17, none⟩ = some (.string y.nm))) w2 := ⟨FK1.out w2 (But.below HB1.out HT2.out HBs.out.1 HB1.out.size) |>.trans (by rw [hp]), HKP.out w2 HT2.out⟩
       have sD : ((fun (W : World) => W.cell? ⟨w.heap.size, 2, none⟩ = some (.slice (some ⟨b, o, none⟩) m1 P.rsc) ∧ W.cell? ⟨b, o + k * 17, none⟩ = some (.string y.nm))) (w2.setCell ⟨B, 1, none⟩ (.slice ps ms cs)) := ⟨FK1.out _ (But.below HB1.out (HT2.out.set 1 _) HBs.out.1 HB1.out.size) |>.trans (by rw [hp]), HKP.out _ (HT2.out.set 1 _)⟩
       have eB0 : (wr.drew).cell? ⟨B, 1, none⟩ = some v := eB
       have eB3 : ((wr.drew).alloc (.cells #[.string y.nm] 9)).cell? ⟨B, 1, none⟩ = some v := hB3x.out
       have eB3b : (wr.alloc (.cells #[.string y.nm] 9)).cell? ⟨B, 1, none⟩ = some v := hB3x.out
       have SA := Lib.hid sA
       have SB := Lib.hid sB
       have SC := Lib.hid sC
       have SD := Lib.hid sD
       clear sA sB sC sD
       refine wp_region_held_drew (S := (fun (W : World) => W.cell? ⟨w.heap.size, 2, none⟩ = some (.slice (some ⟨b, o, none⟩) m1 P.rsc) ∧ W.cell? ⟨b, o + k * 17, none⟩ = some (.string y.nm))) (by kernel_rfl) SA.out (fun hHeld => ?_)
       refine htake 0 ((.slice (some ⟨B, 0, none⟩) 10 10 : Value)) (hy := ?_) (h := ?_)
       · exact zQRnm_0
       try simp only [Act.put, sA, sB, sC]
       refine htake 1 ((.slice (some ⟨B, 0, none⟩) 10 10 : Value)) (hy := ?_) (h := ?_)
       · exact zQRnm_0
       try simp only [Act.put, sA, sB, sC]
       refine htake 2 ((.pointer (some ⟨B, 1, none⟩) : Value)) (hy := ?_) (h := ?_)
       · exact zQRnm_0
       try simp only [Act.put, sA, sB, sC]
       refine htake 4 ((.pointer (some ⟨w.heap.size, 2, none⟩) : Value)) (hy := ?_) (h := ?_)
       · exact zQRnm_0
       try simp only [Act.put, sA, sB, sC]
       refine htake 5 ((.slice (some ⟨b, o, none⟩) m1 P.rsc : Value)) (hy := ?_) (h := ?_)
       · exact zQRnm_0
       try simp only [Act.put, sA, sB, sC]
       refine htake 6 ((.int .i64 (k : Nat) : Value)) (hy := ?_) (h := ?_)
       · exact zQRnm_0
       try simp only [Act.put, sA, sB, sC]
       refine htake 7 ((.pointer (some ⟨b, o + k * 17, none⟩) : Value)) (hy := ?_) (h := ?_)
       · exact zQRnm_0
       try simp only [Act.put, sA, sB, sC]
       refine htake 8 ((.pointer (some ⟨b, o + k * 17, none⟩) : Value)) (hy := ?_) (h := ?_)
       · exact zQRnm_0
       try simp only [Act.put, sA, sB, sC]
       refine htake 9 ((.string y.nm : Value)) (hy := ?_) (h := ?_)
       · exact zQRnm_0
       try simp only [Act.put, sA, sB, sC]
       refine hrdy [3, 10] ?_
       refine hcons (fun K hK => ?_) ?_
       rotate_left 1
       · refine hcons (fun K hK => ?_) AllReadyH.nil
         go_simp
         clear hHeld
         refine hK.out _ _ (show ((fun (W : World) => W.cell? ⟨w.heap.size, 2, none⟩ = some (.slice (some ⟨b, o, none⟩) m1 P.rsc) ∧ W.cell? ⟨b, o + k * 17, none⟩ = some (.string y.nm))) _ from SB.out) (fun hHeld => ?_)
         clear hK K
         try simp only [Act.put, sA, sB, sC]
         refine hcall 3 (fun K hK => ?_)
         exact zQRnm_1
       go_simp
       clear hHeld
       refine hK.out _ _ (show ((fun (W : World) => W.cell? ⟨w.heap.size, 2, none⟩ = some (.slice (some ⟨b, o, none⟩) m1 P.rsc) ∧ W.cell? ⟨b, o + k * 17, none⟩ = some (.string y.nm))) _ from SA.out) (fun hHeld => ?_)
       clear hK K
       try simp only [Act.put, sA, sB, sC]
       refine hcall 10 (fun K hK => ?_)
       exact zQRnm_1
     · obtain rfl : m1 = k := by omega
       go_wp2_with fail
       obtain ⟨p1, c1, hv1, hr1⟩ := HO.out.rwB hBU (by rw [List.length_take]; have := HL1.out; omega)
       rw [List.take_of_length_le (by rw [List.length_map, HL1.out.1]; exact Nat.le_refl _), List.length_map, HL1.out.1] at hv1 hr1
       subst hv1
       have N1 := Lib.hid hr1
       replace N0 := Lib.hid (N0.out.but HT.out)
       have HB2 := HW
       have HBx2 := HQ
       obtain ⟨U2, hU2⟩ : ∃ U, U = wr := ⟨_, rfl⟩
       subst hU2
       clear HW HQ HT HO eS hr1 k0 h hk
       obtain ⟨m2, hm2⟩ : ∃ m, P.stm = m := ⟨_, rfl⟩
       have HL2 := Lib.hid (show x.st.length = m2 ∧ m2 < 1000000 by have := HX.out.st.1; have := HZ.out.st; omega)
       have FK2 : Hid (∀ W, Below (w.alloc (.cells (cSte x P) 42)).heap.size (w.alloc (.cells (cSte x P) 42)) W → W.cell? ⟨w.heap.size, 3, none⟩ = some (.slice P.stp m2 P.stc)) := Lib.hid fun W hb => (FX.out W hb).get (by rw [cSte3, hm2])
       have HR2 := Lib.hid (show Rw 3 RSto (Lo w.heap.size) w x.st P.stp m2 by rw [← hm2]; exact HX.out.st)
       clear hm2
       have t2 : (m2 : Int) ≤ 9223372036854775807 := by have := HL2.out; omega
       go_loopw [6] (fun i wr => ∃ (k : Nat) (v : Value), k ≤ m2 ∧ i = .int .i64 (k : Nat) ∧ Hid (Box wr B 37 #[.slice p0 m0 c0, .slice p1 m1 c1, v, .slice none 0 0, .slice none 0 0, .slice none 0 0, .slice none 0 0, .slice none 0 0, .slice none 0 0, .slice none 0 0]) ∧ Hid (But B U2 wr) ∧ Hid (OwnL 9 1 RTxt U2.heap.size wr v ((x.st.map (·.nm)).take k))) (fun i _ => m2 - (intOf i).toNat)
       case atStart => exact ⟨0, .slice none 0 0, Nat.zero_le _, rfl, HBx2, Lib.hid (But.refl _ _), Lib.hid OwnL.nil⟩
       case round =>
        obtain ⟨k, v, hk, rfl, HQ, HT, HO⟩ := hrel
        have k0 : (0 : Int) ≤ (k : Int) := by omega
        have hBU : B < U2.heap.size := HBx2.out.lt
        have HW : Hid (Below (w.alloc (.cells (cSte x P) 42)).heap.size (w.alloc (.cells (cSte x P) 42)) wr) := Lib.hid (But.below HB2.out HT.out HBs.out.1 HB2.out.size)
        have eS := FK2.out wr HW.out
        rcases Nat.lt_or_ge k m2 with h | h
        · have k1 : (k : Int) < (m2 : Int) := by omega
          have hkl : k < x.st.length := by rw [HL2.out.1]; exact h
          obtain ⟨b, o, hp, hbG, hG, hcell⟩ := (HR2.out.below RSto.map (show Below w.heap.size w wr by have HBB := HW.out; exact bl)).rows (by omega)
          rw [hp] at eS
          have hbU : b < U2.heap.size := Nat.lt_of_lt_of_le (show b < w.heap.size from hbG) (show Below w.heap.size w U2 by have HBB := HB2.out; exact bl).size
          have hbB : b ≠ B := by have h1 : b < w.heap.size := hbG; have h2 := HBs.out.2; omega
          obtain ⟨d, hds, hat, hR⟩ := hcell.out k hkl
          obtain ⟨y, hy⟩ : ∃ y, x.st[k] = y := ⟨_, rfl⟩
          have HTk : Hid ((x.st.map (·.nm)).take (k + 1) = (x.st.map (·.nm)).take k ++ [y.nm]) := Lib.hid (take_one zQRnm_6)
          rw [hy] at hR
          have a0 := hat.get (r := 0) (v := .string y.nm) (by rw [hR]; rfl)
          rw [show o + k * 3 + 0 = o + k * 3 by omega] at a0
          have eB := HQ.out.get (r := 2) (v := v) rfl
          have HO3 := HO.out.on RTxt.map (show Below wr.heap.size wr ((wr.drew).alloc (.cells #[.string y.nm] 9)) by exact bl) HT.out.size
          obtain ⟨v2, w2, hrun, ho2, hg2⟩ := OwnL.app1 HO3 (a := ⟨wr.heap.size, 0, none⟩) y.nm (by go_simp) 1 (Nat.le_trans HT.out.size (by simp)) (by rw [List.length_take]; have := HL2.out; omega)
          have hB3 : Box ((wr.drew).alloc (.cells #[.string y.nm] 9)) B 37 #[.slice p0 m0 c0, .slice p1 m1 c1, v, .slice none 0 0, .slice none 0 0, .slice none 0 0, .slice none 0 0, .slice none 0 0, .slice none 0 0, .slice none 0 0] := HQ.out.on bl
          have hB2 := hB3.grow HO3 hg2 hBU
          have hT2 : But B U2 w2 := (HT.out.then (show Below wr.heap.size wr ((wr.drew).alloc (.cells #[.string y.nm] 9)) by exact bl)).grow HO3 hg2 (Nat.le_refl _)
          have eB2 := hB2.get (r := 2) (v := v) rfl
          have eF2 : w2.frozen? ⟨B, 2, none⟩ = false := hB2.thaw
          rw [← HTk.out] at ho2
          obtain ⟨ps, ms, cs, rfl⟩ := ho2.slice
          have HW3 := Lib.hid (show Below wr.heap.size wr ((wr.drew).alloc (.cells #[.string y.nm] 9)) by exact bl)
          have hB3x := Lib.hid (hB3.get (r := 2) (v := v) rfl)
          have HKP : Hid (∀ W, But B U2 W → W.cell? ⟨b, o + k * 3, none⟩ = some (.string y.nm)) := Lib.hid fun W hW => (World.cell?_of_block (w := U2) (a := ⟨b, o + k * 3, none⟩) (hW.block b hbU hbB)).trans ((World.cell?_of_block (w := U2) (a := ⟨b, o + k * 3, none⟩) (HT.out.block b hbU hbB)).symm.trans a0)
          have HQ2 := Lib.hid hB2
          have HT2 := Lib.hid hT2
          have HO2 := Lib.hid ho2
          clear hcell hds hat hR hy hkl HO3 hB3 hB2 hT2 ho2 hg2
          go_wp2_with fail
          have sA : ((fun (W : World) => W.cell? ⟨w.heap.size, 3, none⟩ = some (.slice (some ⟨b, o, none⟩) m2 P.stc) ∧ W.cell? ⟨b, o + k * 3, none⟩ = some (.string y.nm))) wr.drew := ⟨eS, a0⟩
          have sB : ((fun (W : World) => W.cell? ⟨w.heap.size, 3, none⟩ = some (.slice (some ⟨b, o, none⟩) m2 P.stc) ∧ W.cell? ⟨b, o + k * 3, none⟩ = some (.string y.nm))) ((wr.drew).alloc (.cells #[.string y.nm] 9)) := ⟨(HW3.out.cell (p := ⟨w.heap.size, 3, none⟩) (block_lt eS)).trans eS, (HW3.out.cell (p := ⟨b, o + k * 3, none⟩) (block_lt a0)).trans a0⟩
          have sC : ((fun (W : World) => W.cell? ⟨w.heap.size, 3, none⟩ = some (.slice (some ⟨b, o, none⟩) m2 P.stc) ∧ W.cell? ⟨b, o + k * 3, none⟩ = some (.string y.nm))) w2 := ⟨FK2.out w2 (But.below HB2.out HT2.out HBs.out.1 HB2.out.size) |>.trans (by rw [hp]), HKP.out w2 HT2.out⟩
          have sD : ((fun (W : World) => W.cell? ⟨w.heap.size, 3, none⟩ = some (.slice (some ⟨b, o, none⟩) m2 P.stc) ∧ W.cell? ⟨b, o + k * 3, none⟩ = some (.string y.nm))) (w2.setCell ⟨B, 2, none⟩ (.slice ps ms cs)) := ⟨FK2.out _ (But.below HB2.out (HT2.out.set 2 _) HBs.out.1 HB2.out.size) |>.trans (by rw [hp]), HKP.out _ (HT2.out.set 2 _)⟩
          have eB0 : (wr.drew).cell? ⟨B, 2, none⟩ = some v := eB
          have eB3 : ((wr.drew).alloc (.cells #[.string y.nm] 9)).cell? ⟨B, 2, none⟩ = some v := hB3x.out
          have eB3b : (wr.alloc (.cells #[.string y.nm] 9)).cell? ⟨B, 2, none⟩ = some v := hB3x.out
          have SA := Lib.hid sA
          have SB := Lib.hid sB
          have SC := Lib.hid sC
          have SD := Lib.hid sD
          clear sA sB sC sD
          refine wp_region_held_drew (S := (fun (W : World) => W.cell? ⟨w.heap.size, 3, none⟩ = some (.slice (some ⟨b, o, none⟩) m2 P.stc) ∧ W.cell? ⟨b, o + k * 3, none⟩ = some (.string y.nm))) (by kernel_rfl) SA.out (fun hHeld => ?_)
          refine htake 0 ((.slice (some ⟨B, 0, none⟩) 10 10 : Value)) (hy := ?_) (h := ?_)
          · exact zQRnm_0
          try simp only [Act.put, sA, sB, sC]
          refine htake 1 ((.slice (some ⟨B, 0, none⟩) 10 10 : Value)) (hy := ?_) (h := ?_)
          · exact zQRnm_0
          try simp only [Act.put, sA, sB, sC]
          refine htake 2 ((.pointer (some ⟨B, 2, none⟩) : Value)) (hy := ?_) (h := ?_)
          · exact zQRnm_0
          try simp only [Act.put, sA, sB, sC]
          refine htake 4 ((.pointer (some ⟨w.heap.size, 3, none⟩) : Value)) (hy := ?_) (h := ?_)
          · exact zQRnm_0
          try simp only [Act.put, sA, sB, sC]
          refine htake 5 ((.slice (some ⟨b, o, none⟩) m2 P.stc : Value)) (hy := ?_) (h := ?_)
          · exact zQRnm_0
          try simp only [Act.put, sA, sB, sC]
          refine htake 6 ((.int .i64 (k : Nat) : Value)) (hy := ?_) (h := ?_)
          · exact zQRnm_0
          try simp only [Act.put, sA, sB, sC]
          refine htake 7 ((.pointer (some ⟨b, o + k * 3, none⟩) : Value)) (hy := ?_) (h := ?_)
          · exact zQRnm_0
          try simp only [Act.put, sA, sB, sC]
          refine htake 8 ((.pointer (some ⟨b, o + k * 3, none⟩) : Value)) (hy := ?_) (h := ?_)
          · exact zQRnm_0
          try simp only [Act.put, sA, sB, sC]
          refine htake 9 ((.string y.nm : Value)) (hy := ?_) (h := ?_)
          · exact zQRnm_0
          try simp only [Act.put, sA, sB, sC]
          refine hrdy [3, 10] ?_
          refine hcons (fun K hK => ?_) ?_
          rotate_left 1
          · refine hcons (fun K hK => ?_) AllReadyH.nil
            go_simp
            clear hHeld
            refine hK.out _ _ (show ((fun (W : World) => W.cell? ⟨w.heap.size, 3, none⟩ = some (.slice (some ⟨b, o, none⟩) m2 P.stc) ∧ W.cell? ⟨b, o + k * 3, none⟩ = some (.string y.nm))) _ from SB.out) (fun hHeld => ?_)
            clear hK K
            try simp only [Act.put, sA, sB, sC]
            refine hcall 3 (fun K hK => ?_)
            exact zQRnm_4
          go_simp
          clear hHeld
          refine hK.out _ _ (show ((fun (W : World) => W.cell? ⟨w.heap.size, 3, none⟩ = some (.slice (some ⟨b, o, none⟩) m2 P.stc) ∧ W.cell? ⟨b, o + k * 3, none⟩ = some (.string y.nm))) _ from SA.out) (fun hHeld => ?_)
          clear hK K
          try simp only [Act.put, sA, sB, sC]
          refine hcall 10 (fun K hK => ?_)
          exact zQRnm_4
        · obtain rfl : m2 = k := by omega
          go_wp2_with fail
          obtain ⟨p2, c2, hv2, hr2⟩ := HO.out.rwB hBU (by rw [List.length_take]; have := HL2.out; omega)
          rw [List.take_of_length_le (by rw [List.length_map, HL2.out.1]; exact Nat.le_refl _), List.length_map, HL2.out.1] at hv2 hr2
          subst hv2
          have N2 := Lib.hid hr2
          replace N0 := Lib.hid (N0.out.but HT.out)
          replace N1 := Lib.hid (N1.out.but HT.out)
          have HB3 := HW
          have HBx3 := HQ
          obtain ⟨U3, hU3⟩ : ∃ U, U = wr := ⟨_, rfl⟩
          subst hU3
          clear HW HQ HT HO eS hr2 k0 h hk
          obtain ⟨m3, hm3⟩ : ∃ m, P.bem = m := ⟨_, rfl⟩
          have HL3 := Lib.hid (show x.be.length = m3 ∧ m3 < 1000000 by have := HX.out.be.1; have := HZ.out.be; omega)
          have FK3 : Hid (∀ W, Below (w.alloc (.cells (cSte x P) 42)).heap.size (w.alloc (.cells (cSte x P) 42)) W → W.cell? ⟨w.heap.size, 4, none⟩ = some (.slice P.bep m3 P.bec)) := Lib.hid fun W hb => (FX.out W hb).get (by rw [cSte4, hm3])
          have HR3 := Lib.hid (show Rw 3 RBlt (Lo w.heap.size) w x.be P.bep m3 by rw [← hm3]; exact HX.out.be)
          clear hm3
          have t3 : (m3 : Int) ≤ 9223372036854775807 := by have := HL3.out; omega
          go_loopw [7] (fun i wr => ∃ (k : Nat) (v : Value), k ≤ m3 ∧ i = .int .i64 (k : Nat) ∧ Hid (Box wr B 37 #[.slice p0 m0 c0, .slice p1 m1 c1, .slice p2 m2 c2, v, .slice none 0 0, .slice none 0 0, .slice none 0 0, .slice none 0 0, .slice none 0 0, .slice none 0 0]) ∧ Hid (But B U3 wr) ∧ Hid (OwnL 9 1 RTxt U3.heap.size wr v ((x.be.map (·.nm)).take k))) (fun i _ => m3 - (intOf i).toNat)
          case atStart => exact ⟨0, .slice none 0 0, Nat.zero_le _, rfl, HBx3, Lib.hid (But.refl _ _), Lib.hid OwnL.nil⟩
          case round =>
           obtain ⟨k, v, hk, rfl, HQ, HT, HO⟩ := hrel
           have k0 : (0 : Int) ≤ (k : Int) := by omega
           have hBU : B < U3.heap.size := HBx3.out.lt
           have HW : Hid (Below (w.alloc (.cells (cSte x P) 42)).heap.size (w.alloc (.cells (cSte x P) 42)) wr) := Lib.hid (But.below HB3.out HT.out HBs.out.1 HB3.out.size)
           have eS := FK3.out wr HW.out
           rcases Nat.lt_or_ge k m3 with h | h
           · have k1 : (k : Int) < (m3 : Int) := by omega
             have hkl : k < x.be.length := by rw [HL3.out.1]; exact h
             obtain ⟨b, o, hp, hbG, hG, hcell⟩ := (HR3.out.below RBlt.map (show Below w.heap.size w wr by have HBB := HW.out; exact bl)).rows (by omega)
             rw [hp] at eS
             have hbU : b < U3.heap.size := Nat.lt_of_lt_of_le (show b < w.heap.size from hbG) (show Below w.heap.size w U3 by have HBB := HB3.out; exact bl).size
             have hbB : b ≠ B := by have h1 : b < w.heap.size := hbG; have h2 := HBs.out.2; omega
             obtain ⟨d, hds, hat, hR⟩ := hcell.out k hkl
             obtain ⟨y, hy⟩ : ∃ y, x.be[k] = y := ⟨_, rfl⟩
             have HTk : Hid ((x.be.map (·.nm)).take (k + 1) = (x.be.map (·.nm)).take k ++ [y.nm]) := Lib.hid (take_one zQRnm_6)
             rw [hy] at hR
             have a0 := hat.get (r := 0) (v := .string y.nm) (by rw [hR]; rfl)
             rw [show o + k * 3 + 0 = o + k * 3 by omega] at a0
             have eB := HQ.out.get (r := 3) (v := v) rfl
             have HO3 := HO.out.on RTxt.map (show Below wr.heap.size wr ((wr.drew).alloc (.cells #[.string y.nm] 9)) by exact bl) HT.out.size
             obtain ⟨v2, w2, hrun, ho2, hg2⟩ := OwnL.app1 HO3 (a := ⟨wr.heap.size, 0, none⟩) y.nm (by go_simp) 1 (Nat.le_trans HT.out.size (by simp)) (by rw [List.length_take]; have := HL3.out; omega)
             have hB3 : Box ((wr.drew).alloc (.cells #[.string y.nm] 9)) B 37 #[.slice p0 m0 c0, .slice p1 m1 c1, .slice p2 m2 c2, v, .slice none 0 0, .slice none 0 0, .slice none 0 0, .slice none 0 0, .slice none 0 0, .slice none 0 0] := HQ.out.on bl
             have hB2 := hB3.grow HO3 hg2 hBU
             have hT2 : But B U3 w2 := (HT.out.then (show Below wr.heap.size wr ((wr.drew).alloc (.cells #[.string y.nm] 9)) by exact bl)).grow HO3 hg2 (Nat.le_refl _)
             have eB2 := hB2.get (r := 3) (v := v) rfl
             have eF2 : w2.frozen? ⟨B, 3, none⟩ = false := hB2.thaw
             rw [← HTk.out] at ho2
             obtain ⟨ps, ms, cs, rfl⟩ := ho2.slice
             have HW3 := Lib.hid (show Below wr.heap.size wr ((wr.drew).alloc (.cells #[.string y.nm] 9)) by exact bl)
             have hB3x := Lib.hid (hB3.get (r := 3) (v := v) rfl)
             have HKP : Hid (∀ W, But B U3 W → W.cell? ⟨b, o + k * 3, none⟩ = some (.string y.nm)) := Lib.hid fun W hW => (World.cell?_of_block (w := U3) (a := ⟨b, o + k * 3, none⟩) (hW.block b hbU hbB)).trans ((World.cell?_of_block (w := U3) (a := ⟨b, o + k * 3, none⟩) (HT.out.block b hbU hbB)).symm.trans a0)
             have HQ2 := Lib.hid hB2
             have HT2 := Lib.hid hT2
             have HO2 := Lib.hid ho2
             clear hcell hds hat hR hy hkl HO3 hB3 hB2 hT2 ho2 hg2
             go_wp2_with fail
             have sA : ((fun (W : World) => W.cell? ⟨w.heap.size, 4, none⟩ = some (.slice (some ⟨b, o, none⟩) m3 P.bec) ∧ W.cell? ⟨b, o + k * 3, none⟩ = some (.string y.nm))) wr.drew := ⟨eS, a0⟩
             have sB : ((fun (W : World) => W.cell? ⟨w.heap.size, 4, none⟩ = some (.slice (some ⟨b, o, none⟩) m3 P.bec) ∧ W.cell? ⟨b, o + k * 3, none⟩ = some (.string y.nm))) ((wr.drew).alloc (.cells #[.string y.nm] 9)) := ⟨(HW3.out.cell (p := ⟨w.heap.size, 4, none⟩) (block_lt eS)).trans eS, (HW3.out.cell (p := ⟨b, o + k * 3, none⟩) (block_lt a0)).trans a0⟩
             have sC : ((fun (W : World) => W.cell? ⟨w.heap.size, 4, none⟩ = some (.slice (some ⟨b, o, none⟩) m3 P.bec) ∧ W.cell? ⟨b, o + k * 3, none⟩ = some (.string y.nm))) w2 := ⟨FK3.out w2 (But.below HB3.out HT2.out HBs.out.1 HB3.out.size) |>.trans (by rw [hp]), HKP.out w2 HT2.out⟩
             have sD : ((fun (W : World) => W.cell? ⟨w.heap.size, 4, none⟩ = some (.slice (some ⟨b, o, none⟩) m3 P.bec) ∧ W.cell? ⟨b, o + k * 3, none⟩ = some (.string y.nm))) (w2.setCell ⟨B, 3, none⟩ (.slice ps ms cs)) := ⟨FK3.out _ (But.below HB3.out (HT2.out.set 3 _) HBs.out.1 HB3.out.size) |>.trans (by rw [hp]), HKP.out _ (HT2.out.set 3 _)⟩
             have eB0 : (wr.drew).cell? ⟨B, 3, none⟩ = some v := eB
             have eB3 : ((wr.drew).alloc (.cells #[.string y.nm] 9)).cell? ⟨B, 3, none⟩ = some v := hB3x.out
             have eB3b : (wr.alloc (.cells #[.string y.nm] 9)).cell? ⟨B, 3, none⟩ = some v := hB3x.out
             have SA := Lib.hid sA
             have SB := Lib.hid sB
             have SC := Lib.hid sC
             have SD := Lib.hid sD
             clear sA sB sC sD
             refine wp_region_held_drew (S := (fun (W : World) => W.cell? ⟨w.heap.size, 4, none⟩ = some (.slice (some ⟨b, o, none⟩) m3 P.bec) ∧ W.cell? ⟨b, o + k * 3, none⟩ = some (.string y.nm))) (by kernel_rfl) SA.out (fun hHeld => ?_)
             refine htake 0 ((.slice (some ⟨B, 0, none⟩) 10 10 : Value)) (hy := ?_) (h := ?_)
             · exact zQRnm_0
             try simp only [Act.put, sA, sB, sC]
             refine htake 1 ((.slice (some ⟨B, 0, none⟩) 10 10 : Value)) (hy := ?_) (h := ?_)
             · exact zQRnm_0
             try simp only [Act.put, sA, sB, sC]
             refine htake 2 ((.pointer (some ⟨B, 3, none⟩) : Value)) (hy := ?_) (h := ?_)
             · exact zQRnm_0
             try simp only [Act.put, sA, sB, sC]
             refine htake 4 ((.pointer (some ⟨w.heap.size, 4, none⟩) : Value)) (hy := ?_) (h := ?_)
             · exact zQRnm_0
             try simp only [Act.put, sA, sB, sC]
             refine htake 5 ((.slice (some ⟨b, o, none⟩) m3 P.bec : Value)) (hy := ?_) (h := ?_)
             · exact zQRnm_0
             try simp only [Act.put, sA, sB, sC]
             refine htake 6 ((.int .i64 (k : Nat) : Value)) (hy := ?_) (h := ?_)
             · exact zQRnm_0
             try simp only [Act.put, sA, sB, sC]
             refine htake 7 ((.pointer (some ⟨b, o + k * 3, none⟩) : Value)) (hy := ?_) (h := ?_)
             · exact zQRnm_0
             try simp only [Act.put, sA, sB, sC]
             refine htake 8 ((.pointer (some ⟨b, o + k * 3, none⟩) : Value)) (hy := ?_) (h := ?_)
             · exact zQRnm_0
             try simp only [Act.put, sA, sB, sC]
             refine htake 9 ((.string y.nm : Value)) (hy := ?_) (h := ?_)
             · exact zQRnm_0
             try simp only [Act.put, sA, sB, sC]
             refine hrdy [3, 10] ?_
             refine hcons (fun K hK => ?_) ?_
             rotate_left 1
             · refine hcons (fun K hK => ?_) AllReadyH.nil
               go_simp
               clear hHeld
               refine hK.out _ _ (show ((fun (W : World) => W.cell? ⟨w.heap.size, 4, none⟩ = some (.slice (some ⟨b, o, none⟩) m3 P.bec) ∧ W.cell? ⟨b, o + k * 3, none⟩ = some (.string y.nm))) _ from SB.out) (fun hHeld => ?_)
               clear hK K
               try simp only [Act.put, sA, sB, sC]
               refine hcall 3 (fun K hK => ?_)
               exact zQRnm_5
             go_simp
             clear hHeld
             refine hK.out _ _ (show ((fun (W : World) => W.cell? ⟨w.heap.size, 4, none⟩ = some (.slice (some ⟨b, o, none⟩) m3 P.bec) ∧ W.cell? ⟨b, o + k * 3, none⟩ = some (.string y.nm))) _ from SA.out) (fun hHeld => ?_)
             clear hK K
             try simp only [Act.put, sA, sB, sC]
             refine hcall 10 (fun K hK => ?_)
             exact zQRnm_5
           · obtain rfl : m3 = k := by omega
             go_upto_region 18 with fail
             obtain ⟨p3, c3, hv3, hr3⟩ := HO.out.rwB hBU (by rw [List.length_take]; have := HL3.out; omega)
             rw [List.take_of_length_le (by rw [List.length_map, HL3.out.1]; exact Nat.le_refl _), List.length_map, HL3.out.1] at hv3 hr3
             subst hv3
             have N3 := Lib.hid hr3
             replace N0 := Lib.hid (N0.out.but HT.out)
             replace N1 := Lib.hid (N1.out.but HT.out)
             replace N2 := Lib.hid (N2.out.but HT.out)
             have HB4 := HW
             have HBx4 := HQ
             obtain ⟨U4, hU4⟩ : ∃ U, U = wr := ⟨_, rfl⟩
             subst hU4
             clear HW HQ HT HO eS hr3 k0 h hk
             have eS := (FX.out U4 HB4.out).get (cSte5 x P)
             have eB := HBx4.out.get (r := 4) (v := .slice none 0 0) rfl
             have eF : U4.frozen? ⟨B, 4, none⟩ = false := HBx4.out.thaw
             go_upto_region 19 with fail
             have HT : Hid (But B U4 (U4.setCell ⟨B, 4, none⟩ (.slice P.qup P.qum P.quc))) := Lib.hid ((But.refl B _).set 4 _)
             have HB5 : Hid (Below (w.alloc (.cells (cSte x P) 42)).heap.size (w.alloc (.cells (cSte x P) 42)) (U4.setCell ⟨B, 4, none⟩ (.slice P.qup P.qum P.quc))) := Lib.hid (But.below HB4.out HT.out HBs.out.1 HB4.out.size)
             have HBx5 := Lib.hid (show Box _ B 37 #[.slice p0 m0 c0, .slice p1 m1 c1, .slice p2 m2 c2, .slice p3 m3 c3, .slice P.qup P.qum P.quc, .slice none 0 0, .slice none 0 0, .slice none 0 0, .slice none 0 0, .slice none 0 0] from HBx4.out.set 4 (.slice P.qup P.qum P.quc))
             replace N0 := Lib.hid (N0.out.but HT.out)
             replace N1 := Lib.hid (N1.out.but HT.out)
             replace N2 := Lib.hid (N2.out.but HT.out)
             replace N3 := Lib.hid (N3.out.but HT.out)
             obtain ⟨U5, hU5⟩ : ∃ U, U4.setCell ⟨B, 4, none⟩ (.slice P.qup P.qum P.quc) = U := ⟨_, rfl⟩
             rw [hU5] at HT HB5 HBx5 N0 N1 N2 N3 ⊢
             clear eS eB eF HT HB4 HBx4 hU5
             have eS := (FX.out U5 HB5.out).get (cSte6 x P)
             have eB := HBx5.out.get (r := 5) (v := .slice none 0 0) rfl
             have eF : U5.frozen? ⟨B, 5, none⟩ = false := HBx5.out.thaw
             go_upto_region 20 with fail
             have HT : Hid (But B U5 (U5.setCell ⟨B, 5, none⟩ (.slice P.smp P.smm P.smc))) := Lib.hid ((But.refl B _).set 5 _)
             have HB6 : Hid (Below (w.alloc (.cells (cSte x P) 42)).heap.size (w.alloc (.cells (cSte x P) 42)) (U5.setCell ⟨B, 5, none⟩ (.slice P.smp P.smm P.smc))) := Lib.hid (But.below HB5.out HT.out HBs.out.1 HB5.out.size)
             have HBx6 := Lib.hid (show Box _ B 37 #[.slice p0 m0 c0, .slice p1 m1 c1, .slice p2 m2 c2, .slice p3 m3 c3, .slice P.qup P.qum P.quc, .slice P.smp P.smm P.smc, .slice none 0 0, .slice none 0 0, .slice none 0 0, .slice none 0 0] from HBx5.out.set 5 (.slice P.smp P.smm P.smc))
             replace N0 := Lib.hid (N0.out.but HT.out)
             replace N1 := Lib.hid (N1.out.but HT.out)
             replace N2 := Lib.hid (N2.out.but HT.out)
             replace N3 := Lib.hid (N3.out.but HT.out)
             obtain ⟨U6, hU6⟩ : ∃ U, U5.setCell ⟨B, 5, none⟩ (.slice P.smp P.smm P.smc) = U := ⟨_, rfl⟩
             rw [hU6] at HT HB6 HBx6 N0 N1 N2 N3 ⊢
             clear eS eB eF HT HB5 HBx5 hU6
             have eS := (FX.out U6 HB6.out).get (cSte7 x P)
             have eB := HBx6.out.get (r := 6) (v := .slice none 0 0) rfl
             have eF : U6.frozen? ⟨B, 6, none⟩ = false := HBx6.out.thaw
             go_upto_region 21 with fail
             have HT : Hid (But B U6 (U6.setCell ⟨B, 6, none⟩ (.slice P.tap P.tam P.tac))) := Lib.hid ((But.refl B _).set 6 _)
             have HB7 : Hid (Below (w.alloc (.cells (cSte x P) 42)).heap.size (w.alloc (.cells (cSte x P) 42)) (U6.setCell ⟨B, 6, none⟩ (.slice P.tap P.tam P.tac))) := Lib.hid (But.below HB6.out HT.out HBs.out.1 HB6.out.size)
             have HBx7 := Lib.hid (show Box _ B 37 #[.slice p0 m0 c0, .slice p1 m1 c1, .slice p2 m2 c2, .slice p3 m3 c3, .slice P.qup P.qum P.quc, .slice P.smp P.smm P.smc, .slice P.tap P.tam P.tac, .slice none 0 0, .slice none 0 0, .slice none 0 0] from HBx6.out.set 6 (.slice P.tap P.tam P.tac))
             replace N0 := Lib.hid (N0.out.but HT.out)
             replace N1 := Lib.hid (N1.out.but HT.out)
             replace N2 := Lib.hid (N2.out.but HT.out)
             replace N3 := Lib.hid (N3.out.but HT.out)
             obtain ⟨U7, hU7⟩ : ∃ U, U6.setCell ⟨B, 6, none⟩ (.slice P.tap P.tam P.tac) = U := ⟨_, rfl⟩
             rw [hU7] at HT HB7 HBx7 N0 N1 N2 N3 ⊢
             clear eS eB eF HT HB6 HBx6 hU7
             have eS := (FX.out U7 HB7.out).get (cSte8 x P)
             have eB := HBx7.out.get (r := 7) (v := .slice none 0 0) rfl
             have eF : U7.frozen? ⟨B, 7, none⟩ = false := HBx7.out.thaw
             go_upto_region 22 with fail
             have HT : Hid (But B U7 (U7.setCell ⟨B, 7, none⟩ (.slice P.lep P.lem P.lec))) := Lib.hid ((But.refl B _).set 7 _)
             have HB8 : Hid (Below (w.alloc (.cells (cSte x P) 42)).heap.size (w.alloc (.cells (cSte x P) 42)) (U7.setCell ⟨B, 7, none⟩ (.slice P.lep P.lem P.lec))) := Lib.hid (But.below HB7.out HT.out HBs.out.1 HB7.out.size)
             have HBx8 := Lib.hid (show Box _ B 37 #[.slice p0 m0 c0, .slice p1 m1 c1, .slice p2 m2 c2, .slice p3 m3 c3, .slice P.qup P.qum P.quc, .slice P.smp P.smm P.smc, .slice P.tap P.tam P.tac, .slice P.lep P.lem P.lec, .slice none 0 0, .slice none 0 0] from HBx7.out.set 7 (.slice P.lep P.lem P.lec))
             replace N0 := Lib.hid (N0.out.but HT.out)
             replace N1 := Lib.hid (N1.out.but HT.out)
             replace N2 := Lib.hid (N2.out.but HT.out)
             replace N3 := Lib.hid (N3.out.but HT.out)
             obtain ⟨U8, hU8⟩ : ∃ U, U7.setCell ⟨B, 7, none⟩ (.slice P.lep P.lem P.lec) = U := ⟨_, rfl⟩
             rw [hU8] at HT HB8 HBx8 N0 N1 N2 N3 ⊢
             clear eS eB eF HT HB7 HBx7 hU8
             have eS := (FX.out U8 HB8.out).get (cSte9 x P)
             have eB := HBx8.out.get (r := 8) (v := .slice none 0 0) rfl
             have eF : U8.frozen? ⟨B, 8, none⟩ = false := HBx8.out.thaw
             go_upto_region 23 with fail
             have HT : Hid (But B U8 (U8.setCell ⟨B, 8, none⟩ (.slice P.cop P.com P.coc))) := Lib.hid ((But.refl B _).set 8 _)
             have HB9 : Hid (Below (w.alloc (.cells (cSte x P) 42)).heap.size (w.alloc (.cells (cSte x P) 42)) (U8.setCell ⟨B, 8, none⟩ (.slice P.cop P.com P.coc))) := Lib.hid (But.below HB8.out HT.out HBs.out.1 HB8.out.size)
             have HBx9 := Lib.hid (show Box _ B 37 #[.slice p0 m0 c0, .slice p1 m1 c1, .slice p2 m2 c2, .slice p3 m3 c3, .slice P.qup P.qum P.quc, .slice P.smp P.smm P.smc, .slice P.tap P.tam P.tac, .slice P.lep P.lem P.lec, .slice P.cop P.com P.coc, .slice none 0 0] from HBx8.out.set 8 (.slice P.cop P.com P.coc))
             replace N0 := Lib.hid (N0.out.but HT.out)
             replace N1 := Lib.hid (N1.out.but HT.out)
             replace N2 := Lib.hid (N2.out.but HT.out)
             replace N3 := Lib.hid (N3.out.but HT.out)
             obtain ⟨U9, hU9⟩ : ∃ U, U8.setCell ⟨B, 8, none⟩ (.slice P.cop P.com P.coc) = U := ⟨_, rfl⟩
             rw [hU9] at HT HB9 HBx9 N0 N1 N2 N3 ⊢
             clear eS eB eF HT HB8 HBx8 hU9
             go_wp2_with fail
             obtain ⟨m9, hm9⟩ : ∃ m, P.rom = m := ⟨_, rfl⟩
             have HL9 := Lib.hid (show x.ro.length = m9 ∧ m9 < 1000000 by have := HX.out.ro.1; have := HZ.out.ro; omega)
             have FK9 : Hid (∀ W, Below (w.alloc (.cells (cSte x P) 42)).heap.size (w.alloc (.cells (cSte x P) 42)) W → W.cell? ⟨w.heap.size, 10, none⟩ = some (.slice P.rop m9 P.roc)) := Lib.hid fun W hb => (FX.out W hb).get (by rw [cSte10, hm9])
             have HR9 := Lib.hid (show Rw 4 RRou (Lo w.heap.size) w x.ro P.rop m9 by rw [← hm9]; exact HX.out.ro)
             clear hm9
             have t9 : (m9 : Int) ≤ 9223372036854775807 := by have := HL9.out; omega
             go_loopw [8] (fun i wr => ∃ (k : Nat) (v : Value), k ≤ m9 ∧ i = .int .i64 (k : Nat) ∧ Hid (Box wr B 37 #[.slice p0 m0 c0, .slice p1 m1 c1, .slice p2 m2 c2, .slice p3 m3 c3, .slice P.qup P.qum P.quc, .slice P.smp P.smm P.smc, .slice P.tap P.tam P.tac, .slice P.lep P.lem P.lec, .slice P.cop P.com P.coc, v]) ∧ Hid (But B U9 wr) ∧ Hid (OwnL 9 1 RTxt U9.heap.size wr v ((x.ro.map (·.nm)).take k))) (fun i _ => m9 - (intOf i).toNat)
             case atStart => exact ⟨0, .slice none 0 0, Nat.zero_le _, rfl, HBx9, Lib.hid (But.refl _ _), Lib.hid OwnL.nil⟩
             case round =>
              obtain ⟨k, v, hk, rfl, HQ, HT, HO⟩ := hrel
              have k0 : (0 : Int) ≤ (k : Int) := by omega
              have hBU : B < U9.heap.size := HBx9.out.lt
              have HW : Hid (Below (w.alloc (.cells (cSte x P) 42)).heap.size (w.alloc (.cells (cSte x P) 42)) wr) := Lib.hid (But.below HB9.out HT.out HBs.out.1 HB9.out.size)
              have eS := FK9.out wr HW.out
              rcases Nat.lt_or_ge k m9 with h | h
              · have k1 : (k : Int) < (m9 : Int) := by omega
                have hkl : k < x.ro.length := by rw [HL9.out.1]; exact h
                obtain ⟨b, o, hp, hbG, hG, hcell⟩ := (HR9.out.below RRou.map (show Below w.heap.size w wr by have HBB := HW.out; exact bl)).rows (by omega)
                rw [hp] at eS
                have hbU : b < U9.heap.size := Nat.lt_of_lt_of_le (show b < w.heap.size from hbG) (show Below w.heap.size w U9 by have HBB := HB9.out; exact bl).size
                have hbB : b ≠ B := by have h1 : b < w.heap.size := hbG; have h2 := HBs.out.2; omega
                obtain ⟨d, hds, hat, hR⟩ := hcell.out k hkl
                obtain ⟨y, hy⟩ : ∃ y, x.ro[k] = y := ⟨_, rfl⟩
                have HTk : Hid ((x.ro.map (·.nm)).take (k + 1) = (x.ro.map (·.nm)).take k ++ [y.nm]) := Lib.hid (take_one zQRnm_6)
                rw [hy] at hR
                obtain ⟨Q, hdQ, -⟩ := hR
                have a0 := hat.get (r := 0) (v := .string y.nm) (by rw [hdQ]; rfl)
                rw [show o + k * 4 + 0 = o + k * 4 by omega] at a0
                have eB := HQ.out.get (r := 9) (v := v) rfl
                have HO3 := HO.out.on RTxt.map (show Below wr.heap.size wr ((wr.drew).alloc (.cells #[.string y.nm] 9)) by exact bl) HT.out.size
                obtain ⟨v2, w2, hrun, ho2, hg2⟩ := OwnL.app1 HO3 (a := ⟨wr.heap.size, 0, none⟩) y.nm (by go_simp) 1 (Nat.le_trans HT.out.size (by simp)) (by rw [List.length_take]; have := HL9.out; omega)
                have hB3 : Box ((wr.drew).alloc (.cells #[.string y.nm] 9)) B 37 #[.slice p0 m0 c0, .slice p1 m1 c1, .slice p2 m2 c2, .slice p3 m3 c3, .slice P.qup P.qum P.quc, .slice P.smp P.smm P.smc, .slice P.tap P.tam P.tac, .slice P.lep P.lem P.lec, .slice P.cop P.com P.coc, v] := HQ.out.on bl
                have hB2 := hB3.grow HO3 hg2 hBU
                have hT2 : But B U9 w2 := (HT.out.then (show Below wr.heap.size wr ((wr.drew).alloc (.cells #[.string y.nm] 9)) by exact bl)).grow HO3 hg2 (Nat.le_refl _)
                have eB2 := hB2.get (r := 9) (v := v) rfl
                have eF2 : w2.frozen? ⟨B, 9, none⟩ = false := hB2.thaw
                rw [← HTk.out] at ho2
                obtain ⟨ps, ms, cs, rfl⟩ := ho2.slice
                have HW3 := Lib.hid (show Below wr.heap.size wr ((wr.drew).alloc (.cells #[.string y.nm] 9)) by exact bl)
                have hB3x := Lib.hid (hB3.get (r := 9) (v := v) rfl)
                have HKP : Hid (∀ W, But B U9 W → W.cell? ⟨b, o + k * 4, none⟩ = some (.string y.nm)) := Lib.hid fun W hW => (World.cell?_of_block (w := U9) (a := ⟨b, o + k * 4, none⟩) (hW.block b hbU hbB)).trans ((World.cell?_of_block (w := U9) (a := ⟨b, o + k * 4, none⟩) (HT.out.block b hbU hbB)).symm.trans a0)
                have HQ2 := Lib.hid hB2
                have HT2 := Lib.hid hT2
                have HO2 := Lib.hid ho2
                clear hcell hds hat hdQ hy hkl HO3 hB3 hB2 hT2 ho2 hg2
                go_wp2_with fail
                have sA : ((fun (W : World) => W.cell? ⟨w.heap.size, 10, none⟩ = some (.slice (some ⟨b, o, none⟩) m9 P.roc) ∧ W.cell? ⟨b, o + k * 4, none⟩ = some (.string y.nm))) wr.drew := ⟨eS, a0⟩
                have sB : ((fun (W : World) => W.cell? ⟨w.heap.size, 10, none⟩ = some (.slice (some ⟨b, o, none⟩) m9 P.roc) ∧ W.cell? ⟨b, o + k * 4, none⟩ = some (.string y.nm))) ((wr.drew).alloc (.cells #[.string y.nm] 9)) := ⟨(HW3.out.cell (p := ⟨w.heap.size, 10, none⟩) (block_lt eS)).trans eS, (HW3.out.cell (p := ⟨b, o + k * 4, none⟩) (block_lt a0)).trans a0⟩
                have sC : ((fun (W : World) => W.cell? ⟨w.heap.size, 10, none⟩ = some (.slice (some ⟨b, o, none⟩) m9 P.roc) ∧ W.cell? ⟨b, o + k * 4, none⟩ = some (.string y.nm))) w2 := ⟨FK9.out w2 (But.below HB9.out HT2.out HBs.out.1 HB9.out.size) |>.trans (by rw [hp]), HKP.out w2 HT2.out⟩
                have sD : ((fun (W : World) => W.cell? ⟨w.heap.size, 10, none⟩ = some (.slice (some ⟨b, o, none⟩) m9 P.roc) ∧ W.cell? ⟨b, o + k * 4, none⟩ = some (.string y.nm))) (w2.setCell ⟨B, 9, none⟩ (.slice ps ms cs)) := ⟨FK9.out _ (But.below HB9.out (HT2.out.set 9 _) HBs.out.1 HB9.out.size) |>.trans (by rw [hp]), HKP.out _ (HT2.out.set 9 _)⟩
                have eB0 : (wr.drew).cell? ⟨B, 9, none⟩ = some v := eB
                have eB3 : ((wr.drew).alloc (.cells #[.string y.nm] 9)).cell? ⟨B, 9, none⟩ = some v := hB3x.out
                have eB3b : (wr.alloc (.cells #[.string y.nm] 9)).cell? ⟨B, 9, none⟩ = some v := hB3x.out
                have SA := Lib.hid sA
                have SB := Lib.hid sB
                have SC := Lib.hid sC
                have SD := Lib.hid sD
                clear sA sB sC sD
                refine wp_region_held_drew (S := (fun (W : World) => W.cell? ⟨w.heap.size, 10, none⟩ = some (.slice (some ⟨b, o, none⟩) m9 P.roc) ∧ W.cell? ⟨b, o + k * 4, none⟩ = some (.string y.nm))) (by kernel_rfl) SA.out (fun hHeld => ?_)
                refine htake 0 ((.slice (some ⟨B, 0, none⟩) 10 10 : Value)) (hy := ?_) (h := ?_)
                · exact zQRnm_0
                try simp only [Act.put, sA, sB, sC]
                refine htake 1 ((.slice (some ⟨B, 0, none⟩) 10 10 : Value)) (hy := ?_) (h := ?_)
                · exact zQRnm_0
                try simp only [Act.put, sA, sB, sC]
                refine htake 2 ((.pointer (some ⟨B, 9, none⟩) : Value)) (hy := ?_) (h := ?_)
                · exact zQRnm_0
                try simp only [Act.put, sA, sB, sC]
                refine htake 4 ((.pointer (some ⟨w.heap.size, 10, none⟩) : Value)) (hy := ?_) (h := ?_)
                · exact zQRnm_0
                try simp only [Act.put, sA, sB, sC]
                refine htake 5 ((.slice (some ⟨b, o, none⟩) m9 P.roc : Value)) (hy := ?_) (h := ?_)
                · exact zQRnm_0
                try simp only [Act.put, sA, sB, sC]
                refine htake 6 ((.int .i64 (k : Nat) : Value)) (hy := ?_) (h := ?_)
                · exact zQRnm_0
                try simp only [Act.put, sA, sB, sC]
                refine htake 7 ((.pointer (some ⟨b, o + k * 4, none⟩) : Value)) (hy := ?_) (h := ?_)
                · exact zQRnm_0
                try simp only [Act.put, sA, sB, sC]
                refine htake 8 ((.pointer (some ⟨b, o + k * 4, none⟩) : Value)) (hy := ?_) (h := ?_)
                · exact zQRnm_0
                try simp only [Act.put, sA, sB, sC]
                refine htake 9 ((.string y.nm : Value)) (hy := ?_) (h := ?_)
                · exact zQRnm_0
                try simp only [Act.put, sA, sB, sC]
                refine hrdy [3, 10] ?_
                refine hcons (fun K hK => ?_) ?_
                rotate_left 1
                · refine hcons (fun K hK => ?_) AllReadyH.nil
                  go_simp
                  clear hHeld
                  refine hK.out _ _ (show ((fun (W : World) => W.cell? ⟨w.heap.size, 10, none⟩ = some (.slice (some ⟨b, o, none⟩) m9 P.roc) ∧ W.cell? ⟨b, o + k * 4, none⟩ = some (.string y.nm))) _ from SB.out) (fun hHeld => ?_)
                  clear hK K
                  try simp only [Act.put, sA, sB, sC]
                  refine hcall 3 (fun K hK => ?_)
                  exact zQRnm_2
                go_simp
                clear hHeld
                refine hK.out _ _ (show ((fun (W : World) => W.cell? ⟨w.heap.size, 10, none⟩ = some (.slice (some ⟨b, o, none⟩) m9 P.roc) ∧ W.cell? ⟨b, o + k * 4, none⟩ = some (.string y.nm))) _ from SA.out) (fun hHeld => ?_)
                clear hK K
                try simp only [Act.put, sA, sB, sC]
                refine hcall 10 (fun K hK => ?_)
                exact zQRnm_2
              · obtain rfl : m9 = k := by omega
                go_wp2_with fail
                obtain ⟨p9, c9, hv9, hr9⟩ := HO.out.rwB hBU (by rw [List.length_take]; have := HL9.out; omega)
                rw [List.take_of_length_le (by rw [List.length_map, HL9.out.1]; exact Nat.le_refl _), List.length_map, HL9.out.1] at hv9 hr9
                subst hv9
                have N9 := Lib.hid hr9
                replace N0 := Lib.hid (N0.out.but HT.out)
                replace N1 := Lib.hid (N1.out.but HT.out)
                replace N2 := Lib.hid (N2.out.but HT.out)
                replace N3 := Lib.hid (N3.out.but HT.out)
                have HB10 := HW
                have HBx10 := HQ
                obtain ⟨U10, hU10⟩ : ∃ U, U = wr := ⟨_, rfl⟩
                subst hU10
                clear HW HQ HT HO eS hr9 k0 h hk
                go_ret
                refine ⟨B, rfl, HBs.out.2, (show Below w.heap.size w _ by have HBB := HB10.out; exact bl), fun j hj => ?_⟩
                match j, hj with
                | 0, _ => exact ⟨_, _, _, HBx10.out.get (r := 0) rfl, N0.out⟩
                | 1, _ => exact ⟨_, _, _, HBx10.out.get (r := 1) rfl, N1.out⟩
                | 2, _ => exact ⟨_, _, _, HBx10.out.get (r := 2) rfl, N2.out⟩
                | 3, _ => exact ⟨_, _, _, HBx10.out.get (r := 3) rfl, N3.out⟩
                | 4, _ => exact ⟨_, _, _, HBx10.out.get (r := 4) rfl, (HX.out.qu).map RTxt.map (show Below w.heap.size w _ by have HBB := HB10.out; exact bl).size fun b g hb => ⟨⟨Nat.lt_of_lt_of_le hb (show Below w.heap.size w _ by have HBB := HB10.out; exact bl).size, by have h1 : b < w.heap.size := g; have h2 := HBs.out.2; omega⟩, (show Below w.heap.size w _ by have HBB := HB10.out; exact bl).block b g⟩⟩
                | 5, _ => exact ⟨_, _, _, HBx10.out.get (r := 5) rfl, (HX.out.sm).map RTxt.map (show Below w.heap.size w _ by have HBB := HB10.out; exact bl).size fun b g hb => ⟨⟨Nat.lt_of_lt_of_le hb (show Below w.heap.size w _ by have HBB := HB10.out; exact bl).size, by have h1 : b < w.heap.size := g; have h2 := HBs.out.2; omega⟩, (show Below w.heap.size w _ by have HBB := HB10.out; exact bl).block b g⟩⟩
                | 6, _ => exact ⟨_, _, _, HBx10.out.get (r := 6) rfl, (HX.out.ta).map RTxt.map (show Below w.heap.size w _ by have HBB := HB10.out; exact bl).size fun b g hb => ⟨⟨Nat.lt_of_lt_of_le hb (show Below w.heap.size w _ by have HBB := HB10.out; exact bl).size, by have h1 : b < w.heap.size := g; have h2 := HBs.out.2; omega⟩, (show Below w.heap.size w _ by have HBB := HB10.out; exact bl).block b g⟩⟩
                | 7, _ => exact ⟨_, _, _, HBx10.out.get (r := 7) rfl, (HX.out.le).map RTxt.map (show Below w.heap.size w _ by have HBB := HB10.out; exact bl).size fun b g hb => ⟨⟨Nat.lt_of_lt_of_le hb (show Below w.heap.size w _ by have HBB := HB10.out; exact bl).size, by have h1 : b < w.heap.size := g; have h2 := HBs.out.2; omega⟩, (show Below w.heap.size w _ by have HBB := HB10.out; exact bl).block b g⟩⟩
                | 8, _ => exact ⟨_, _, _, HBx10.out.get (r := 8) rfl, (HX.out.co).map RTxt.map (show Below w.heap.size w _ by have HBB := HB10.out; exact bl).size fun b g hb => ⟨⟨Nat.lt_of_lt_of_le hb (show Below w.heap.size w _ by have HBB := HB10.out; exact bl).size, by have h1 : b < w.heap.size := g; have h2 := HBs.out.2; omega⟩, (show Below w.heap.size w _ by have HBB := HB10.out; exact bl).block b g⟩⟩
                | 9, _ => exact ⟨_, _, _, HBx10.out.get (r := 9) rfl, N9.out⟩
end Go.Proofs.YtaaffmbnhjaebaaGreat.Md
namespace Go.Proofs.YtaaffmbnhjaebaaGreat.Md
open Go.RowKit
open Go.Proofs.YtaaffmbnhjaebaaGreat.Ex (block_lt)
set_option maxHeartbeats 4000000
set_option linter.unusedVariables false
theorem Rw.onB {B : Nat} {w w2 : World} {l : List ByteArray} {p : Option Addr} {m : Nat} (hb : Below w.heap.size w w2) (h : Rw 1 RTxt (Bf B w.heap.size) w l p m) : Rw 1 RTxt (Bf B w2.heap.size) w2 l p m := h.map RTxt.map hb.size fun k g hk => ⟨⟨Nat.lt_of_lt_of_le g.1 hb.size, g.2⟩, hb.block k hk⟩
theorem NamesAt.on {w w2 : World} {B : Nat} {x : Ste} (hb : Below w.heap.size w w2) (h : NamesAt w B x) : NamesAt w2 B x := fun j hj => by
 obtain ⟨p, m, c, e, hr⟩ := h j hj
 exact ⟨p, m, c, (hb.cell (p := ⟨B, j, none⟩) (block_lt e)).trans e, hr.onB hb⟩
end Go.Proofs.YtaaffmbnhjaebaaGreat.Md
namespace Go.Proofs.YtaaffmbnhjaebaaGreat.Md
open Go.RowKit
set_option maxHeartbeats 4000000
set_option linter.unusedVariables false
structure Bfo (U : World) (v : Value) (acc : List ByteArray) (W : World) : Prop where
 own : OwnL 9 1 RTxt U.heap.size W v acc
 below : Below U.heap.size U W
theorem Bfo.nil (U : World) : Bfo U (.slice none 0 0) [] U := ⟨OwnL.nil, Below.refl _ _⟩
theorem Bfo.on {U W W2 : World} {v : Value} {acc : List ByteArray} (h : Bfo U v acc W) (hb : Below W.heap.size W W2) : Bfo U v acc W2 := ⟨h.own.on RTxt.map hb h.below.size, h.below.trans (hb.mono h.below.size)⟩
end Go.Proofs.YtaaffmbnhjaebaaGreat.Md
