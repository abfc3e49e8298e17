/-
  Parts of this proof: The scope of a check in memory, and the contract of declare. The contracts of checkEach at its types. The contracts of checkValue and checkField, and of checkEach at them. Lists of declarations in a scope.
-/
import Derived.Test.YtaaffmbnhjaebaaGreatZQBase
import Derived.Test.YtaaffmbnhjaebaaGreatZPFrame
namespace Go.Proofs.YtaaffmbnhjaebaaGreat.Md
open Go.RowKit Go.Maps
open Go.Proofs.YtaaffmbnhjaebaaGreat.Na (bs bs_inj chk)
open Go.Proofs.YtaaffmbnhjaebaaGreat.Sm (orE_no orE_yes)
open Go.Proofs.YtaaffmbnhjaebaaGreat.Ex (Gives bl_alloc bl_drewN bl_drew)
set_option maxHeartbeats 2000000
set_option maxRecDepth 100000
set_option linter.unusedVariables false
structure But (b : Nat) (a w : World) : Prop where
 os : w.os = a.os
 tape : w.tape = a.tape
 output : w.output = a.output
 size : a.heap.size ≤ w.heap.size
 block : ∀ k, k < a.heap.size → k ≠ b → w.heap[k]? = a.heap[k]?
theorem But.of {b : Nat} {a w : World} (h : Below a.heap.size a w) : But b a w := ⟨h.os, h.tape, h.output, h.size, fun k hk _ => h.block k hk⟩
theorem But.trans {b : Nat} {u v w : World} (h : But b u v) (g : But b v w) : But b u w := ⟨g.os.trans h.os, g.tape.trans h.tape, g.output.trans h.output, Nat.le_trans h.size g.size, fun k hk hb => (g.block k (Nat.lt_of_lt_of_le hk h.size) hb).trans (h.block k hk hb)⟩
theorem But.below {b B : Nat} {w0 a w : World} (h0 : Below B w0 a) (h : But b a w) (hB : B ≤ b) (hs : B ≤ a.heap.size) : Below B w0 w := ⟨h.os.trans h0.os, h.tape.trans h0.tape, h.output.trans h0.output, Nat.le_trans h0.size h.size, fun k hk => (h.block k (by omega) (by omega)).trans (h0.block k hk)⟩
theorem But.then {b : Nat} {u v w : World} (h : But b u v) (g : Below v.heap.size v w) : But b u w := h.trans (But.of g)
theorem But.refl (b : Nat) (w : World) : But b w w := But.of (Below.refl _ _)
theorem But.alloc {b : Nat} {a w : World} {o : Obj} (h : But b a w) : But b a (w.alloc o) := h.then (bl_alloc (Below.refl _ _))
theorem But.drew {b : Nat} {a w : World} (h : But b a w) : But b a w.drew := h.then (bl_drew (Below.refl _ _))
theorem But.drewN {b n : Nat} {a w : World} (h : But b a w) : But b a (w.drewN n) := h.then (bl_drewN (Below.refl _ _))
theorem Box.but {b g : Nat} {w w2 : World} {t : TypeId} {c : Array Value} (hb : But b w w2) (hg : g ≠ b) (h : Box w g t c) : Box w2 g t c := h.keep (hb.block g h.lt hg)
theorem law : Keyed Tryz.prog 9 := string_keyed Tryz.underlying9
theorem zero_bool (w : World) : (zeroValue 4).run Tryz.prog w = .ok (.bool false) w := by kernel_rfl
theorem plain_bool {H : Type} {v : Value} {z : DataW H × List MemPlace} (h : plainElem Tryz.prog 4 v = some z) : ∃ c, v = .bool c ∧ z = (.lit (.bool c), []) := by
 unfold plainElem at h
 rw [Tryz.underlying4] at h
 cases v <;> simp at h
 exact ⟨_, rfl, h.symm⟩
def keyL (x : ByteArray) : Lit := .string (bs x)
theorem keyL_inj {x y : ByteArray} (h : keyL x = keyL y) : x = y := by unfold keyL at h; exact bs_inj (Lit.string.inj h)
theorem key_lit (x : ByteArray) : WideAt.IsKeyLit (keyL x) := by unfold keyL; simp [WideAt.IsKeyLit]
theorem fold_out {u z : DataW Unit} {k : Lit} : ∀ {acc : List Lit} {m : DataW Unit}, k ∉ acc → (acc.foldl (fun m x => m.put x u) m).atKey k z = m.atKey k z := by
 intro acc
 induction acc with
 | nil => intro m _; rfl
 | cons y r ih => intro m hn; rw [List.foldl_cons, ih (fun hh => hn (by simp [hh])), atKey_put_other (fun e => hn (by simp [e]))]
theorem fold_in {u z : DataW Unit} {k : Lit} : ∀ {acc : List Lit} {m : DataW Unit}, IsMap m → (∀ x ∈ acc, WideAt.IsKeyLit x) → k ∈ acc → (acc.foldl (fun m x => m.put x u) m).atKey k z = u
 | [], m, _, _, h => by simp at h
 | x :: t, m, hm, ha, h => by
  rw [List.foldl_cons]
  by_cases g : k ∈ t
  · exact fold_in (hm.put x u) (fun y hy => ha y (by simp [hy])) g
  · obtain rfl : k = x := by rcases List.mem_cons.1 h with h | h; exact h; exact absurd h g
    have hk := ha k (by simp)
    rw [fold_out g, atKey_put_same hm hk]
def Da (acc : List Lit) : DataW Unit := setOf (.lit (.bool true)) acc
theorem Da_snoc (acc : List Lit) (k : Lit) : (Da acc).put k (.lit (.bool true)) = Da (acc ++ [k]) := by unfold Da; rw [setOf_snoc]
theorem Da_look {acc : List Lit} {k : Lit} (ha : ∀ x ∈ acc, WideAt.IsKeyLit x) {c : Bool} (h : (Da acc).atKey k (.lit (.bool false)) = .lit (.bool c)) : c = true ↔ k ∈ acc := by
 by_cases g : k ∈ acc
 · unfold Da setOf at h
   rw [fold_in isMap_empty ha g] at h
   injection h with h
   injection h with h
   exact ⟨fun _ => g, fun _ => h.symm⟩
 · unfold Da setOf at h
   rw [fold_out g] at h
   have : (DataW.lit (Lit.bool false) : DataW Unit) = .lit (.bool c) := h
   injection this with h
   injection h with h
   exact ⟨fun e => absurd (h.trans e) (by decide), fun e => absurd e g⟩
def Scp (b : Nat) (acc : List ByteArray) (w : World) : Prop := w.ownsMap Tryz.prog 9 (plainElem Tryz.prog 4) b acc.length (Da (acc.map keyL))
theorem own_kept {kt : TypeId} {w w2 : World} {b n : Nat} {D : DataW Unit} (h : w.ownsMap Tryz.prog kt (plainElem Tryz.prog 4) b n D) (hb : Below w.heap.size w w2) : w2.ownsMap Tryz.prog kt (plainElem Tryz.prog 4) b n D :=
 h.kept (row := none) ⟨hb.os, hb.tape, hb.output, hb.size, fun k hk _ => hb.block k hk⟩ (by simp)
theorem Scp.on {b : Nat} {acc : List ByteArray} {w w2 : World} (h : Scp b acc w) (hb : Below w.heap.size w w2) : Scp b acc w2 := own_kept h hb
theorem key_any {x : ByteArray} (h : x.size ≤ 9223372036854775807) : keyOf Tryz.prog 9 (.string x) = some (keyL x) := by
 refine Go.WideMaps.keyOf_string_mk Tryz.underlying9 ?_
 unfold maxLen
 omega
theorem mem_key {x : ByteArray} {acc : List ByteArray} : keyL x ∈ acc.map keyL ↔ x ∈ acc := by
 rw [List.mem_map]
 constructor
 · rintro ⟨y, hy, e⟩; rw [← keyL_inj e]; exact hy
 · intro h; exact ⟨x, h, rfl⟩
theorem keys_lit (acc : List ByteArray) : ∀ k ∈ acc.map keyL, WideAt.IsKeyLit k := fun k hk => by obtain ⟨y, -, rfl⟩ := List.mem_map.1 hk; exact key_lit y
theorem look_scope {w : World} {b : Nat} {acc : List ByteArray} {x : ByteArray} (h : Scp b acc w) (hkey : keyOf Tryz.prog 9 (.string x) = some (keyL x)) :
 (Instr.lookup 66 (.map (some b)) (.string x) false).run Tryz.prog w = .ok (.bool (decide (x ∈ acc))) w := by
 obtain ⟨v, ps, hrun, hv⟩ := World.ownsMap.lookup (t := 66) h law Tryz.underlying66 (zero_bool w) (plainElem_bool Tryz.underlying4 false) hkey
 obtain ⟨c, rfl, hc⟩ := plain_bool hv
 simp only [Prod.mk.injEq] at hc
 have := Da_look (keys_lit acc) hc.1
 rw [mem_key] at this
 rw [hrun]
 by_cases g : x ∈ acc
 · rw [decide_eq_true g, this.2 g]
 · rw [decide_eq_false g]
   cases c with
   | true => exact absurd (this.1 rfl) g
   | false => rfl
def accS (acc : List ByteArray) (x : ByteArray) : List ByteArray := if decE acc x = 0 then acc ++ [x] else acc
def Decl (b : Nat) (acc : List ByteArray) (x : ByteArray) (w : World) (e : Ending) (w' : World) : Prop := e = .returned (.int .i64 (decE acc x)) ∧ Scp b (accS acc x) w' ∧ But b w w'
theorem chk_cases (l : List UInt8) : chk l = 0 ∨ chk l = 3 := by unfold chk; split <;> simp
theorem ncheck_at {s : ByteArray} {x : Int} (h : chk (bs s) = x) (hs : s.size ≤ 9223372036854775807) (w : World) : Calls Tryz.prog 27 #[.string s] w (Gives (.int .i64 x) w) := by rw [← h]; exact Na.check_any s w hs
theorem declare_any (b : Nat) (acc : List ByteArray) (x : ByteArray) (w : World) (hS : Scp b acc w) (hn : acc.length ≤ 100000) (hx : x.size ≤ 9223372036854775807) : Calls Tryz.prog 54 #[.map (some b), .string x] w (Decl b acc x w) := by
 have HS := Lib.hid hS
 clear hS
 rcases chk_cases (bs x) with h1 | h1
 · have hkey := key_any hx
   by_cases hin : x ∈ acc
   · have HD := Lib.hid (show decE acc x = 4 by unfold decE; rw [h1, orE_yes, if_pos hin])
     have HA := Lib.hid (show accS acc x = acc by unfold accS; rw [HD.out]; rfl)
     go_enter Tryz.func54, Tryz.ntmps54
     go_wp2_with fail
     refine (ncheck_at h1 hx w).mono ?_
     rintro e w2 ⟨rfl, hb2⟩
     have hl := look_scope (HS.out.on hb2) hkey
     rw [decide_eq_true hin] at hl
     go_wp2_with fail
     go_ret
     exact ⟨by rw [HD.out]; rfl, by rw [HA.out]; exact HS.out.on hb2, But.of hb2⟩
   · have HD := Lib.hid (show decE acc x = 0 by unfold decE; rw [h1, orE_yes, if_neg hin])
     have HA := Lib.hid (show accS acc x = acc ++ [x] by unfold accS; rw [HD.out]; rfl)
     go_enter Tryz.func54, Tryz.ntmps54
     go_wp2_with fail
     refine (ncheck_at h1 hx w).mono ?_
     rintro e w2 ⟨rfl, hb2⟩
     have HS2 := Lib.hid (HS.out.on hb2)
     have hl := look_scope HS2.out hkey
     rw [decide_eq_false hin] at hl
     go_wp2_with (at_mapUpdate; refine wpList_mapUpdate_own _ rfl _ _ _ 66 rfl 9 4 law Tryz.underlying66 _ b acc.length _ rfl HS2.out (by unfold maxLen; omega) _ _ _ rfl rfl hkey _ [] (plainElem_bool Tryz.underlying4 true) ?_)
     intro w3 hown3 hgrow3
     have HO3 := Lib.hid hown3
     rw [Da_snoc] at HO3
     have HG := Lib.hid hgrow3
     have HB := Lib.hid hb2
     clear hown3 hgrow3 hl hb2
     go_wp2_with fail
     go_ret
     refine ⟨by rw [HD.out]; rfl, ?_, (But.of HB.out).trans ⟨HG.out.os, HG.out.tape, HG.out.output, HG.out.size, fun k hk hne => HG.out.block k hk (fun e => hne (Option.some.inj e))⟩⟩
     rw [HA.out]
     unfold Scp
     rw [List.map_append, List.length_append]
     exact HO3.out
 · have HD := Lib.hid (show decE acc x = 3 by unfold decE; rw [h1]; exact orE_no (by omega))
   have HA := Lib.hid (show accS acc x = acc by unfold accS; rw [HD.out]; rfl)
   go_enter Tryz.func54, Tryz.ntmps54
   go_wp2_with fail
   refine (ncheck_at h1 hx w).mono ?_
   rintro e w2 ⟨rfl, hb2⟩
   go_wp2_with fail
   go_ret
   exact ⟨by rw [HD.out]; rfl, by rw [HA.out]; exact HS.out.on hb2, But.of hb2⟩
theorem declare_at {b : Nat} {acc : List ByteArray} {x : ByteArray} {v : Int} {acc2 : List ByteArray} (hv : decE acc x = v) (h2 : accS acc x = acc2) (w : World) (hS : Scp b acc w) (hn : acc.length ≤ 100000) (hx : x.size ≤ 9223372036854775807) : Calls Tryz.prog 54 #[.map (some b), .string x] w fun e w' => e = .returned (.int .i64 v) ∧ Scp b acc2 w' ∧ But b w w' := by
 subst hv h2; exact declare_any b acc x w hS hn hx
end Go.Proofs.YtaaffmbnhjaebaaGreat.Md
namespace Go.Proofs.YtaaffmbnhjaebaaGreat.Md
open Go.RowKit
open Go.Proofs.YtaaffmbnhjaebaaGreat.Ex (Lo)
set_option maxHeartbeats 2000000
set_option linter.unusedVariables false
theorem Mono.below {α : Type} {R : Rec α} (hm : Mono R) {B : Nat} {w w2 : World} {x : α} {c : Array Value} (hb : Below B w w2) (h : R (Lo B) w x c) : R (Lo B) w2 x c := hm hb.size (fun b g => fun _ => ⟨g, hb.block b g⟩) h
def Does {σ : Type} (Inv : σ → World → Prop) (r : Int × σ) (e : Ending) (w' : World) : Prop := e = .returned (.int .i64 r.1) ∧ Inv r.2 w'
structure Fine {σ : Type} (w0 : World) (Inv : σ → World → Prop) : Prop where
 below : ∀ s W, Inv s W → Below w0.heap.size w0 W
 on : ∀ s W W2, Inv s W → Below W.heap.size W W2 → Inv s W2
theorem zQEach_3 {p : Prop} (h : p := by
 by_cases hv : v = 0
 · have HN := Lib.hid (goE_next HX.out HG.out (by rw [HF.out]; exact hv))
   rw [HF.out] at HN
   subst hv
   go_wp2_with fail
   go_roundw
   case rel => exact ⟨k + 1, s2, by omega, by go_num, Lib.hid ⟨HN.out, HI.out⟩⟩
   case measure => simp [intOf]; omega
 · have HN := Lib.hid (goE_stop HX.out HG.out (by rw [HF.out]; exact hv))
   rw [HF.out] at HN
   have hz : (v != 0) = true := bne_iff_ne.2 hv
   go_wp2_with fail
   go_ret
   exact ⟨by rw [HE.out, HN.out]; rfl, by rw [HE.out, HN.out]; exact HI.out⟩
 ) : p := h
theorem zQEach_0 {p : Prop} (h : p := by
 rintro e w2 ⟨rfl, hI⟩
 have HI := Lib.hid hI
 have HG := Lib.hid HS.out.1
 obtain ⟨r, hr⟩ : ∃ r, f s x = r := ⟨_, rfl⟩
 have HF := Lib.hid hr
 rw [hr] at HI ⊢
 obtain ⟨v, s2⟩ := r
 clear ld1 ld2 ld3 ld4 st1 st2 st3 hI hr
 exact zQEach_3
 ) : p := h
theorem zQEach_1 {p : Prop} (h : p := by
 obtain rfl : m = k := by omega
 have HT := Lib.hid (show goE f l s0 = (0, s) by have h1 := HS.out.1; rwa [List.take_of_length_le (by rw [HL.out]; exact Nat.le_refl _)] at h1)
 go_wp2_with fail
 go_ret
 exact ⟨by rw [HE.out, HT.out]; rfl, by rw [HE.out, HT.out]; exact HS.out.2⟩
 ) : p := h
theorem zQEach_2 {p : Prop} (h : p := by
 go_wp2_with fail
 go_ret
 exact ⟨by rw [HE.out]; rfl, by rw [HE.out]; exact h0.out⟩
 ) : p := h
theorem zQEach_4 {p : Prop} (h : p := by rw [hz, HC.out]) : p := h
set_option maxRecDepth 100000 in
theorem each_Val {σ : Type} {w0 : World} {l : List Val} {p : Option Addr} {m c : Nat} (hl : Hid (Rw 3 RVal (Lo w0.heap.size) w0 l p m)) (bnd cap : Array Value) (Inv : σ → World → Prop) (F : Hid (Fine w0 Inv)) (f : σ → Val → Int × σ) (most : Nat) (hmost : (most : Int) ≤ 1000) (s0 : σ)
 (hc : Hid (∀ k s x c W, l[k]? = some x → l.length ≤ most → goE f (l.take k) s0 = (0, s) → RVal (Lo w0.heap.size) W x c → Inv s W → Calls Tryz.prog 29 (bnd.push (.agg c) ++ cap) W (Does Inv (f s x))))
 (W : World) (h0 : Hid (Inv s0 W)) : Calls Tryz.prog 28 #[.slice p m c, .int .i64 (most : Int), .func (.func 29) bnd cap] W (Does Inv (eachE f most l s0)) := by
 obtain ⟨hlm, hm⟩ := hl.out.len
 have HL := Lib.hid hlm
 have HM := Lib.hid hm
 by_cases hlt : most < m
 · have HE := Lib.hid (show eachE f most l s0 = (6, s0) by unfold eachE; rw [if_pos (by omega)])
   have t1 : decide (most < m) = true := decide_eq_true hlt
   clear hlm hm
   go_enter Tryz.func28, Tryz.ntmps28
   exact zQEach_2
 have t1 : decide (most < m) = false := decide_eq_false hlt
 have t3 : (m : Int) ≤ 1000 := by omega
 have HE := Lib.hid (show eachE f most l s0 = goE f l s0 by unfold eachE; rw [if_neg (by omega)])
 have HLM := Lib.hid (show l.length ≤ most by omega)
 clear hlm hm
 obtain ⟨kk, hkk⟩ : ∃ n : Nat, 3 = n := ⟨_, rfl⟩
 have hsz : ∀ w, (sizeOf 63).run Tryz.prog w = .ok kk w := fun w => by rw [Tryz.sizeOf63, hkk]
 have HKK := Lib.hid hkk
 clear hkk
 go_enter Tryz.func28, Tryz.ntmps28
 go_wp2_with fail
 go_loopw [16] (fun i wr => ∃ k : Nat, ∃ s, k ≤ m ∧ i = .int .i64 (k : Nat) ∧ Hid (goE f (l.take k) s0 = (0, s) ∧ Inv s wr)) (fun i _ => m - (intOf i).toNat)
 case atStart => exact ⟨0, s0, Nat.zero_le _, rfl, Lib.hid ⟨rfl, h0.out⟩⟩
 case round =>
  obtain ⟨k, s, hk, rfl, HS⟩ := hrel
  have k0 : (0 : Int) ≤ (k : Int) := by omega
  rcases Nat.lt_or_ge k m with h | h
  · have k1 : (k : Int) < (m : Int) := by omega
    have hkl : k < l.length := by rw [HL.out]; exact h
    have HX := Lib.hid (List.getElem?_eq_getElem hkl)
    have hB := F.out.below _ _ HS.out.2
    obtain ⟨b, o, rfl, hbG, hG, hcell⟩ := (hl.out.below RVal.map hB).rows (by omega)
    obtain ⟨c, hcs, hat, hR⟩ := hcell.out k hkl
    have HC := Lib.hid hcs
    have HSZ := Lib.hid hB.size
    have HR := Lib.hid hR
    have hcsz : c.size = kk := by rw [HC.out, HKK.out]
    have hat2 := hat.at HKK.out
    have bt : Big 63 c.size := by rw [HC.out]; exact bVal
    have ld1 := hat2.ldN hcsz
    have ld2 := hat2.ldV bt
    have ld3 := hat2.ldA bt
    have st1 := fun (z : Array Value) (hz : z.size = 3) => put_C bt (RVal.is hR).2 z zQEach_4
    have st2 := fun (z : Array Value) (hz : z.size = 3) => put_V bt (RVal.is hR).2 z zQEach_4
    have st3 := fun (z : Array Value) (hz : z.size = 3) => put_A bt (RVal.is hR).2 z zQEach_4
    have ld4 := fun W => run_loadCellsFrom_new (P := Tryz.prog) W 63 c kk hcsz
    obtain ⟨x, hx⟩ : ∃ x, l[k] = x := ⟨_, rfl⟩
    rw [hx] at HX HR
    clear hB hcell hcs hat hat2 bt hR hx hkl
    go_wp2_with fail
    refine (hc.out k s x c _ HX.out HLM.out HS.out.1 (RVal.map.below ((show Below wr.heap.size wr _ by exact bl).mono HSZ.out) HR.out) (F.out.on _ _ _ HS.out.2 bl)).mono ?_
    exact zQEach_0
  · exact zQEach_1
set_option maxRecDepth 100000 in
theorem each_Ste {σ : Type} {w0 : World} {l : List Ste} {p : Option Addr} {m c : Nat} (hl : Hid (Rw 13 RSte (Lo w0.heap.size) w0 l p m)) (bnd cap : Array Value) (Inv : σ → World → Prop) (F : Hid (Fine w0 Inv)) (f : σ → Ste → Int × σ) (most : Nat) (hmost : (most : Int) ≤ 1000) (s0 : σ)
 (hc : Hid (∀ k s x c W, l[k]? = some x → l.length ≤ most → goE f (l.take k) s0 = (0, s) → RSte (Lo w0.heap.size) W x c → Inv s W → Calls Tryz.prog 58 (bnd.push (.agg c) ++ cap) W (Does Inv (f s x))))
 (W : World) (h0 : Hid (Inv s0 W)) : Calls Tryz.prog 57 #[.slice p m c, .int .i64 (most : Int), .func (.func 58) bnd cap] W (Does Inv (eachE f most l s0)) := by
 obtain ⟨hlm, hm⟩ := hl.out.len
 have HL := Lib.hid hlm
 have HM := Lib.hid hm
 by_cases hlt : most < m
 · have HE := Lib.hid (show eachE f most l s0 = (6, s0) by unfold eachE; rw [if_pos (by omega)])
   have t1 : decide (most < m) = true := decide_eq_true hlt
   clear hlm hm
   go_enter Tryz.func57, Tryz.ntmps57
   exact zQEach_2
 have t1 : decide (most < m) = false := decide_eq_false hlt
 have t3 : (m : Int) ≤ 1000 := by omega
 have HE := Lib.hid (show eachE f most l s0 = goE f l s0 by unfold eachE; rw [if_neg (by omega)])
 have HLM := Lib.hid (show l.length ≤ most by omega)
 clear hlm hm
 obtain ⟨kk, hkk⟩ : ∃ n : Nat, 13 = n := ⟨_, rfl⟩
 have hsz : ∀ w, (sizeOf 42).run Tryz.prog w = .ok kk w := fun w => by rw [Tryz.sizeOf42, hkk]
 have HKK := Lib.hid hkk
 clear hkk
 go_enter Tryz.func57, Tryz.ntmps57
 go_wp2_with fail
 go_loopw [16] (fun i wr => ∃ k : Nat, ∃ s, k ≤ m ∧ i = .int .i64 (k : Nat) ∧ Hid (goE f (l.take k) s0 = (0, s) ∧ Inv s wr)) (fun i _ => m - (intOf i).toNat)
 case atStart => exact ⟨0, s0, Nat.zero_le _, rfl, Lib.hid ⟨rfl, h0.out⟩⟩
 case round =>
  obtain ⟨k, s, hk, rfl, HS⟩ := hrel
  have k0 : (0 : Int) ≤ (k : Int) := by omega
  rcases Nat.lt_or_ge k m with h | h
  · have k1 : (k : Int) < (m : Int) := by omega
    have hkl : k < l.length := by rw [HL.out]; exact h
    have HX := Lib.hid (List.getElem?_eq_getElem hkl)
    have hB := F.out.below _ _ HS.out.2
    obtain ⟨b, o, rfl, hbG, hG, hcell⟩ := (hl.out.below RSte.map hB).rows (by omega)
    obtain ⟨c, hcs, hat, hR⟩ := hcell.out k hkl
    have HC := Lib.hid hcs
    have HSZ := Lib.hid hB.size
    have HR := Lib.hid hR
    have hcsz : c.size = kk := by rw [HC.out, HKK.out]
    have hat2 := hat.at HKK.out
    have bt : Big 42 c.size := by rw [HC.out]; exact bSte
    have ld1 := hat2.ldN hcsz
    have ld2 := hat2.ldV bt
    have ld3 := hat2.ldA bt
    have st1 := fun (z : Array Value) (hz : z.size = 13) => put_C bt (RSte.is hR).2 z zQEach_4
    have st2 := fun (z : Array Value) (hz : z.size = 13) => put_V bt (RSte.is hR).2 z zQEach_4
    have st3 := fun (z : Array Value) (hz : z.size = 13) => put_A bt (RSte.is hR).2 z zQEach_4
    have ld4 := fun W => run_loadCellsFrom_new (P := Tryz.prog) W 42 c kk hcsz
    obtain ⟨x, hx⟩ : ∃ x, l[k] = x := ⟨_, rfl⟩
    rw [hx] at HX HR
    clear hB hcell hcs hat hat2 bt hR hx hkl
    go_wp2_with fail
    refine (hc.out k s x c _ HX.out HLM.out HS.out.1 (RSte.map.below ((show Below wr.heap.size wr _ by exact bl).mono HSZ.out) HR.out) (F.out.on _ _ _ HS.out.2 bl)).mono ?_
    exact zQEach_0
  · exact zQEach_1
set_option maxRecDepth 100000 in
theorem each_Lnk {σ : Type} {w0 : World} {l : List Lnk} {p : Option Addr} {m c : Nat} (hl : Hid (Rw 3 RLnk (Lo w0.heap.size) w0 l p m)) (bnd cap : Array Value) (Inv : σ → World → Prop) (F : Hid (Fine w0 Inv)) (f : σ → Lnk → Int × σ) (most : Nat) (hmost : (most : Int) ≤ 1000) (s0 : σ)
 (hc : Hid (∀ k s x c W, l[k]? = some x → l.length ≤ most → goE f (l.take k) s0 = (0, s) → RLnk (Lo w0.heap.size) W x c → Inv s W → Calls Tryz.prog 61 (bnd.push (.agg c) ++ cap) W (Does Inv (f s x))))
 (W : World) (h0 : Hid (Inv s0 W)) : Calls Tryz.prog 60 #[.slice p m c, .int .i64 (most : Int), .func (.func 61) bnd cap] W (Does Inv (eachE f most l s0)) := by
 obtain ⟨hlm, hm⟩ := hl.out.len
 have HL := Lib.hid hlm
 have HM := Lib.hid hm
 by_cases hlt : most < m
 · have HE := Lib.hid (show eachE f most l s0 = (6, s0) by unfold eachE; rw [if_pos (by omega)])
   have t1 : decide (most < m) = true := decide_eq_true hlt
   clear hlm hm
   go_enter Tryz.func60, Tryz.ntmps60
   exact zQEach_2
 have t1 : decide (most < m) = false := decide_eq_false hlt
 have t3 : (m : Int) ≤ 1000 := by omega
 have HE := Lib.hid (show eachE f most l s0 = goE f l s0 by unfold eachE; rw [if_neg (by omega)])
 have HLM := Lib.hid (show l.length ≤ most by omega)
 clear hlm hm
 obtain ⟨kk, hkk⟩ : ∃ n : Nat, 3 = n := ⟨_, rfl⟩
 have hsz : ∀ w, (sizeOf 49).run Tryz.prog w = .ok kk w := fun w => by rw [Tryz.sizeOf49, hkk]
 have HKK := Lib.hid hkk
 clear hkk
 go_enter Tryz.func60, Tryz.ntmps60
 go_wp2_with fail
 go_loopw [16] (fun i wr => ∃ k : Nat, ∃ s, k ≤ m ∧ i = .int .i64 (k : Nat) ∧ Hid (goE f (l.take k) s0 = (0, s) ∧ Inv s wr)) (fun i _ => m - (intOf i).toNat)
 case atStart => exact ⟨0, s0, Nat.zero_le _, rfl, Lib.hid ⟨rfl, h0.out⟩⟩
 case round =>
  obtain ⟨k, s, hk, rfl, HS⟩ := hrel
  have k0 : (0 : Int) ≤ (k : Int) := by omega
  rcases Nat.lt_or_ge k m with h | h
  · have k1 : (k : Int) < (m : Int) := by omega
    have hkl : k < l.length := by rw [HL.out]; exact h
    have HX := Lib.hid (List.getElem?_eq_getElem hkl)
    have hB := F.out.below _ _ HS.out.2
    obtain ⟨b, o, rfl, hbG, hG, hcell⟩ := (hl.out.below RLnk.map hB).rows (by omega)
    obtain ⟨c, hcs, hat, hR⟩ := hcell.out k hkl
    have HC := Lib.hid hcs
    have HSZ := Lib.hid hB.size
    have HR := Lib.hid hR
    have hcsz : c.size = kk := by rw [HC.out, HKK.out]
    have hat2 := hat.at HKK.out
    have bt : Big 49 c.size := by rw [HC.out]; exact bLnk
    have ld1 := hat2.ldN hcsz
    have ld2 := hat2.ldV bt
    have ld3 := hat2.ldA bt
    have st1 := fun (z : Array Value) (hz : z.size = 3) => put_C bt (RLnk.is hR).2 z zQEach_4
    have st2 := fun (z : Array Value) (hz : z.size = 3) => put_V bt (RLnk.is hR).2 z zQEach_4
    have st3 := fun (z : Array Value) (hz : z.size = 3) => put_A bt (RLnk.is hR).2 z zQEach_4
    have ld4 := fun W => run_loadCellsFrom_new (P := Tryz.prog) W 49 c kk hcsz
    obtain ⟨x, hx⟩ : ∃ x, l[k] = x := ⟨_, rfl⟩
    rw [hx] at HX HR
    clear hB hcell hcs hat hat2 bt hR hx hkl
    go_wp2_with fail
    refine (hc.out k s x c _ HX.out HLM.out HS.out.1 (RLnk.map.below ((show Below wr.heap.size wr _ by exact bl).mono HSZ.out) HR.out) (F.out.on _ _ _ HS.out.2 bl)).mono ?_
    exact zQEach_0
  · exact zQEach_1
set_option maxRecDepth 100000 in
theorem each_Res {σ : Type} {w0 : World} {l : List Res} {p : Option Addr} {m c : Nat} (hl : Hid (Rw 17 RRes (Lo w0.heap.size) w0 l p m)) (bnd cap : Array Value) (Inv : σ → World → Prop) (F : Hid (Fine w0 Inv)) (f : σ → Res → Int × σ) (most : Nat) (hmost : (most : Int) ≤ 1000) (s0 : σ)
 (hc : Hid (∀ k s x c W, l[k]? = some x → l.length ≤ most → goE f (l.take k) s0 = (0, s) → RRes (Lo w0.heap.size) W x c → Inv s W → Calls Tryz.prog 100 (bnd.push (.agg c) ++ cap) W (Does Inv (f s x))))
 (W : World) (h0 : Hid (Inv s0 W)) : Calls Tryz.prog 99 #[.slice p m c, .int .i64 (most : Int), .func (.func 100) bnd cap] W (Does Inv (eachE f most l s0)) := by
 obtain ⟨hlm, hm⟩ := hl.out.len
 have HL := Lib.hid hlm
 have HM := Lib.hid hm
 by_cases hlt : most < m
 · have HE := Lib.hid (show eachE f most l s0 = (6, s0) by unfold eachE; rw [if_pos (by omega)])
   have t1 : decide (most < m) = true := decide_eq_true hlt
   clear hlm hm
   go_enter Tryz.func99, Tryz.ntmps99
   exact zQEach_2
 have t1 : decide (most < m) = false := decide_eq_false hlt
 have t3 : (m : Int) ≤ 1000 := by omega
 have HE := Lib.hid (show eachE f most l s0 = goE f l s0 by unfold eachE; rw [if_neg (by omega)])
 have HLM := Lib.hid (show l.length ≤ most by omega)
 clear hlm hm
 obtain ⟨kk, hkk⟩ : ∃ n : Nat, 17 = n := ⟨_, rfl⟩
 have hsz : ∀ w, (sizeOf 92).run Tryz.prog w = .ok kk w := fun w => by rw [Tryz.sizeOf92, hkk]
 have HKK := Lib.hid hkk
 clear hkk
 go_enter Tryz.func99, Tryz.ntmps99
 go_wp2_with fail
 go_loopw [16] (fun i wr => ∃ k : Nat, ∃ s, k ≤ m ∧ i = .int .i64 (k : Nat) ∧ Hid (goE f (l.take k) s0 = (0, s) ∧ Inv s wr)) (fun i _ => m - (intOf i).toNat)
 case atStart => exact ⟨0, s0, Nat.zero_le _, rfl, Lib.hid ⟨rfl, h0.out⟩⟩
 case round =>
  obtain ⟨k, s, hk, rfl, HS⟩ := hrel
  have k0 : (0 : Int) ≤ (k : Int) := by omega
  rcases Nat.lt_or_ge k m with h | h
  · have k1 : (k : Int) < (m : Int) := by omega
    have hkl : k < l.length := by rw [HL.out]; exact h
    have HX := Lib.hid (List.getElem?_eq_getElem hkl)
    have hB := F.out.below _ _ HS.out.2
    obtain ⟨b, o, rfl, hbG, hG, hcell⟩ := (hl.out.below RRes.map hB).rows (by omega)
    obtain ⟨c, hcs, hat, hR⟩ := hcell.out k hkl
    have HC := Lib.hid hcs
    have HSZ := Lib.hid hB.size
    have HR := Lib.hid hR
    have hcsz : c.size = kk := by rw [HC.out, HKK.out]
    have hat2 := hat.at HKK.out
    have bt : Big 92 c.size := by rw [HC.out]; exact bRes
    have ld1 := hat2.ldN hcsz
    have ld2 := hat2.ldV bt
    have ld3 := hat2.ldA bt
    have st1 := fun (z : Array Value) (hz : z.size = 17) => put_C bt (RRes.is hR).2 z zQEach_4
    have st2 := fun (z : Array Value) (hz : z.size = 17) => put_V bt (RRes.is hR).2 z zQEach_4
    have st3 := fun (z : Array Value) (hz : z.size = 17) => put_A bt (RRes.is hR).2 z zQEach_4
    have ld4 := fun W => run_loadCellsFrom_new (P := Tryz.prog) W 92 c kk hcsz
    obtain ⟨x, hx⟩ : ∃ x, l[k] = x := ⟨_, rfl⟩
    rw [hx] at HX HR
    clear hB hcell hcs hat hat2 bt hR hx hkl
    go_wp2_with fail
    refine (hc.out k s x c _ HX.out HLM.out HS.out.1 (RRes.map.below ((show Below wr.heap.size wr _ by exact bl).mono HSZ.out) HR.out) (F.out.on _ _ _ HS.out.2 bl)).mono ?_
    exact zQEach_0
  · exact zQEach_1
set_option maxRecDepth 100000 in
theorem each_Sto {σ : Type} {w0 : World} {l : List Sto} {p : Option Addr} {m c : Nat} (hl : Hid (Rw 3 RSto (Lo w0.heap.size) w0 l p m)) (bnd cap : Array Value) (Inv : σ → World → Prop) (F : Hid (Fine w0 Inv)) (f : σ → Sto → Int × σ) (most : Nat) (hmost : (most : Int) ≤ 1000) (s0 : σ)
 (hc : Hid (∀ k s x c W, l[k]? = some x → l.length ≤ most → goE f (l.take k) s0 = (0, s) → RSto (Lo w0.heap.size) W x c → Inv s W → Calls Tryz.prog 103 (bnd.push (.agg c) ++ cap) W (Does Inv (f s x))))
 (W : World) (h0 : Hid (Inv s0 W)) : Calls Tryz.prog 102 #[.slice p m c, .int .i64 (most : Int), .func (.func 103) bnd cap] W (Does Inv (eachE f most l s0)) := by
 obtain ⟨hlm, hm⟩ := hl.out.len
 have HL := Lib.hid hlm
 have HM := Lib.hid hm
 by_cases hlt : most < m
 · have HE := Lib.hid (show eachE f most l s0 = (6, s0) by unfold eachE; rw [if_pos (by omega)])
   have t1 : decide (most < m) = true := decide_eq_true hlt
   clear hlm hm
   go_enter Tryz.func102, Tryz.ntmps102
   exact zQEach_2
 have t1 : decide (most < m) = false := decide_eq_false hlt
 have t3 : (m : Int) ≤ 1000 := by omega
 have HE := Lib.hid (show eachE f most l s0 = goE f l s0 by unfold eachE; rw [if_neg (by omega)])
 have HLM := Lib.hid (show l.length ≤ most by omega)
 clear hlm hm
 obtain ⟨kk, hkk⟩ : ∃ n : Nat, 3 = n := ⟨_, rfl⟩
 have hsz : ∀ w, (sizeOf 95).run Tryz.prog w = .ok kk w := fun w => by rw [Tryz.sizeOf95, hkk]
 have HKK := Lib.hid hkk
 clear hkk
 go_enter Tryz.func102, Tryz.ntmps102
 go_wp2_with fail
 go_loopw [16] (fun i wr => ∃ k : Nat, ∃ s, k ≤ m ∧ i = .int .i64 (k : Nat) ∧ Hid (goE f (l.take k) s0 = (0, s) ∧ Inv s wr)) (fun i _ => m - (intOf i).toNat)
 case atStart => exact ⟨0, s0, Nat.zero_le _, rfl, Lib.hid ⟨rfl, h0.out⟩⟩
 case round =>
  obtain ⟨k, s, hk, rfl, HS⟩ := hrel
  have k0 : (0 : Int) ≤ (k : Int) := by omega
  rcases Nat.lt_or_ge k m with h | h
  · have k1 : (k : Int) < (m : Int) := by omega
    have hkl : k < l.length := by rw [HL.out]; exact h
    have HX := Lib.hid (List.getElem?_eq_getElem hkl)
    have hB := F.out.below _ _ HS.out.2
    obtain ⟨b, o, rfl, hbG, hG, hcell⟩ := (hl.out.below RSto.map hB).rows (by omega)
    obtain ⟨c, hcs, hat, hR⟩ := hcell.out k hkl
    have HC := Lib.hid hcs
    have HSZ := Lib.hid hB.size
    have HR := Lib.hid hR
    have hcsz : c.size = kk := by rw [HC.out, HKK.out]
    have hat2 := hat.at HKK.out
    have bt : Big 95 c.size := by rw [HC.out]; exact bSto
    have ld1 := hat2.ldN hcsz
    have ld2 := hat2.ldV bt
    have ld3 := hat2.ldA bt
    have st1 := fun (z : Array Value) (hz : z.size = 3) => put_C bt (RSto.is hR).2 z zQEach_4
    have st2 := fun (z : Array Value) (hz : z.size = 3) => put_V bt (RSto.is hR).2 z zQEach_4
    have st3 := fun (z : Array Value) (hz : z.size = 3) => put_A bt (RSto.is hR).2 z zQEach_4
    have ld4 := fun W => run_loadCellsFrom_new (P := Tryz.prog) W 95 c kk hcsz
    obtain ⟨x, hx⟩ : ∃ x, l[k] = x := ⟨_, rfl⟩
    rw [hx] at HX HR
    clear hB hcell hcs hat hat2 bt hR hx hkl
    go_wp2_with fail
    refine (hc.out k s x c _ HX.out HLM.out HS.out.1 (RSto.map.below ((show Below wr.heap.size wr _ by exact bl).mono HSZ.out) HR.out) (F.out.on _ _ _ HS.out.2 bl)).mono ?_
    exact zQEach_0
  · exact zQEach_1
set_option maxRecDepth 100000 in
theorem each_Blt {σ : Type} {w0 : World} {l : List Blt} {p : Option Addr} {m c : Nat} (hl : Hid (Rw 3 RBlt (Lo w0.heap.size) w0 l p m)) (bnd cap : Array Value) (Inv : σ → World → Prop) (F : Hid (Fine w0 Inv)) (f : σ → Blt → Int × σ) (most : Nat) (hmost : (most : Int) ≤ 1000) (s0 : σ)
 (hc : Hid (∀ k s x c W, l[k]? = some x → l.length ≤ most → goE f (l.take k) s0 = (0, s) → RBlt (Lo w0.heap.size) W x c → Inv s W → Calls Tryz.prog 106 (bnd.push (.agg c) ++ cap) W (Does Inv (f s x))))
 (W : World) (h0 : Hid (Inv s0 W)) : Calls Tryz.prog 105 #[.slice p m c, .int .i64 (most : Int), .func (.func 106) bnd cap] W (Does Inv (eachE f most l s0)) := by
 obtain ⟨hlm, hm⟩ := hl.out.len
 have HL := Lib.hid hlm
 have HM := Lib.hid hm
 by_cases hlt : most < m
 · have HE := Lib.hid (show eachE f most l s0 = (6, s0) by unfold eachE; rw [if_pos (by omega)])
   have t1 : decide (most < m) = true := decide_eq_true hlt
   clear hlm hm
   go_enter Tryz.func105, Tryz.ntmps105
   exact zQEach_2
 have t1 : decide (most < m) = false := decide_eq_false hlt
 have t3 : (m : Int) ≤ 1000 := by omega
 have HE := Lib.hid (show eachE f most l s0 = goE f l s0 by unfold eachE; rw [if_neg (by omega)])
 have HLM := Lib.hid (show l.length ≤ most by omega)
 clear hlm hm
 obtain ⟨kk, hkk⟩ : ∃ n : Nat, 3 = n := ⟨_, rfl⟩
 have hsz : ∀ w, (sizeOf 97).run Tryz.prog w = .ok kk w := fun w => by rw [Tryz.sizeOf97, hkk]
 have HKK := Lib.hid hkk
 clear hkk
 go_enter Tryz.func105, Tryz.ntmps105
 go_wp2_with fail
 go_loopw [16] (fun i wr => ∃ k : Nat, ∃ s, k ≤ m ∧ i = .int .i64 (k : Nat) ∧ Hid (goE f (l.take k) s0 = (0, s) ∧ Inv s wr)) (fun i _ => m - (intOf i).toNat)
 case atStart => exact ⟨0, s0, Nat.zero_le _, rfl, Lib.hid ⟨rfl, h0.out⟩⟩
 case round =>
  obtain ⟨k, s, hk, rfl, HS⟩ := hrel
  have k0 : (0 : Int) ≤ (k : Int) := by omega
  rcases Nat.lt_or_ge k m with h | h
  · have k1 : (k : Int) < (m : Int) := by omega
    have hkl : k < l.length := by rw [HL.out]; exact h
    have HX := Lib.hid (List.getElem?_eq_getElem hkl)
    have hB := F.out.below _ _ HS.out.2
    obtain ⟨b, o, rfl, hbG, hG, hcell⟩ := (hl.out.below RBlt.map hB).rows (by omega)
    obtain ⟨c, hcs, hat, hR⟩ := hcell.out k hkl
    have HC := Lib.hid hcs
    have HSZ := Lib.hid hB.size
    have HR := Lib.hid hR
    have hcsz : c.size = kk := by rw [HC.out, HKK.out]
    have hat2 := hat.at HKK.out
    have bt : Big 97 c.size := by rw [HC.out]; exact bBlt
    have ld1 := hat2.ldN hcsz
    have ld2 := hat2.ldV bt
    have ld3 := hat2.ldA bt
    have st1 := fun (z : Array Value) (hz : z.size = 3) => put_C bt (RBlt.is hR).2 z zQEach_4
    have st2 := fun (z : Array Value) (hz : z.size = 3) => put_V bt (RBlt.is hR).2 z zQEach_4
    have st3 := fun (z : Array Value) (hz : z.size = 3) => put_A bt (RBlt.is hR).2 z zQEach_4
    have ld4 := fun W => run_loadCellsFrom_new (P := Tryz.prog) W 97 c kk hcsz
    obtain ⟨x, hx⟩ : ∃ x, l[k] = x := ⟨_, rfl⟩
    rw [hx] at HX HR
    clear hB hcell hcs hat hat2 bt hR hx hkl
    go_wp2_with fail
    refine (hc.out k s x c _ HX.out HLM.out HS.out.1 (RBlt.map.below ((show Below wr.heap.size wr _ by exact bl).mono HSZ.out) HR.out) (F.out.on _ _ _ HS.out.2 bl)).mono ?_
    exact zQEach_0
  · exact zQEach_1
set_option maxRecDepth 100000 in
theorem each_Rou {σ : Type} {w0 : World} {l : List Rou} {p : Option Addr} {m c : Nat} (hl : Hid (Rw 4 RRou (Lo w0.heap.size) w0 l p m)) (bnd cap : Array Value) (Inv : σ → World → Prop) (F : Hid (Fine w0 Inv)) (f : σ → Rou → Int × σ) (most : Nat) (hmost : (most : Int) ≤ 1000) (s0 : σ)
 (hc : Hid (∀ k s x c W, l[k]? = some x → l.length ≤ most → goE f (l.take k) s0 = (0, s) → RRou (Lo w0.heap.size) W x c → Inv s W → Calls Tryz.prog 110 (bnd.push (.agg c) ++ cap) W (Does Inv (f s x))))
 (W : World) (h0 : Hid (Inv s0 W)) : Calls Tryz.prog 109 #[.slice p m c, .int .i64 (most : Int), .func (.func 110) bnd cap] W (Does Inv (eachE f most l s0)) := by
 obtain ⟨hlm, hm⟩ := hl.out.len
 have HL := Lib.hid hlm
 have HM := Lib.hid hm
 by_cases hlt : most < m
 · have HE := Lib.hid (show eachE f most l s0 = (6, s0) by unfold eachE; rw [if_pos (by omega)])
   have t1 : decide (most < m) = true := decide_eq_true hlt
   clear hlm hm
   go_enter Tryz.func109, Tryz.ntmps109
   exact zQEach_2
 have t1 : decide (most < m) = false := decide_eq_false hlt
 have t3 : (m : Int) ≤ 1000 := by omega
 have HE := Lib.hid (show eachE f most l s0 = goE f l s0 by unfold eachE; rw [if_neg (by omega)])
 have HLM := Lib.hid (show l.length ≤ most by omega)
 clear hlm hm
 obtain ⟨kk, hkk⟩ : ∃ n : Nat, 4 = n := ⟨_, rfl⟩
 have hsz : ∀ w, (sizeOf 79).run Tryz.prog w = .ok kk w := fun w => by rw [Tryz.sizeOf79, hkk]
 have HKK := Lib.hid hkk
 clear hkk
 go_enter Tryz.func109, Tryz.ntmps109
 go_wp2_with fail
 go_loopw [16] (fun i wr => ∃ k : Nat, ∃ s, k ≤ m ∧ i = .int .i64 (k : Nat) ∧ Hid (goE f (l.take k) s0 = (0, s) ∧ Inv s wr)) (fun i _ => m - (intOf i).toNat)
 case atStart => exact ⟨0, s0, Nat.zero_le _, rfl, Lib.hid ⟨rfl, h0.out⟩⟩
 case round =>
  obtain ⟨k, s, hk, rfl, HS⟩ := hrel
  have k0 : (0 : Int) ≤ (k : Int) := by omega
  rcases Nat.lt_or_ge k m with h | h
  · have k1 : (k : Int) < (m : Int) := by omega
    have hkl : k < l.length := by rw [HL.out]; exact h
    have HX := Lib.hid (List.getElem?_eq_getElem hkl)
    have hB := F.out.below _ _ HS.out.2
    obtain ⟨b, o, rfl, hbG, hG, hcell⟩ := (hl.out.below RRou.map hB).rows (by omega)
    obtain ⟨c, hcs, hat, hR⟩ := hcell.out k hkl
    have HC := Lib.hid hcs
    have HSZ := Lib.hid hB.size
    have HR := Lib.hid hR
    have hcsz : c.size = kk := by rw [HC.out, HKK.out]
    have hat2 := hat.at HKK.out
    have bt : Big 79 c.size := by rw [HC.out]; exact bRou
    have ld1 := hat2.ldN hcsz
    have ld2 := hat2.ldV bt
    have ld3 := hat2.ldA bt
    have st1 := fun (z : Array Value) (hz : z.size = 4) => put_C bt (RRou.is hR).2 z zQEach_4
    have st2 := fun (z : Array Value) (hz : z.size = 4) => put_V bt (RRou.is hR).2 z zQEach_4
    have st3 := fun (z : Array Value) (hz : z.size = 4) => put_A bt (RRou.is hR).2 z zQEach_4
    have ld4 := fun W => run_loadCellsFrom_new (P := Tryz.prog) W 79 c kk hcsz
    obtain ⟨x, hx⟩ : ∃ x, l[k] = x := ⟨_, rfl⟩
    rw [hx] at HX HR
    clear hB hcell hcs hat hat2 bt hR hx hkl
    go_wp2_with fail
    refine (hc.out k s x c _ HX.out HLM.out HS.out.1 (RRou.map.below ((show Below wr.heap.size wr _ by exact bl).mono HSZ.out) HR.out) (F.out.on _ _ _ HS.out.2 bl)).mono ?_
    exact zQEach_0
  · exact zQEach_1
set_option maxRecDepth 100000 in
theorem each_Sta {σ : Type} {w0 : World} {l : List Sta} {p : Option Addr} {m c : Nat} (hl : Hid (Rw 5 RSta (Lo w0.heap.size) w0 l p m)) (bnd cap : Array Value) (Inv : σ → World → Prop) (F : Hid (Fine w0 Inv)) (f : σ → Sta → Int × σ) (most : Nat) (hmost : (most : Int) ≤ 1000) (s0 : σ)
 (hc : Hid (∀ k s x c W, l[k]? = some x → l.length ≤ most → goE f (l.take k) s0 = (0, s) → RSta (Lo w0.heap.size) W x c → Inv s W → Calls Tryz.prog 113 (bnd.push (.agg c) ++ cap) W (Does Inv (f s x))))
 (W : World) (h0 : Hid (Inv s0 W)) : Calls Tryz.prog 112 #[.slice p m c, .int .i64 (most : Int), .func (.func 113) bnd cap] W (Does Inv (eachE f most l s0)) := by
 obtain ⟨hlm, hm⟩ := hl.out.len
 have HL := Lib.hid hlm
 have HM := Lib.hid hm
 by_cases hlt : most < m
 · have HE := Lib.hid (show eachE f most l s0 = (6, s0) by unfold eachE; rw [if_pos (by omega)])
   have t1 : decide (most < m) = true := decide_eq_true hlt
   clear hlm hm
   go_enter Tryz.func112, Tryz.ntmps112
   exact zQEach_2
 have t1 : decide (most < m) = false := decide_eq_false hlt
 have t3 : (m : Int) ≤ 1000 := by omega
 have HE := Lib.hid (show eachE f most l s0 = goE f l s0 by unfold eachE; rw [if_neg (by omega)])
 have HLM := Lib.hid (show l.length ≤ most by omega)
 clear hlm hm
 obtain ⟨kk, hkk⟩ : ∃ n : Nat, 5 = n := ⟨_, rfl⟩
 have hsz : ∀ w, (sizeOf 105).run Tryz.prog w = .ok kk w := fun w => by rw [Tryz.sizeOf105, hkk]
 have HKK := Lib.hid hkk
 clear hkk
 go_enter Tryz.func112, Tryz.ntmps112
 go_wp2_with fail
 go_loopw [16] (fun i wr => ∃ k : Nat, ∃ s, k ≤ m ∧ i = .int .i64 (k : Nat) ∧ Hid (goE f (l.take k) s0 = (0, s) ∧ Inv s wr)) (fun i _ => m - (intOf i).toNat)
 case atStart => exact ⟨0, s0, Nat.zero_le _, rfl, Lib.hid ⟨rfl, h0.out⟩⟩
 case round =>
  obtain ⟨k, s, hk, rfl, HS⟩ := hrel
  have k0 : (0 : Int) ≤ (k : Int) := by omega
  rcases Nat.lt_or_ge k m with h | h
  · have k1 : (k : Int) < (m : Int) := by omega
    have hkl : k < l.length := by rw [HL.out]; exact h
    have HX := Lib.hid (List.getElem?_eq_getElem hkl)
    have hB := F.out.below _ _ HS.out.2
    obtain ⟨b, o, rfl, hbG, hG, hcell⟩ := (hl.out.below RSta.map hB).rows (by omega)
    obtain ⟨c, hcs, hat, hR⟩ := hcell.out k hkl
    have HC := Lib.hid hcs
    have HSZ := Lib.hid hB.size
    have HR := Lib.hid hR
    have hcsz : c.size = kk := by rw [HC.out, HKK.out]
    have hat2 := hat.at HKK.out
    have bt : Big 105 c.size := by rw [HC.out]; exact bSta
    have ld1 := hat2.ldN hcsz
    have ld2 := hat2.ldV bt
    have ld3 := hat2.ldA bt
    have st1 := fun (z : Array Value) (hz : z.size = 5) => put_C bt (RSta.is hR).2 z zQEach_4
    have st2 := fun (z : Array Value) (hz : z.size = 5) => put_V bt (RSta.is hR).2 z zQEach_4
    have st3 := fun (z : Array Value) (hz : z.size = 5) => put_A bt (RSta.is hR).2 z zQEach_4
    have ld4 := fun W => run_loadCellsFrom_new (P := Tryz.prog) W 105 c kk hcsz
    obtain ⟨x, hx⟩ : ∃ x, l[k] = x := ⟨_, rfl⟩
    rw [hx] at HX HR
    clear hB hcell hcs hat hat2 bt hR hx hkl
    go_wp2_with fail
    refine (hc.out k s x c _ HX.out HLM.out HS.out.1 (RSta.map.below ((show Below wr.heap.size wr _ by exact bl).mono HSZ.out) HR.out) (F.out.on _ _ _ HS.out.2 bl)).mono ?_
    exact zQEach_0
  · exact zQEach_1
set_option maxRecDepth 100000 in
theorem each_Lw {σ : Type} {w0 : World} {l : List Lw} {p : Option Addr} {m c : Nat} (hl : Hid (Rw 3 RLw (Lo w0.heap.size) w0 l p m)) (bnd cap : Array Value) (Inv : σ → World → Prop) (F : Hid (Fine w0 Inv)) (f : σ → Lw → Int × σ) (most : Nat) (hmost : (most : Int) ≤ 1000) (s0 : σ)
 (hc : Hid (∀ k s x c W, l[k]? = some x → l.length ≤ most → goE f (l.take k) s0 = (0, s) → RLw (Lo w0.heap.size) W x c → Inv s W → Calls Tryz.prog 139 (bnd.push (.agg c) ++ cap) W (Does Inv (f s x))))
 (W : World) (h0 : Hid (Inv s0 W)) : Calls Tryz.prog 138 #[.slice p m c, .int .i64 (most : Int), .func (.func 139) bnd cap] W (Does Inv (eachE f most l s0)) := by
 obtain ⟨hlm, hm⟩ := hl.out.len
 have HL := Lib.hid hlm
 have HM := Lib.hid hm
 by_cases hlt : most < m
 · have HE := Lib.hid (show eachE f most l s0 = (6, s0) by unfold eachE; rw [if_pos (by omega)])
   have t1 : decide (most < m) = true := decide_eq_true hlt
   clear hlm hm
   go_enter Tryz.func138, Tryz.ntmps138
   exact zQEach_2
 have t1 : decide (most < m) = false := decide_eq_false hlt
 have t3 : (m : Int) ≤ 1000 := by omega
 have HE := Lib.hid (show eachE f most l s0 = goE f l s0 by unfold eachE; rw [if_neg (by omega)])
 have HLM := Lib.hid (show l.length ≤ most by omega)
 clear hlm hm
 obtain ⟨kk, hkk⟩ : ∃ n : Nat, 3 = n := ⟨_, rfl⟩
 have hsz : ∀ w, (sizeOf 57).run Tryz.prog w = .ok kk w := fun w => by rw [Tryz.sizeOf57, hkk]
 have HKK := Lib.hid hkk
 clear hkk
 go_enter Tryz.func138, Tryz.ntmps138
 go_wp2_with fail
 go_loopw [16] (fun i wr => ∃ k : Nat, ∃ s, k ≤ m ∧ i = .int .i64 (k : Nat) ∧ Hid (goE f (l.take k) s0 = (0, s) ∧ Inv s wr)) (fun i _ => m - (intOf i).toNat)
 case atStart => exact ⟨0, s0, Nat.zero_le _, rfl, Lib.hid ⟨rfl, h0.out⟩⟩
 case round =>
  obtain ⟨k, s, hk, rfl, HS⟩ := hrel
  have k0 : (0 : Int) ≤ (k : Int) := by omega
  rcases Nat.lt_or_ge k m with h | h
  · have k1 : (k : Int) < (m : Int) := by omega
    have hkl : k < l.length := by rw [HL.out]; exact h
    have HX := Lib.hid (List.getElem?_eq_getElem hkl)
    have hB := F.out.below _ _ HS.out.2
    obtain ⟨b, o, rfl, hbG, hG, hcell⟩ := (hl.out.below RLw.map hB).rows (by omega)
    obtain ⟨c, hcs, hat, hR⟩ := hcell.out k hkl
    have HC := Lib.hid hcs
    have HSZ := Lib.hid hB.size
    have HR := Lib.hid hR
    have hcsz : c.size = kk := by rw [HC.out, HKK.out]
    have hat2 := hat.at HKK.out
    have bt : Big 57 c.size := by rw [HC.out]; exact bLw
    have ld1 := hat2.ldN hcsz
    have ld2 := hat2.ldV bt
    have ld3 := hat2.ldA bt
    have st1 := fun (z : Array Value) (hz : z.size = 3) => put_C bt (RLw.is hR).2 z zQEach_4
    have st2 := fun (z : Array Value) (hz : z.size = 3) => put_V bt (RLw.is hR).2 z zQEach_4
    have st3 := fun (z : Array Value) (hz : z.size = 3) => put_A bt (RLw.is hR).2 z zQEach_4
    have ld4 := fun W => run_loadCellsFrom_new (P := Tryz.prog) W 57 c kk hcsz
    obtain ⟨x, hx⟩ : ∃ x, l[k] = x := ⟨_, rfl⟩
    rw [hx] at HX HR
    clear hB hcell hcs hat hat2 bt hR hx hkl
    go_wp2_with fail
    refine (hc.out k s x c _ HX.out HLM.out HS.out.1 (RLw.map.below ((show Below wr.heap.size wr _ by exact bl).mono HSZ.out) HR.out) (F.out.on _ _ _ HS.out.2 bl)).mono ?_
    exact zQEach_0
  · exact zQEach_1
set_option maxRecDepth 100000 in
theorem each_Trm {σ : Type} {w0 : World} {l : List Trm} {p : Option Addr} {m c : Nat} (hl : Hid (Rw 3 RTrm (Lo w0.heap.size) w0 l p m)) (bnd cap : Array Value) (Inv : σ → World → Prop) (F : Hid (Fine w0 Inv)) (f : σ → Trm → Int × σ) (most : Nat) (hmost : (most : Int) ≤ 1000) (s0 : σ)
 (hc : Hid (∀ k s x c W, l[k]? = some x → l.length ≤ most → goE f (l.take k) s0 = (0, s) → RTrm (Lo w0.heap.size) W x c → Inv s W → Calls Tryz.prog 156 (bnd.push (.agg c) ++ cap) W (Does Inv (f s x))))
 (W : World) (h0 : Hid (Inv s0 W)) : Calls Tryz.prog 155 #[.slice p m c, .int .i64 (most : Int), .func (.func 156) bnd cap] W (Does Inv (eachE f most l s0)) := by
 obtain ⟨hlm, hm⟩ := hl.out.len
 have HL := Lib.hid hlm
 have HM := Lib.hid hm
 by_cases hlt : most < m
 · have HE := Lib.hid (show eachE f most l s0 = (6, s0) by unfold eachE; rw [if_pos (by omega)])
   have t1 : decide (most < m) = true := decide_eq_true hlt
   clear hlm hm
   go_enter Tryz.func155, Tryz.ntmps155
   exact zQEach_2
 have t1 : decide (most < m) = false := decide_eq_false hlt
 have t3 : (m : Int) ≤ 1000 := by omega
 have HE := Lib.hid (show eachE f most l s0 = goE f l s0 by unfold eachE; rw [if_neg (by omega)])
 have HLM := Lib.hid (show l.length ≤ most by omega)
 clear hlm hm
 obtain ⟨kk, hkk⟩ : ∃ n : Nat, 3 = n := ⟨_, rfl⟩
 have hsz : ∀ w, (sizeOf 54).run Tryz.prog w = .ok kk w := fun w => by rw [Tryz.sizeOf54, hkk]
 have HKK := Lib.hid hkk
 clear hkk
 go_enter Tryz.func155, Tryz.ntmps155
 go_wp2_with fail
 go_loopw [16] (fun i wr => ∃ k : Nat, ∃ s, k ≤ m ∧ i = .int .i64 (k : Nat) ∧ Hid (goE f (l.take k) s0 = (0, s) ∧ Inv s wr)) (fun i _ => m - (intOf i).toNat)
 case atStart => exact ⟨0, s0, Nat.zero_le _, rfl, Lib.hid ⟨rfl, h0.out⟩⟩
 case round =>
  obtain ⟨k, s, hk, rfl, HS⟩ := hrel
  have k0 : (0 : Int) ≤ (k : Int) := by omega
  rcases Nat.lt_or_ge k m with h | h
  · have k1 : (k : Int) < (m : Int) := by omega
    have hkl : k < l.length := by rw [HL.out]; exact h
    have HX := Lib.hid (List.getElem?_eq_getElem hkl)
    have hB := F.out.below _ _ HS.out.2
    obtain ⟨b, o, rfl, hbG, hG, hcell⟩ := (hl.out.below RTrm.map hB).rows (by omega)
    obtain ⟨c, hcs, hat, hR⟩ := hcell.out k hkl
    have HC := Lib.hid hcs
    have HSZ := Lib.hid hB.size
    have HR := Lib.hid hR
    have hcsz : c.size = kk := by rw [HC.out, HKK.out]
    have hat2 := hat.at HKK.out
    have bt : Big 54 c.size := by rw [HC.out]; exact bTrm
    have ld1 := hat2.ldN hcsz
    have ld2 := hat2.ldV bt
    have ld3 := hat2.ldA bt
    have st1 := fun (z : Array Value) (hz : z.size = 3) => put_C bt (RTrm.is hR).2 z zQEach_4
    have st2 := fun (z : Array Value) (hz : z.size = 3) => put_V bt (RTrm.is hR).2 z zQEach_4
    have st3 := fun (z : Array Value) (hz : z.size = 3) => put_A bt (RTrm.is hR).2 z zQEach_4
    have ld4 := fun W => run_loadCellsFrom_new (P := Tryz.prog) W 54 c kk hcsz
    obtain ⟨x, hx⟩ : ∃ x, l[k] = x := ⟨_, rfl⟩
    rw [hx] at HX HR
    clear hB hcell hcs hat hat2 bt hR hx hkl
    go_wp2_with fail
    refine (hc.out k s x c _ HX.out HLM.out HS.out.1 (RTrm.map.below ((show Below wr.heap.size wr _ by exact bl).mono HSZ.out) HR.out) (F.out.on _ _ _ HS.out.2 bl)).mono ?_
    exact zQEach_0
  · exact zQEach_1
set_option maxRecDepth 100000 in
theorem each_Fld {σ : Type} {w0 : World} {l : List Fld} {p : Option Addr} {m c : Nat} (hl : Hid (Rw 2 RFld (Lo w0.heap.size) w0 l p m)) (bnd cap : Array Value) (Inv : σ → World → Prop) (F : Hid (Fine w0 Inv)) (f : σ → Fld → Int × σ) (most : Nat) (hmost : (most : Int) ≤ 1000) (s0 : σ)
 (hc : Hid (∀ k s x c W, l[k]? = some x → l.length ≤ most → goE f (l.take k) s0 = (0, s) → RFld (Lo w0.heap.size) W x c → Inv s W → Calls Tryz.prog 136 (bnd.push (.agg c) ++ cap) W (Does Inv (f s x))))
 (W : World) (h0 : Hid (Inv s0 W)) : Calls Tryz.prog 135 #[.slice p m c, .int .i64 (most : Int), .func (.func 136) bnd cap] W (Does Inv (eachE f most l s0)) := by
 obtain ⟨hlm, hm⟩ := hl.out.len
 have HL := Lib.hid hlm
 have HM := Lib.hid hm
 by_cases hlt : most < m
 · have HE := Lib.hid (show eachE f most l s0 = (6, s0) by unfold eachE; rw [if_pos (by omega)])
   have t1 : decide (most < m) = true := decide_eq_true hlt
   clear hlm hm
   go_enter Tryz.func135, Tryz.ntmps135
   exact zQEach_2
 have t1 : decide (most < m) = false := decide_eq_false hlt
 have t3 : (m : Int) ≤ 1000 := by omega
 have HE := Lib.hid (show eachE f most l s0 = goE f l s0 by unfold eachE; rw [if_neg (by omega)])
 have HLM := Lib.hid (show l.length ≤ most by omega)
 clear hlm hm
 obtain ⟨kk, hkk⟩ : ∃ n : Nat, 2 = n := ⟨_, rfl⟩
 have hsz : ∀ w, (sizeOf 103).run Tryz.prog w = .ok kk w := fun w => by rw [Tryz.sizeOf103, hkk]
 have HKK := Lib.hid hkk
 clear hkk
 go_enter Tryz.func135, Tryz.ntmps135
 go_wp2_with fail
 go_loopw [16] (fun i wr => ∃ k : Nat, ∃ s, k ≤ m ∧ i = .int .i64 (k : Nat) ∧ Hid (goE f (l.take k) s0 = (0, s) ∧ Inv s wr)) (fun i _ => m - (intOf i).toNat)
 case atStart => exact ⟨0, s0, Nat.zero_le _, rfl, Lib.hid ⟨rfl, h0.out⟩⟩
 case round =>
  obtain ⟨k, s, hk, rfl, HS⟩ := hrel
  have k0 : (0 : Int) ≤ (k : Int) := by omega
  rcases Nat.lt_or_ge k m with h | h
  · have k1 : (k : Int) < (m : Int) := by omega
    have hkl : k < l.length := by rw [HL.out]; exact h
    have HX := Lib.hid (List.getElem?_eq_getElem hkl)
    have hB := F.out.below _ _ HS.out.2
    obtain ⟨b, o, rfl, hbG, hG, hcell⟩ := (hl.out.below RFld.map hB).rows (by omega)
    obtain ⟨c, hcs, hat, hR⟩ := hcell.out k hkl
    have HC := Lib.hid hcs
    have HSZ := Lib.hid hB.size
    have HR := Lib.hid hR
    have hcsz : c.size = kk := by rw [HC.out, HKK.out]
    have hat2 := hat.at HKK.out
    have bt : Big 103 c.size := by rw [HC.out]; exact bFld
    have ld1 := hat2.ldN hcsz
    have ld2 := hat2.ldV bt
    have ld3 := hat2.ldA bt
    have st1 := fun (z : Array Value) (hz : z.size = 2) => put_C bt (RFld.is hR).2 z zQEach_4
    have st2 := fun (z : Array Value) (hz : z.size = 2) => put_V bt (RFld.is hR).2 z zQEach_4
    have st3 := fun (z : Array Value) (hz : z.size = 2) => put_A bt (RFld.is hR).2 z zQEach_4
    have ld4 := fun W => run_loadCellsFrom_new (P := Tryz.prog) W 103 c kk hcsz
    obtain ⟨x, hx⟩ : ∃ x, l[k] = x := ⟨_, rfl⟩
    rw [hx] at HX HR
    clear hB hcell hcs hat hat2 bt hR hx hkl
    go_wp2_with fail
    refine (hc.out k s x c _ HX.out HLM.out HS.out.1 (RFld.map.below ((show Below wr.heap.size wr _ by exact bl).mono HSZ.out) HR.out) (F.out.on _ _ _ HS.out.2 bl)).mono ?_
    exact zQEach_0
  · exact zQEach_1
set_option maxRecDepth 100000 in
theorem each_Txt {σ : Type} {w0 : World} {l : List ByteArray} {p : Option Addr} {m c : Nat} (hl : Hid (Rw 1 RTxt (Lo w0.heap.size) w0 l p m)) (bnd cap : Array Value) (Inv : σ → World → Prop) (F : Hid (Fine w0 Inv)) (f : σ → ByteArray → Int × σ) (most : Nat) (hmost : (most : Int) ≤ 1000) (s0 : σ)
 (hc : Hid (∀ k s x W, l[k]? = some x → l.length ≤ most → goE f (l.take k) s0 = (0, s) → Inv s W → Calls Tryz.prog 54 (bnd.push (.string x) ++ cap) W (Does Inv (f s x))))
 (W : World) (h0 : Hid (Inv s0 W)) : Calls Tryz.prog 108 #[.slice p m c, .int .i64 (most : Int), .func (.func 54) bnd cap] W (Does Inv (eachE f most l s0)) := by
 obtain ⟨hlm, hm⟩ := hl.out.len
 have HL := Lib.hid hlm
 have HM := Lib.hid hm
 by_cases hlt : most < m
 · have HE := Lib.hid (show eachE f most l s0 = (6, s0) by unfold eachE; rw [if_pos (by omega)])
   have t1 : decide (most < m) = true := decide_eq_true hlt
   clear hlm hm
   go_enter Tryz.func108, Tryz.ntmps108
   exact zQEach_2
 have t1 : decide (most < m) = false := decide_eq_false hlt
 have t3 : (m : Int) ≤ 1000 := by omega
 have HE := Lib.hid (show eachE f most l s0 = goE f l s0 by unfold eachE; rw [if_neg (by omega)])
 have HLM := Lib.hid (show l.length ≤ most by omega)
 clear hlm hm
 go_enter Tryz.func108, Tryz.ntmps108
 go_wp2_with fail
 go_loopw [16] (fun i wr => ∃ k : Nat, ∃ s, k ≤ m ∧ i = .int .i64 (k : Nat) ∧ Hid (goE f (l.take k) s0 = (0, s) ∧ Inv s wr)) (fun i _ => m - (intOf i).toNat)
 case atStart => exact ⟨0, s0, Nat.zero_le _, rfl, Lib.hid ⟨rfl, h0.out⟩⟩
 case round =>
  obtain ⟨k, s, hk, rfl, HS⟩ := hrel
  have k0 : (0 : Int) ≤ (k : Int) := by omega
  rcases Nat.lt_or_ge k m with h | h
  · have k1 : (k : Int) < (m : Int) := by omega
    have hkl : k < l.length := by rw [HL.out]; exact h
    have HX := Lib.hid (List.getElem?_eq_getElem hkl)
    have hB := F.out.below _ _ HS.out.2
    obtain ⟨b, o, rfl, hbG, hG, hcell⟩ := (hl.out.below RTxt.map hB).rows (by omega)
    obtain ⟨c, hcs, hat, hR⟩ := hcell.out k hkl
    have HC := Lib.hid hcs
    have HSZ := Lib.hid hB.size
    have HR : Hid (RTxt (Lo w0.heap.size) wr l[k] #[.string l[k]]) := Lib.hid rfl
    have e1 : w0.heap.size ≤ w0.heap.size := Nat.le_refl _
    have e0 := hat.get (r := 0) (v := .string l[k]) (by rw [hR]; rfl)
    rw [show o + k * 1 + 0 = o + k by omega] at e0
    obtain ⟨x, hx⟩ : ∃ x, l[k] = x := ⟨_, rfl⟩
    rw [hx] at HX HR e0
    clear hB hcell hcs hat hR hx hkl e1
    go_wp2_with fail
    refine (hc.out k s x _ HX.out HLM.out HS.out.1 (F.out.on _ _ _ HS.out.2 bl)).mono ?_
    rintro e w2 ⟨rfl, hI⟩
    have HI := Lib.hid hI
    have HG := Lib.hid HS.out.1
    obtain ⟨r, hr⟩ : ∃ r, f s x = r := ⟨_, rfl⟩
    have HF := Lib.hid hr
    rw [hr] at HI ⊢
    obtain ⟨v, s2⟩ := r
    clear e0 hI hr
    exact zQEach_3
  · exact zQEach_1
end Go.Proofs.YtaaffmbnhjaebaaGreat.Md
namespace Go.Proofs.YtaaffmbnhjaebaaGreat.Md
open Go.RowKit Go.Maps
open Go.Proofs.YtaaffmbnhjaebaaGreat.Sm (orE orE_no orE_yes)
attribute [local go_sem] cVal0 cVal1 cVal2 cFld0 cFld1
set_option maxHeartbeats 2000000
set_option linter.unusedVariables false
theorem Scp.lt {b : Nat} {acc : List ByteArray} {w : World} (h : Scp b acc w) : b < w.heap.size := by
 obtain ⟨es, clock, hb, -⟩ := h
 exact (Array.getElem?_eq_some_iff.1 hb).1
def Step (b : Nat) (r : Int × List ByteArray) (w : World) (e : Ending) (w' : World) : Prop := e = .returned (.int .i64 r.1) ∧ Scp b r.2 w' ∧ But b w w'
theorem stepN_eq (acc : List ByteArray) (p : ByteArray × Int) : stepN acc p = (orE (decE acc p.1) p.2, accS acc p.1) := rfl
theorem zQVal_2 {p : Prop} (h : p := by
 go_wp2_with fail
 go_ret
 exact ⟨rfl, HS2.out, (But.of bl).trans HB2.out⟩
 ) : p := h
theorem zQVal_0 {p : Prop} (h : p := by
 go_enter Tryz.func29, Tryz.ntmps29
 go_wp2_with fail
 refine (CD.out _ (HS.out.on bl)).mono ?_
 rintro e w2 ⟨rfl, hs2, hb2⟩
 have HS2 := Lib.hid hs2
 have HB2 := Lib.hid hb2
 have q := ((FX.out _ (Below.refl _ _)).but hb2 (by have := HLT.out; omega))
 have c1 := q.get (cVal1 x)
 have c2 := q.get (cVal2 x)
 clear hs2 hb2 q
 go_wp2_with fail
 refine (CT.out _).mono ?_
 rintro e w3 ⟨rfl, rfl⟩
 go_wp2_with fail
 refine (CF.out _).mono ?_
 rintro e w3 ⟨rfl, rfl⟩
 exact zQVal_2
 ) : p := h
theorem zQVal_3 {p : Prop} (h : p := by
 go_wp2_with fail
 refine (CD.out _ (HS.out.on bl)).mono ?_
 rintro e w2 ⟨rfl, hs2, hb2⟩
 have HS2 := Lib.hid hs2
 have HB2 := Lib.hid hb2
 clear hs2 hb2
 exact zQVal_2
 ) : p := h
set_option maxRecDepth 100000 in
theorem checkValue_any (x : Val) (b : Nat) (acc : List ByteArray) (w : World) (hS : Scp b acc w) (hn : acc.length ≤ 100000) (hx : x.nm.size ≤ 9223372036854775807) : Calls Tryz.prog 29 #[.map (some b), .agg (cVal x)] w (Step b (stepN acc (valP x)) w) := by
 have HS := Lib.hid hS
 have FX := far (w := w) 63 (cVal x)
 have HLT := Lib.hid hS.lt
 rw [stepN_eq]
 show Calls _ _ _ _ (Step b (orE (decE acc x.nm) (valT x), accS acc x.nm) w)
 obtain ⟨acc2, h2⟩ : ∃ a, accS acc x.nm = a := ⟨_, rfl⟩
 obtain ⟨v, hv⟩ : ∃ v, decE acc x.nm = v := ⟨_, rfl⟩
 rw [h2, hv]
 have CD := Lib.hid (fun W (hW : Scp b acc W) => declare_at hv h2 W hW hn hx)
 clear hS hv h2
 by_cases hv0 : v = 0
 rotate_left 1
 · rw [orE_no hv0]
   have t1 : (v != 0) = true := bne_iff_ne.2 hv0
   go_enter Tryz.func29, Tryz.ntmps29
   exact zQVal_3
 subst hv0
 rw [orE_yes]
 obtain ⟨ty, hty⟩ : ∃ t, typ x.ty = t := ⟨_, rfl⟩
 obtain ⟨ft, hft⟩ : ∃ t, fits x.ty x.n = t := ⟨_, rfl⟩
 have HV := Lib.hid (show valT x = if ty then (if ft then 0 else 2) else 1 by unfold valT; rw [hty, hft])
 have CT := Lib.hid (fun W => (show Calls Tryz.prog 55 #[.int .i64 x.ty] W (Stay (.bool ty) W) by rw [← hty]; exact isType_any _ W))
 have CF := Lib.hid (fun W => (show Calls Tryz.prog 56 #[.int .i64 x.ty, .int .i64 x.n] W (Stay (.bool ft) W) by rw [← hft]; exact fits_any _ _ W))
 clear hty hft
 cases ty with
 | false =>
  rw [show valT x = 1 from HV.out]
  go_enter Tryz.func29, Tryz.ntmps29
  go_wp2_with fail
  refine (CD.out _ (HS.out.on bl)).mono ?_
  rintro e w2 ⟨rfl, hs2, hb2⟩
  have HS2 := Lib.hid hs2
  have HB2 := Lib.hid hb2
  have q := ((FX.out _ (Below.refl _ _)).but hb2 (by have := HLT.out; omega))
  have c1 := q.get (cVal1 x)
  have c2 := q.get (cVal2 x)
  clear hs2 hb2 q
  go_wp2_with fail
  refine (CT.out _).mono ?_
  rintro e w3 ⟨rfl, rfl⟩
  exact zQVal_2
 | true =>
  cases ft with
  | false =>
   rw [show valT x = 2 from HV.out]
   exact zQVal_0
  | true =>
   rw [show valT x = 0 from HV.out]
   exact zQVal_0
theorem zQVal_1 {p : Prop} (h : p := by
 go_enter Tryz.func136, Tryz.ntmps136
 go_wp2_with fail
 refine (CD.out _ (HS.out.on bl)).mono ?_
 rintro e w2 ⟨rfl, hs2, hb2⟩
 have HS2 := Lib.hid hs2
 have HB2 := Lib.hid hb2
 have q := ((FX.out _ (Below.refl _ _)).but hb2 (by have := HLT.out; omega))
 have c1 := q.get (cFld1 x)
 clear hs2 hb2 q
 go_wp2_with fail
 refine (CT.out _).mono ?_
 rintro e w3 ⟨rfl, rfl⟩
 exact zQVal_2
 ) : p := h
set_option maxRecDepth 100000 in
theorem checkField_any (x : Fld) (b : Nat) (acc : List ByteArray) (w : World) (hS : Scp b acc w) (hn : acc.length ≤ 100000) (hx : x.nm.size ≤ 9223372036854775807) : Calls Tryz.prog 136 #[.map (some b), .agg (cFld x)] w (Step b (stepN acc (fldP x)) w) := by
 have HS := Lib.hid hS
 have FX := far (w := w) 103 (cFld x)
 have HLT := Lib.hid hS.lt
 rw [stepN_eq]
 show Calls _ _ _ _ (Step b (orE (decE acc x.nm) (fldT x), accS acc x.nm) w)
 obtain ⟨acc2, h2⟩ : ∃ a, accS acc x.nm = a := ⟨_, rfl⟩
 obtain ⟨v, hv⟩ : ∃ v, decE acc x.nm = v := ⟨_, rfl⟩
 rw [h2, hv]
 have CD := Lib.hid (fun W (hW : Scp b acc W) => declare_at hv h2 W hW hn hx)
 clear hS hv h2
 by_cases hv0 : v = 0
 rotate_left 1
 · rw [orE_no hv0]
   have t1 : (v != 0) = true := bne_iff_ne.2 hv0
   go_enter Tryz.func136, Tryz.ntmps136
   exact zQVal_3
 subst hv0
 rw [orE_yes]
 obtain ⟨ty, hty⟩ : ∃ t, typ x.ty = t := ⟨_, rfl⟩
 have HV := Lib.hid (show fldT x = if ty then 0 else 1 by unfold fldT; rw [hty])
 have CT := Lib.hid (fun W => (show Calls Tryz.prog 55 #[.int .i64 x.ty] W (Stay (.bool ty) W) by rw [← hty]; exact isType_any _ W))
 clear hty
 cases ty with
 | false =>
  rw [show fldT x = 1 from HV.out]
  exact zQVal_1
 | true =>
  rw [show fldT x = 0 from HV.out]
  exact zQVal_1
end Go.Proofs.YtaaffmbnhjaebaaGreat.Md
namespace Go.Proofs.YtaaffmbnhjaebaaGreat.Md
open Go.RowKit Go.Maps
open Go.Proofs.YtaaffmbnhjaebaaGreat.Sm (orE orE_right)
open Go.Proofs.YtaaffmbnhjaebaaGreat.Ex (Lo)
set_option maxHeartbeats 2000000
set_option linter.unusedVariables false
structure Sco (w0 : World) (b : Nat) (K : World → Prop) (acc : List ByteArray) (W : World) : Prop where
 below : Below w0.heap.size w0 W
 scp : Scp b acc W
 k : K W
def Stb (b : Nat) (K : World → Prop) : Prop := ∀ W W2, K W → But b W W2 → K W2
theorem Stb.top (b : Nat) : Stb b (fun _ => True) := fun _ _ _ _ => trivial
theorem Sco.fine {w0 : World} {b : Nat} {K : World → Prop} (hb : w0.heap.size ≤ b) (hK : Stb b K) : Fine w0 (Sco w0 b K) where
 below _ _ h := h.below
 on s W W2 h hW := ⟨h.below.trans (hW.mono h.below.size), h.scp.on hW, hK W W2 h.k (But.of hW)⟩
theorem Sco.step {w0 : World} {b : Nat} {K : World → Prop} (hb : w0.heap.size ≤ b) (hK : Stb b K) {acc : List ByteArray} {W : World} (h : Sco w0 b K acc W) {r : Int × List ByteArray} {e : Ending} {W2 : World} (hs : Step b r W e W2) : Does (Sco w0 b K) r e W2 :=
 ⟨hs.1, ⟨But.below h.below hs.2.2 hb h.below.size, hs.2.1, hK W W2 h.k hs.2.2⟩⟩
theorem accS_len (acc : List ByteArray) (x : ByteArray) : (accS acc x).length ≤ acc.length + 1 := by
 unfold accS; split <;> simp
theorem goN_len {α : Type} {g : α → ByteArray × Int} : ∀ {l : List α} {s : List ByteArray}, (goE (fun a x => stepN a (g x)) l s).2.length ≤ s.length + l.length
 | [], s => by simp [goE]
 | x :: t, s => by
  have h1 := accS_len s (g x).1
  rw [goE, stepN_eq]
  split
  · have h2 := goN_len (g := g) (l := t) (s := accS s (g x).1)
    rw [List.length_cons]
    show (goE (fun a x => stepN a (g x)) t (accS s (g x).1)).2.length ≤ _
    omega
  · rw [List.length_cons]
    show (accS s (g x).1).length ≤ _
    omega
theorem eachN_len {α : Type} {g : α → ByteArray × Int} {most : Nat} {l : List α} {s : List ByteArray} : (eachE (fun a x => stepN a (g x)) most l s).2.length ≤ s.length + most := by
 unfold eachE
 split
 · show s.length ≤ _; omega
 · have := goN_len (g := g) (l := l) (s := s); omega
theorem go_short {α : Type} {g : α → ByteArray × Int} {l : List α} {k most : Nat} {s s0 : List ByteArray} (hm : l.length ≤ most) (h : goE (fun a x => stepN a (g x)) (l.take k) s0 = (0, s)) : s.length ≤ s0.length + most := by
 have h1 := goN_len (g := g) (l := l.take k) (s := s0)
 rw [h, List.length_take] at h1
 have : (s : List ByteArray).length ≤ s0.length + min k l.length := h1
 omega
theorem arg2 (a c : Value) : ((#[a] : Array Value).push c ++ #[]) = #[a, c] := rfl
theorem arg1 (c a : Value) : ((#[] : Array Value).push c ++ #[a]) = #[c, a] := rfl
theorem arg1b (c a b : Value) : ((#[] : Array Value).push c ++ #[a, b]) = #[c, a, b] := rfl
theorem each_vals {w0 : World} {b : Nat} {K : World → Prop} (hb : w0.heap.size ≤ b) (hK : Stb b K) {l : List Val} {p : Option Addr} {m c : Nat} (hl : Rw 3 RVal (Lo w0.heap.size) w0 l p m) (hz : ∀ x ∈ l, x.nm.size ≤ 9223372036854775807) (most : Nat) (hmost : most ≤ 1000) (s0 : List ByteArray) (h0 : s0.length ≤ 50000) (W : World) (hW : Sco w0 b K s0 W) :
 Calls Tryz.prog 28 #[.slice p m c, .int .i64 (most : Int), .func (.func 29) #[.map (some b)] #[]] W (Does (Sco w0 b K) (eachE stepN most (l.map valP) s0)) := by
 rw [eachE_map]
 refine each_Val (Lib.hid hl) #[.map (some b)] #[] (Sco w0 b K) (Lib.hid (Sco.fine hb hK)) (fun a x => stepN a (valP x)) most (by omega) s0 (Lib.hid fun k s x c W hx hm hg hR hI => ?_) W (Lib.hid hW)
 rw [arg2, show c = cVal x from hR]
 have := go_short hm hg
 exact (checkValue_any x b s W hI.scp (by omega) (hz x (List.mem_of_getElem? hx))).mono fun e W2 h => hI.step hb hK h
theorem each_flds {w0 : World} {b : Nat} {K : World → Prop} (hb : w0.heap.size ≤ b) (hK : Stb b K) {l : List Fld} {p : Option Addr} {m c : Nat} (hl : Rw 2 RFld (Lo w0.heap.size) w0 l p m) (hz : ∀ x ∈ l, x.nm.size ≤ 9223372036854775807) (most : Nat) (hmost : most ≤ 1000) (s0 : List ByteArray) (h0 : s0.length ≤ 50000) (W : World) (hW : Sco w0 b K s0 W) :
 Calls Tryz.prog 135 #[.slice p m c, .int .i64 (most : Int), .func (.func 136) #[.map (some b)] #[]] W (Does (Sco w0 b K) (eachE (fun a f => stepN a (fldP f)) most l s0)) := by
 refine each_Fld (Lib.hid hl) #[.map (some b)] #[] (Sco w0 b K) (Lib.hid (Sco.fine hb hK)) (fun a x => stepN a (fldP x)) most (by omega) s0 (Lib.hid fun k s x c W hx hm hg hR hI => ?_) W (Lib.hid hW)
 rw [arg2, show c = cFld x from hR]
 have := go_short hm hg
 exact (checkField_any x b s W hI.scp (by omega) (hz x (List.mem_of_getElem? hx))).mono fun e W2 h => hI.step hb hK h
theorem each_txts {w0 : World} {b : Nat} {K : World → Prop} (hb : w0.heap.size ≤ b) (hK : Stb b K) {l : List ByteArray} {p : Option Addr} {m c : Nat} (hl : Rw 1 RTxt (Lo w0.heap.size) w0 l p m) (hz : ∀ x ∈ l, x.size ≤ 9223372036854775807) (most : Nat) (hmost : most ≤ 1000) (s0 : List ByteArray) (h0 : s0.length ≤ 50000) (W : World) (hW : Sco w0 b K s0 W) :
 Calls Tryz.prog 108 #[.slice p m c, .int .i64 (most : Int), .func (.func 54) #[.map (some b)] #[]] W (Does (Sco w0 b K) (eachE stepN most (l.map txtP) s0)) := by
 rw [eachE_map]
 refine each_Txt (Lib.hid hl) #[.map (some b)] #[] (Sco w0 b K) (Lib.hid (Sco.fine hb hK)) (fun a x => stepN a (txtP x)) most (by omega) s0 (Lib.hid fun k s x W hx hm hg hI => ?_) W (Lib.hid hW)
 rw [arg2]
 have := go_short hm hg
 refine (declare_any b s x W hI.scp (by omega) (hz x (List.mem_of_getElem? hx))).mono fun e W2 h => hI.step hb hK ?_
 obtain ⟨h1, h2, h3⟩ := h
 refine ⟨?_, h2, h3⟩
 rw [h1]
 show _ = Ending.returned (.int .i64 (orE (decE s x) 0))
 rw [orE_right]
end Go.Proofs.YtaaffmbnhjaebaaGreat.Md
