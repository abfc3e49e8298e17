/-
  Parts of this proof: The contracts of slices.IndexFunc at its types. The contracts of walk, of the closure of nodes and of nodes. The contracts of Nodes and of hasMoreNodes. The contracts of the small functions of the program and of the reference. The contract of Names.
-/
import Derived.Test.YtaaffmbnhjaebaaGreatZQBase
import Derived.RangeFuncNested
import Derived.RangeFuncBound
import Derived.RangeFuncCalls
import Derived.RangeFuncLeaves
import Derived.RangeFuncBox
import Derived.Shelf.Abstract
import Derived.OwnWalkIn
import Derived.TacticsInMore
import Derived.LoopNIn
import Derived.LoopIn
import Derived.Sort.OwnSorted
import Derived.Lib.OwnBridge
namespace Go.Proofs.YtaaffmbnhjaebaaGreat.Md
open Go.RowKit
open Go.Proofs.YtaaffmbnhjaebaaGreat.Na (bs fst)
open Go.Proofs.YtaaffmbnhjaebaaGreat.Ex (Lo Gives take_one ret_int)
set_option maxHeartbeats 2000000
set_option linter.unusedVariables false
def idxB {α : Type} (f : α → Bool) : List α → Int
 | [] => -1
 | x :: t => if f x = true then 0 else if idxB f t = -1 then -1 else idxB f t + 1
theorem idxB_ge {α : Type} {f : α → Bool} : ∀ l : List α, -1 ≤ idxB f l
 | [] => by unfold idxB; omega
 | x :: t => by
  have := idxB_ge (f := f) t
  unfold idxB
  split
  · omega
  · split <;> omega
theorem idxB_app {α : Type} {f : α → Bool} : ∀ {a b : List α}, idxB f a = -1 → idxB f (a ++ b) = if idxB f b = -1 then -1 else a.length + idxB f b
 | [], b, _ => by
  rw [List.nil_append]
  split
  · assumption
  · simp
 | x :: t, b, h => by
  rw [List.cons_append, idxB]
  rw [idxB] at h
  by_cases hx : f x = true
  · rw [if_pos hx] at h; omega
  · rw [if_neg hx] at h ⊢
    have h0 := idxB_ge (f := f) t
    have h1 := idxB_ge (f := f) b
    by_cases ht : idxB f t = -1
    · rw [idxB_app ht]
      by_cases hb : idxB f b = -1
      · rw [if_pos hb, if_pos hb, if_pos rfl]
      · rw [if_neg hb, if_neg hb, if_neg (by omega), List.length_cons]; omega
    · rw [if_neg ht] at h; omega
theorem idxB_miss {α : Type} {f : α → Bool} {l : List α} {k : Nat} {x : α} (hx : l[k]? = some x) (h : idxB f (l.take k) = -1) (g : f x = false) : idxB f (l.take (k + 1)) = -1 := by
 rw [take_one hx, idxB_app h]
 have : idxB f [x] = -1 := by unfold idxB; rw [g]; rfl
 rw [if_pos this]
theorem idxB_hit {α : Type} {f : α → Bool} {l : List α} {k : Nat} {x : α} (hx : l[k]? = some x) (h : idxB f (l.take k) = -1) (g : f x = true) : idxB f l = (k : Int) := by
 obtain ⟨hk, e⟩ := List.getElem?_eq_some_iff.1 hx
 have h1 := List.take_append_drop k l
 rw [List.drop_eq_getElem_cons hk, e] at h1
 have h2 := idxB_app (b := x :: l.drop (k + 1)) h
 rw [h1] at h2
 have h3 : idxB f (x :: l.drop (k + 1)) = 0 := by unfold idxB; rw [if_pos g]
 rw [h2, h3, if_neg (by omega), List.length_take]
 omega
theorem idxB_fst {α : Type} {nm : α → ByteArray} {s : ByteArray} : ∀ {l : List α}, idxB (fun x => txB (nm x) s) l = fst (l.map nm) s
 | [] => rfl
 | x :: t => by
  rw [List.map_cons, fst_cons, idxB, idxB_fst]
  have : (txB (nm x) s = true) = (bs (nm x) = bs s) := by unfold txB; rw [decide_eq_true_eq]
  simp only [this]
theorem tx_is (a b : ByteArray) : (a.toList == b.toList) = txB a b := by
 unfold txB
 by_cases h : bs a = bs b
 · rw [decide_eq_true h]; exact Na.eq_yes h
 · rw [decide_eq_false h]; exact Na.eq_no h
theorem zQIdx_0 {p : Prop} (h : p := by
 have ld1 := hat2.ldN hcsz
 have ld2 := hat2.ldV bt
 have ld3 := hat2.ldA bt
 obtain ⟨x, hx⟩ : ∃ x, l[k] = x := ⟨_, rfl⟩
 rw [hx] at HX HR
 clear hcell hcs hat hat2 bt hR hx hkl
 go_wp2_with fail
 refine (hc.out x c _ HR.out HW.out).mono ?_
 rintro e w2 ⟨rfl, hb2⟩
 have HW2 : Hid (Below w.heap.size w w2) := Lib.hid (by have HBB := HW.out; exact bl)
 clear ld1 ld2 ld3 hb2
 cases hr : f x
 · have H := Lib.hid (idxB_miss HX.out HA.out hr)
   clear hr
   go_wp2_with fail
   go_roundw
   case rel => exact ⟨k + 1, by omega, by go_num, HW2, H⟩
   case measure => simp [intOf]; omega
 · have H := Lib.hid (idxB_hit HX.out HA.out hr)
   clear hr
   go_wp2_with fail
   go_ret
   exact ⟨ret_int H.out.symm, HW2.out⟩
 ) : p := h
theorem zQIdx_1 {p : Prop} (h : p := by
 obtain rfl : m = k := by omega
 have HT := Lib.hid (show idxB f l = -1 by have h1 := HA.out; rwa [List.take_of_length_le (by rw [HL.out]; exact Nat.le_refl _)] at h1)
 go_wp2_with fail
 go_ret
 exact ⟨ret_int HT.out.symm, HW.out⟩
 ) : p := h
set_option maxRecDepth 100000 in
theorem index_Ste {l : List Ste} {p : Option Addr} {m c : Nat} {w : World} (hl : Hid (Rw 13 RSte (Lo w.heap.size) w l p m)) (bnd cap : Array Value) (f : Ste → Bool)
 (hc : Hid (∀ x c W, RSte (Lo W.heap.size) W x c → Below w.heap.size w W → Calls Tryz.prog 40 (bnd.push (.agg c) ++ cap) W (Gives (.bool (f x)) W))) :
 Calls Tryz.prog 39 #[.slice p m c, .func (.func 40) bnd cap] w (Gives (.int .i64 (idxB f l)) w) := by
 obtain ⟨hlm, hm⟩ := hl.out.len
 have HL := Lib.hid hlm
 have t3 : (m : Int) ≤ 9223372036854775807 := by omega
 clear hlm hm
 obtain ⟨kk, hkk⟩ : ∃ n : Nat, 13 = n := ⟨_, rfl⟩
 have hsz : ∀ w, (sizeOf 42).run Tryz.prog w = .ok kk w := fun w => by rw [Tryz.sizeOf42, hkk]
 have HKK := Lib.hid hkk
 clear hkk
 go_enter Tryz.func39, Tryz.ntmps39
 go_wp2_with fail
 go_loopw [8] (fun i wr => ∃ k : Nat, k ≤ m ∧ i = .int .i64 (k : Nat) ∧ Hid (Below w.heap.size w wr) ∧ Hid (idxB f (l.take k) = -1)) (fun i _ => m - (intOf i).toNat)
 case atStart => exact ⟨0, Nat.zero_le _, rfl, Lib.hid (Below.refl _ _), Lib.hid rfl⟩
 case round =>
  obtain ⟨k, hk, rfl, HW, HA⟩ := hrel
  have k0 : (0 : Int) ≤ (k : Int) := by omega
  rcases Nat.lt_or_ge k m with h | h
  · have k1 : (k : Int) < (m : Int) := by omega
    have hkl : k < l.length := by rw [HL.out]; exact h
    have HX := Lib.hid (List.getElem?_eq_getElem hkl)
    obtain ⟨b, o, rfl, hbG, hG, hcell⟩ := (hl.out.below RSte.map HW.out).rows (by omega)
    obtain ⟨c, hcs, hat, hR⟩ := hcell.out k hkl
    have HC := Lib.hid hcs
    have HR := Lib.hid (RSte.map.all hR)
    have hcsz : c.size = kk := by rw [HC.out, HKK.out]
    have hat2 := hat.at HKK.out
    have bt : Big 42 c.size := by rw [HC.out]; exact bSte
    exact zQIdx_0
  · exact zQIdx_1
set_option maxRecDepth 100000 in
theorem index_Rou {l : List Rou} {p : Option Addr} {m c : Nat} {w : World} (hl : Hid (Rw 4 RRou (Lo w.heap.size) w l p m)) (bnd cap : Array Value) (f : Rou → Bool)
 (hc : Hid (∀ x c W, RRou (Lo W.heap.size) W x c → Below w.heap.size w W → Calls Tryz.prog 42 (bnd.push (.agg c) ++ cap) W (Gives (.bool (f x)) W))) :
 Calls Tryz.prog 41 #[.slice p m c, .func (.func 42) bnd cap] w (Gives (.int .i64 (idxB f l)) w) := by
 obtain ⟨hlm, hm⟩ := hl.out.len
 have HL := Lib.hid hlm
 have t3 : (m : Int) ≤ 9223372036854775807 := by omega
 clear hlm hm
 obtain ⟨kk, hkk⟩ : ∃ n : Nat, 4 = n := ⟨_, rfl⟩
 have hsz : ∀ w, (sizeOf 79).run Tryz.prog w = .ok kk w := fun w => by rw [Tryz.sizeOf79, hkk]
 have HKK := Lib.hid hkk
 clear hkk
 go_enter Tryz.func41, Tryz.ntmps41
 go_wp2_with fail
 go_loopw [8] (fun i wr => ∃ k : Nat, k ≤ m ∧ i = .int .i64 (k : Nat) ∧ Hid (Below w.heap.size w wr) ∧ Hid (idxB f (l.take k) = -1)) (fun i _ => m - (intOf i).toNat)
 case atStart => exact ⟨0, Nat.zero_le _, rfl, Lib.hid (Below.refl _ _), Lib.hid rfl⟩
 case round =>
  obtain ⟨k, hk, rfl, HW, HA⟩ := hrel
  have k0 : (0 : Int) ≤ (k : Int) := by omega
  rcases Nat.lt_or_ge k m with h | h
  · have k1 : (k : Int) < (m : Int) := by omega
    have hkl : k < l.length := by rw [HL.out]; exact h
    have HX := Lib.hid (List.getElem?_eq_getElem hkl)
    obtain ⟨b, o, rfl, hbG, hG, hcell⟩ := (hl.out.below RRou.map HW.out).rows (by omega)
    obtain ⟨c, hcs, hat, hR⟩ := hcell.out k hkl
    have HC := Lib.hid hcs
    have HR := Lib.hid (RRou.map.all hR)
    have hcsz : c.size = kk := by rw [HC.out, HKK.out]
    have hat2 := hat.at HKK.out
    have bt : Big 79 c.size := by rw [HC.out]; exact bRou
    exact zQIdx_0
  · exact zQIdx_1
set_option maxRecDepth 100000 in
theorem index_Val {l : List Val} {p : Option Addr} {m c : Nat} {w : World} (hl : Hid (Rw 3 RVal (Lo w.heap.size) w l p m)) (bnd cap : Array Value) (f : Val → Bool)
 (hc : Hid (∀ x c W, RVal (Lo W.heap.size) W x c → Below w.heap.size w W → Calls Tryz.prog 72 (bnd.push (.agg c) ++ cap) W (Gives (.bool (f x)) W))) :
 Calls Tryz.prog 71 #[.slice p m c, .func (.func 72) bnd cap] w (Gives (.int .i64 (idxB f l)) w) := by
 obtain ⟨hlm, hm⟩ := hl.out.len
 have HL := Lib.hid hlm
 have t3 : (m : Int) ≤ 9223372036854775807 := by omega
 clear hlm hm
 obtain ⟨kk, hkk⟩ : ∃ n : Nat, 3 = n := ⟨_, rfl⟩
 have hsz : ∀ w, (sizeOf 63).run Tryz.prog w = .ok kk w := fun w => by rw [Tryz.sizeOf63, hkk]
 have HKK := Lib.hid hkk
 clear hkk
 go_enter Tryz.func71, Tryz.ntmps71
 go_wp2_with fail
 go_loopw [8] (fun i wr => ∃ k : Nat, k ≤ m ∧ i = .int .i64 (k : Nat) ∧ Hid (Below w.heap.size w wr) ∧ Hid (idxB f (l.take k) = -1)) (fun i _ => m - (intOf i).toNat)
 case atStart => exact ⟨0, Nat.zero_le _, rfl, Lib.hid (Below.refl _ _), Lib.hid rfl⟩
 case round =>
  obtain ⟨k, hk, rfl, HW, HA⟩ := hrel
  have k0 : (0 : Int) ≤ (k : Int) := by omega
  rcases Nat.lt_or_ge k m with h | h
  · have k1 : (k : Int) < (m : Int) := by omega
    have hkl : k < l.length := by rw [HL.out]; exact h
    have HX := Lib.hid (List.getElem?_eq_getElem hkl)
    obtain ⟨b, o, rfl, hbG, hG, hcell⟩ := (hl.out.below RVal.map HW.out).rows (by omega)
    obtain ⟨c, hcs, hat, hR⟩ := hcell.out k hkl
    have HC := Lib.hid hcs
    have HR := Lib.hid (RVal.map.all hR)
    have hcsz : c.size = kk := by rw [HC.out, HKK.out]
    have hat2 := hat.at HKK.out
    have bt : Big 63 c.size := by rw [HC.out]; exact bVal
    exact zQIdx_0
  · exact zQIdx_1
set_option maxRecDepth 100000 in
theorem index_Res {l : List Res} {p : Option Addr} {m c : Nat} {w : World} (hl : Hid (Rw 17 RRes (Lo w.heap.size) w l p m)) (bnd cap : Array Value) (f : Res → Bool)
 (hc : Hid (∀ x c W, RRes (Lo W.heap.size) W x c → Below w.heap.size w W → Calls Tryz.prog 74 (bnd.push (.agg c) ++ cap) W (Gives (.bool (f x)) W))) :
 Calls Tryz.prog 73 #[.slice p m c, .func (.func 74) bnd cap] w (Gives (.int .i64 (idxB f l)) w) := by
 obtain ⟨hlm, hm⟩ := hl.out.len
 have HL := Lib.hid hlm
 have t3 : (m : Int) ≤ 9223372036854775807 := by omega
 clear hlm hm
 obtain ⟨kk, hkk⟩ : ∃ n : Nat, 17 = n := ⟨_, rfl⟩
 have hsz : ∀ w, (sizeOf 92).run Tryz.prog w = .ok kk w := fun w => by rw [Tryz.sizeOf92, hkk]
 have HKK := Lib.hid hkk
 clear hkk
 go_enter Tryz.func73, Tryz.ntmps73
 go_wp2_with fail
 go_loopw [8] (fun i wr => ∃ k : Nat, k ≤ m ∧ i = .int .i64 (k : Nat) ∧ Hid (Below w.heap.size w wr) ∧ Hid (idxB f (l.take k) = -1)) (fun i _ => m - (intOf i).toNat)
 case atStart => exact ⟨0, Nat.zero_le _, rfl, Lib.hid (Below.refl _ _), Lib.hid rfl⟩
 case round =>
  obtain ⟨k, hk, rfl, HW, HA⟩ := hrel
  have k0 : (0 : Int) ≤ (k : Int) := by omega
  rcases Nat.lt_or_ge k m with h | h
  · have k1 : (k : Int) < (m : Int) := by omega
    have hkl : k < l.length := by rw [HL.out]; exact h
    have HX := Lib.hid (List.getElem?_eq_getElem hkl)
    obtain ⟨b, o, rfl, hbG, hG, hcell⟩ := (hl.out.below RRes.map HW.out).rows (by omega)
    obtain ⟨c, hcs, hat, hR⟩ := hcell.out k hkl
    have HC := Lib.hid hcs
    have HR := Lib.hid (RRes.map.all hR)
    have hcsz : c.size = kk := by rw [HC.out, HKK.out]
    have hat2 := hat.at HKK.out
    have bt : Big 92 c.size := by rw [HC.out]; exact bRes
    exact zQIdx_0
  · exact zQIdx_1
set_option maxRecDepth 100000 in
theorem index_Sto {l : List Sto} {p : Option Addr} {m c : Nat} {w : World} (hl : Hid (Rw 3 RSto (Lo w.heap.size) w l p m)) (bnd cap : Array Value) (f : Sto → Bool)
 (hc : Hid (∀ x c W, RSto (Lo W.heap.size) W x c → Below w.heap.size w W → Calls Tryz.prog 76 (bnd.push (.agg c) ++ cap) W (Gives (.bool (f x)) W))) :
 Calls Tryz.prog 75 #[.slice p m c, .func (.func 76) bnd cap] w (Gives (.int .i64 (idxB f l)) w) := by
 obtain ⟨hlm, hm⟩ := hl.out.len
 have HL := Lib.hid hlm
 have t3 : (m : Int) ≤ 9223372036854775807 := by omega
 clear hlm hm
 obtain ⟨kk, hkk⟩ : ∃ n : Nat, 3 = n := ⟨_, rfl⟩
 have hsz : ∀ w, (sizeOf 95).run Tryz.prog w = .ok kk w := fun w => by rw [Tryz.sizeOf95, hkk]
 have HKK := Lib.hid hkk
 clear hkk
 go_enter Tryz.func75, Tryz.ntmps75
 go_wp2_with fail
 go_loopw [8] (fun i wr => ∃ k : Nat, k ≤ m ∧ i = .int .i64 (k : Nat) ∧ Hid (Below w.heap.size w wr) ∧ Hid (idxB f (l.take k) = -1)) (fun i _ => m - (intOf i).toNat)
 case atStart => exact ⟨0, Nat.zero_le _, rfl, Lib.hid (Below.refl _ _), Lib.hid rfl⟩
 case round =>
  obtain ⟨k, hk, rfl, HW, HA⟩ := hrel
  have k0 : (0 : Int) ≤ (k : Int) := by omega
  rcases Nat.lt_or_ge k m with h | h
  · have k1 : (k : Int) < (m : Int) := by omega
    have hkl : k < l.length := by rw [HL.out]; exact h
    have HX := Lib.hid (List.getElem?_eq_getElem hkl)
    obtain ⟨b, o, rfl, hbG, hG, hcell⟩ := (hl.out.below RSto.map HW.out).rows (by omega)
    obtain ⟨c, hcs, hat, hR⟩ := hcell.out k hkl
    have HC := Lib.hid hcs
    have HR := Lib.hid (RSto.map.all hR)
    have hcsz : c.size = kk := by rw [HC.out, HKK.out]
    have hat2 := hat.at HKK.out
    have bt : Big 95 c.size := by rw [HC.out]; exact bSto
    exact zQIdx_0
  · exact zQIdx_1
set_option maxRecDepth 100000 in
theorem index_Blt {l : List Blt} {p : Option Addr} {m c : Nat} {w : World} (hl : Hid (Rw 3 RBlt (Lo w.heap.size) w l p m)) (bnd cap : Array Value) (f : Blt → Bool)
 (hc : Hid (∀ x c W, RBlt (Lo W.heap.size) W x c → Below w.heap.size w W → Calls Tryz.prog 78 (bnd.push (.agg c) ++ cap) W (Gives (.bool (f x)) W))) :
 Calls Tryz.prog 77 #[.slice p m c, .func (.func 78) bnd cap] w (Gives (.int .i64 (idxB f l)) w) := by
 obtain ⟨hlm, hm⟩ := hl.out.len
 have HL := Lib.hid hlm
 have t3 : (m : Int) ≤ 9223372036854775807 := by omega
 clear hlm hm
 obtain ⟨kk, hkk⟩ : ∃ n : Nat, 3 = n := ⟨_, rfl⟩
 have hsz : ∀ w, (sizeOf 97).run Tryz.prog w = .ok kk w := fun w => by rw [Tryz.sizeOf97, hkk]
 have HKK := Lib.hid hkk
 clear hkk
 go_enter Tryz.func77, Tryz.ntmps77
 go_wp2_with fail
 go_loopw [8] (fun i wr => ∃ k : Nat, k ≤ m ∧ i = .int .i64 (k : Nat) ∧ Hid (Below w.heap.size w wr) ∧ Hid (idxB f (l.take k) = -1)) (fun i _ => m - (intOf i).toNat)
 case atStart => exact ⟨0, Nat.zero_le _, rfl, Lib.hid (Below.refl _ _), Lib.hid rfl⟩
 case round =>
  obtain ⟨k, hk, rfl, HW, HA⟩ := hrel
  have k0 : (0 : Int) ≤ (k : Int) := by omega
  rcases Nat.lt_or_ge k m with h | h
  · have k1 : (k : Int) < (m : Int) := by omega
    have hkl : k < l.length := by rw [HL.out]; exact h
    have HX := Lib.hid (List.getElem?_eq_getElem hkl)
    obtain ⟨b, o, rfl, hbG, hG, hcell⟩ := (hl.out.below RBlt.map HW.out).rows (by omega)
    obtain ⟨c, hcs, hat, hR⟩ := hcell.out k hkl
    have HC := Lib.hid hcs
    have HR := Lib.hid (RBlt.map.all hR)
    have hcsz : c.size = kk := by rw [HC.out, HKK.out]
    have hat2 := hat.at HKK.out
    have bt : Big 97 c.size := by rw [HC.out]; exact bBlt
    exact zQIdx_0
  · exact zQIdx_1
end Go.Proofs.YtaaffmbnhjaebaaGreat.Md
namespace Go.Proofs.YtaaffmbnhjaebaaGreat.Ex
open Go.RowKit Go.Shelf
attribute [local go_sem] Oper.semAt_some
set_option maxHeartbeats 2000000
set_option linter.unusedVariables false
theorem room_of_none {F : Fence} (hd : F.depth = none) (k : Nat) : F.room k := fun d h => by rw [hd] at h; cases h
theorem round_any_depth {F : Fence} (hd : F.depth = none) {m m' : Nat} {P : Program} {l : Nat} {f : FuncId} {tmps : Array Value} {assign body : Code} {w : World} {R : Ending → World → Prop}
 (h : RoundIn F m P l f tmps assign body w R) : RoundIn F m' P l f tmps assign body w R := ⟨h.1, fun c cs _ => h.2 c cs (room_of_none hd _)⟩
theorem yield_any_depth {F : Fence} (hd : F.depth = none) {m : Nat} (m' : Nat) {P : Program} {l : Nat} {args : Array Value} {W : World} {R : Ending → World → Prop} (h : YieldAt F m P l args W R) : YieldAt F m' P l args W R := by
 obtain ⟨fn, tmps, assign, body, hy, hR⟩ := h
 exact ⟨fn, tmps, assign, body, hy, round_any_depth hd hR⟩
structure Nd where
 x : Ex
 p : Option Addr
 m : Nat
 c : Nat
 hl : x.l.length = m
 hs : x.s.size ≤ 140737488355328
def encN (r : Nd) : Array Value := #[.agg #[.int .i64 r.x.o, .string r.x.s, .int .i64 r.x.n, .slice r.p r.m r.c]]
structure Kp (n₀ T : Nat) (W W' : World) : Prop where
 below : Below n₀ W W'
 same : ∀ (k : Nat) (C : Array Value) (fr : Nat × Nat), T ≤ k → W.heap[k]? = some (.cells C 171 fr) → W'.heap[k]? = some (.cells C 171 fr)
theorem Kp.refl (n₀ T : Nat) (W : World) : Kp n₀ T W W := ⟨Below.refl _ _, fun _ _ _ _ h => h⟩
theorem Kp.trans {n₀ T : Nat} {A B C : World} (h : Kp n₀ T A B) (k : Kp n₀ T B C) : Kp n₀ T A C := ⟨h.below.trans k.below, fun i c fr hi hc => k.same i c fr hi (h.same i c fr hi hc)⟩
theorem Kp.of_below {n₀ T : Nat} {W W' : World} (h : Below W.heap.size W W') (hn : n₀ ≤ W.heap.size) : Kp n₀ T W W' := ⟨h.mono hn, fun k c fr _ hc => (h.block k (Array.getElem?_eq_some_iff.1 hc).1).trans hc⟩
theorem Kp.put {n₀ T : Nat} {w : World} (hn : n₀ ≤ w.heap.size) (W : World) (l : Nat) (o o' : Obj) (hl : w.heap.size ≤ l) (h : W.heap[l]? = some o) (h1 : o.isCells = false) (h2 : o.isWalk = false) : Kp n₀ T W (W.putObj l o') :=
 ⟨belowK_b hn W l o o' hl h h1 h2, fun k c fr _ hc => by
   rw [World.putObj_heap_other]
   · exact hc
   · intro e
     subst e
     rw [h] at hc
     cases hc
     cases h1⟩
theorem Kp.set {n₀ T : Nat} {W : World} {B : Nat} (h0 : n₀ ≤ B) (hT : B < T) (v : Value) : Kp n₀ T W (W.setCell ⟨B, 0, none⟩ v) :=
 ⟨(Below.refl n₀ W).setCell (p := ⟨B, 0, none⟩) h0 v, fun k c fr hk hc => ((grownBy_setCell' W B v).block k (Array.getElem?_eq_some_iff.1 hc).1 (fun e => by cases e; omega)).trans hc⟩
theorem grown_of_below {W W' : World} (hb : Below W.heap.size W W') : W.grownBy W' none := ⟨hb.os, hb.tape, hb.output, hb.size, fun k hk _ => hb.block k hk⟩
theorem abides_below {β : Type} {B : Nat} {J : β → World → Prop} (hJ : AbidesFrom B J) {s : β} {W W' : World} (hs : J s W) (hb : Below W.heap.size W W') : J s W' := hJ s W W' none hs (grown_of_below hb) (fun r e => by cases e)
theorem box_of {W : World} {g : Nat} {o : Int} {s : ByteArray} {n : Int} {p : Option Addr} {m c : Nat} {t : TypeId} {fr : Nat × Nat} (h : W.heap[g]? = some (.cells #[.int .i64 o, .string s, .int .i64 n, .slice p m c] t fr)) : box4 W g o s n p m c := by
 refine ⟨?_, ?_, ?_, ?_⟩ <;> simp [World.cell?, h]
set_option maxRecDepth 100000 in
theorem wlkd_in (F : Fence) (hd : F.depth = none) (hf : F.fn 194) (hro : F.round = none) (l n₀ T N : Nat) (J Jx : List Nd → World → Prop)
 (hJ : ∀ s W W', J s W → Below W.heap.size W W' → J s W')
 (hY : ∀ m ps r W, J ps W → ps.length < N → YieldAt F m Tryz.prog l (encN r) W fun e W' =>
   (e = .returned (.bool true) ∧ J (ps ++ [r]) W' ∧ Kp n₀ T W W') ∨ (e = .returned (.bool false) ∧ Jx (ps ++ [r]) W')) (e : Ex) :
 ∀ (n : Nat) (p : Option Addr) (m c : Nat) (ps : List Nd) (W : World), Kin (Lo n₀) W e p m → Sz e → n₀ ≤ W.heap.size → T ≤ W.heap.size → J ps W → ps.length + cnt e ≤ N →
  CallsIn F n Tryz.prog 194 #[.agg #[.int .i64 e.o, .string e.s, .int .i64 e.n, .slice p m c], .func (.yield l) #[] #[]] W fun r W' =>
   (r = .returned (.bool true) ∧ ∃ ys, ys.map Nd.x = pre e ∧ J (ps ++ ys) W' ∧ Below n₀ W W') ∨ (r = .returned (.bool false) ∧ ∃ q, q.map Nd.x <+: pre e ∧ Jx (ps ++ q) W') := by
 induction e using Ex.ind with
 | h o s nn kl ih =>
  intro n p m c ps W ht hsz hn hT hJ0 hN
  have hdd : ∀ k : Nat, (F.depth.isSome = true → 1 ≤ k) := fun k h => by rw [hd] at h; cases h
  rw [cnt_one] at hN
  obtain ⟨hl, hm⟩ := ht.len
  have HH := Lib.hid ht
  have HI := Lib.hid ih
  have HL := Lib.hid hl
  have HSZ := Lib.hid hsz
  have HJ := Lib.hid hJ
  have HN := Lib.hid hN
  have HNN := Lib.hid hn
  have HTT := Lib.hid hT
  obtain ⟨r0, hrx, hre⟩ : ∃ r : Nd, r.x = .mk o s nn kl ∧ encN r = #[.agg #[.int .i64 o, .string s, .int .i64 nn, .slice p m c]] := ⟨⟨.mk o s nn kl, p, m, c, hl, hsz.self⟩, rfl, rfl⟩
  have HRX := Lib.hid hrx
  obtain ⟨W1, hW1⟩ : ∃ W1, W.alloc (.cells #[.int .i64 o, .string s, .int .i64 nn, .slice p m c] 171) = W1 := ⟨_, rfl⟩
  have hb1 : Below W.heap.size W W1 := by rw [← hW1]; exact (Below.refl _ _).alloc (Nat.le_refl _) _
  have hx1 : W1.heap[W.heap.size]? = some (.cells #[.int .i64 o, .string s, .int .i64 nn, .slice p m c] 171 (0, 0)) := by rw [← hW1]; exact World.alloc_heap_new W _
  have hJ1 := hJ _ _ _ hJ0 hb1
  have hy := hY (n - 1) ps r0 W1 hJ1 (by omega)
  rw [hre] at hy
  have hy2 := YieldAt.mono hy (R' := fun e W2 => (e = .returned (.bool true) ∧ Hid (J (ps ++ [r0]) W2) ∧ Hid (Below n₀ W W2) ∧ W2.cell? ⟨W.heap.size, 3, none⟩ = some (.slice p m c)) ∨ (e = .returned (.bool false) ∧ Hid (Jx (ps ++ [r0]) W2)))
   (fun e W2 h => h.elim (fun ⟨he, hj, hk⟩ => .inl ⟨he, Lib.hid hj, Lib.hid ((hb1.mono hn).trans hk.below), (box_of (hk.same _ _ _ hT hx1)).2.2.2⟩) fun ⟨he, hj⟩ => .inr ⟨he, Lib.hid hj⟩)
  obtain ⟨fn, tmps, assign, body, hy3, hR⟩ := hy2
  simp only [Ex.o, Ex.s, Ex.n]
  clear hy hb1 hx1 hJ1 hJ hJ0 hN hY ih ht hsz hn hT hl hrx hre
  refine callsIn_of_wp Tryz.func194 rfl hf ?_ hro
  simp only [Tryz.ntmps194, List.size_toArray, List.length_cons, List.length_nil, Nat.reduceAdd, Nat.reduceSub, Array.replicate_succ, Array.replicate_zero, List.push_toArray, List.append_toArray, List.nil_append, List.cons_append]
  subst hW1
  gi_wp2_with ((try refine ⟨hdd _, ?_⟩); refine hR.mono ?_; clear hR; rintro e W2 (⟨rfl, HJ2, HB2, c2⟩ | ⟨rfl, HX2⟩))
  · gi_loopw [14] (fun i wr => ∃ (k : Nat) (ys : List Nd), k ≤ m ∧ i = .int .i64 (k : Nat) ∧ Hid (ys.map Nd.x = .mk o s nn kl :: preL (kl.take k) ∧ J (ps ++ ys) wr ∧ Below n₀ W wr)) (fun i _ => m - (intOf i).toNat)
    case atStart => exact ⟨0, [r0], Nat.zero_le _, rfl, Lib.hid ⟨by rw [List.take_zero, preL, List.map_cons, HRX.out]; rfl, HJ2.out, HB2.out⟩⟩
    case round =>
     obtain ⟨k, ys, hk, rfl, HS⟩ := hrel
     have k0 : (0 : Int) ≤ (k : Int) := by omega
     rcases Nat.lt_or_ge k m with h | h
     · have k1 : (k : Int) < (m : Int) := by omega
       obtain ⟨b, o', rfl, hG, hbs, hcell⟩ := HH.out.kids (by omega)
       have hkl : k < kl.length := by rw [HL.out]; omega
       obtain ⟨q, j, c', hc4, hkin⟩ := hcell.out k hkl
       have hmem : kl[k] ∈ kl := List.getElem_mem hkl
       have hgx : kl[k]? = some kl[k] := List.getElem?_eq_getElem hkl
       obtain ⟨x, hx⟩ : ∃ x, kl[k] = x := ⟨_, rfl⟩
       rw [hx] at hc4 hkin hmem hgx
       obtain ⟨e0, e1, e2, e3⟩ := hc4.keep (HS.out.2.2.block b hG)
       have hbr : b < wr.heap.size := Nat.lt_of_lt_of_le hbs HS.out.2.2.size
       have HX := Lib.hid hgx
       have hlen : ys.length = 1 + (preL (kl.take k)).length := by
        have := congrArg List.length HS.out.1
        simp only [List.length_map, List.length_cons] at this
        omega
       rw [preL_len] at hlen
       have hcap : cntL (kl.take k) + cnt x ≤ cntL kl := by rw [← cntL_take hgx]; exact cntL_le _ _
       have HC := Lib.hid (fun W' (hb : Below wr.heap.size wr W') => (HI.out x hmem (n - 1) q j c' (ps ++ ys) W' (Kin.below (HS.out.2.2.trans (hb.mono (Nat.le_trans HNN.out HS.out.2.2.size))) hkin) (HSZ.out.kid hmem)
        (Nat.le_trans HNN.out (Nat.le_trans HS.out.2.2.size hb.size)) (Nat.le_trans HTT.out (Nat.le_trans HS.out.2.2.size hb.size)) (HJ.out _ _ _ HS.out.2.1 hb) (by rw [List.length_append]; have := HN.out; omega)).mono (R' := fun e W3 =>
          (e = .returned (.bool true) ∧ Hid (∃ zs : List Nd, (ys ++ zs).map Nd.x = .mk o s nn kl :: preL (kl.take (k + 1)) ∧ J (ps ++ (ys ++ zs)) W3 ∧ Below n₀ W W3)) ∨ (e = .returned (.bool false) ∧ Hid (∃ z : List Nd, z.map Nd.x <+: pre (.mk o s nn kl) ∧ Jx (ps ++ z) W3)))
        (fun e W3 h => h.elim (fun ⟨he, zs, hz, hj, hbz⟩ => .inl ⟨he, Lib.hid ⟨zs, by rw [List.map_append, HS.out.1, hz, preL_take hgx]; rfl, by rwa [List.append_assoc] at hj, (HS.out.2.2.trans (hb.mono (Nat.le_trans HNN.out HS.out.2.2.size))).trans hbz⟩⟩)
          (fun ⟨he, z, hz, hj⟩ => .inr ⟨he, Lib.hid ⟨ys ++ z, by
            rw [List.map_append, HS.out.1, pre_one]
            obtain ⟨r, hr⟩ := hz
            have h1 : preL kl = preL (kl.take k) ++ (pre x ++ preL (kl.drop (k + 1))) := by
             have h2 := preL_app (kl.take (k + 1)) (kl.drop (k + 1))
             rw [List.take_append_drop, preL_take hgx, List.append_assoc] at h2
             exact h2
            refine ⟨r ++ preL (kl.drop (k + 1)), ?_⟩
            rw [h1, ← hr]
            simp only [List.cons_append, List.append_assoc], by rwa [List.append_assoc] at hj⟩⟩)))
       clear hcell hc4 hkin hx hmem hgx hkl hlen hcap HI HJ HSZ
       gi_wp2_with ((try refine ⟨hdd _, ?_⟩); gi_at_call 194; refine (HC.out _ bl).mono ?_; clear HC; rintro e W3 (⟨rfl, HZ⟩ | ⟨rfl, HZ⟩))
       · go_roundw
         case rel =>
          obtain ⟨zs, h1, h2, h3⟩ := HZ.out
          exact ⟨k + 1, ys ++ zs, by omega, by go_num, Lib.hid ⟨h1, h2, h3⟩⟩
         case measure => simp [intOf]; omega
       · go_ret
         exact .inr ⟨rfl, HZ.out⟩
     · obtain rfl : m = k := by omega
       have HT : Hid (kl.take m = kl) := Lib.hid (List.take_of_length_le (by rw [HL.out]; exact Nat.le_refl _))
       rw [HT.out] at HS
       gi_wp2
       go_ret
       exact .inl ⟨rfl, ys, by rw [pre_one]; exact HS.out.1, HS.out.2⟩
  · go_ret
    exact .inr ⟨rfl, [r0], by rw [List.map_cons, HRX.out, pre_one]; exact ⟨preL kl, rfl⟩, HX2.out⟩
set_option maxRecDepth 100000 in
theorem iter_in (F : Fence) (hd : F.depth = none) (hf : F.fn 194) (hg : F.fn 193) (hro : F.round = none) (n l B n₀ T : Nat) (J Jx : List Nd → World → Prop) (e : Ex)
 (hJ : ∀ s W W', J s W → Below W.heap.size W W' → J s W')
 (hY : ∀ ps r W, J ps W → ps.length < cnt e → YieldAt F (n - 1) Tryz.prog l (encN r) W fun e W' =>
   (e = .returned (.bool true) ∧ J (ps ++ [r]) W' ∧ Kp n₀ T W W') ∨ (e = .returned (.bool false) ∧ Jx (ps ++ [r]) W'))
 (p : Option Addr) (m c : Nat) (W : World) (hx : box4 W B e.o e.s e.n p m c) (hk : Kin (Lo n₀) W e p m) (hs : Sz e) (hn : n₀ ≤ W.heap.size) (hT : T ≤ W.heap.size) (h0 : J [] W) :
 CallsIn F n Tryz.prog 193 #[.func (.yield l) #[] #[], .pointer (some ⟨B, 0, none⟩)] W fun e' W' => (∃ v, e' = .returned v) ∧
  ((∃ ys, ys.map Nd.x = pre e ∧ J ys W') ∨ (∃ q, q.map Nd.x <+: pre e ∧ Jx q W')) := by
 have hdd : ∀ k : Nat, (F.depth.isSome = true → 1 ≤ k) := fun k h => by rw [hd] at h; cases h
 have hp := wlkd_in F hd hf hro l n₀ T (cnt e) J Jx hJ (fun m ps r W hj hl => yield_any_depth hd m (hY ps r W hj hl)) e (n - 1) p m c [] W hk hs hn hT h0 (by simp)
 obtain ⟨b0, b1, b2, b3⟩ := hx
 clear hY hk hs hn hT h0 hJ
 refine callsIn_of_wp Tryz.func193 rfl hg ?_ hro
 simp only [Tryz.ntmps193, List.size_toArray, List.length_cons, List.length_nil, Nat.reduceAdd, Nat.reduceSub, Array.replicate_succ, Array.replicate_zero, List.push_toArray, List.append_toArray, List.nil_append, List.cons_append]
 gi_wp2_with ((try refine ⟨hdd _, ?_⟩); gi_at_call 194; refine hp.mono ?_; clear hp; rintro e W1 (⟨rfl, ys, h1, h2, -⟩ | ⟨rfl, q, h1, h2⟩))
 · go_end0
   exact ⟨⟨_, rfl⟩, .inl ⟨ys, h1, by simpa using h2⟩⟩
 · go_end0
   exact ⟨⟨_, rfl⟩, .inr ⟨q, h1, by simpa using h2⟩⟩
theorem nodes_in (F : Fence) (n : Nat) (hf : F.fn 189) (hro : F.round = none) (o : Int) (s : ByteArray) (nn : Int) (p : Option Addr) (m c : Nat) (w : World) :
 CallsIn F n Tryz.prog 189 #[.agg #[.int .i64 o, .string s, .int .i64 nn, .slice p m c]] w fun e w' => e = .returned (.func (.func 193) #[] #[.pointer (some ⟨w.heap.size, 0, none⟩)]) ∧ w' = w.alloc (.cells #[.int .i64 o, .string s, .int .i64 nn, .slice p m c] 171) := by
 refine callsIn_of_wp Tryz.func189 rfl hf ?_ hro
 simp only [Tryz.ntmps189, List.size_toArray, List.length_cons, List.length_nil, Nat.reduceAdd, Nat.reduceSub, Array.replicate_succ, Array.replicate_zero, List.push_toArray, List.append_toArray, List.nil_append, List.cons_append]
 gi_wp2
 go_ret
 exact ⟨rfl, rfl⟩
theorem nodes_stops (F : Fence) (hd : F.depth = none) (hf : F.fn 194) (hg : F.fn 193) (hro : F.round = none) (n B n₀ T : Nat) (e : Ex) (p : Option Addr) (m c : Nat) (w : World) (hx : box4 w B e.o e.s e.n p m c) (hk : Kin (Lo n₀) w e p m) (hs : Sz e) (hn : n₀ ≤ w.heap.size) (hT : T ≤ w.heap.size) :
 SeqStopsK F n Tryz.prog 193 #[.pointer (some ⟨B, 0, none⟩)] encN (Kp n₀ T) (fun ys => ys.map Nd.x = pre e) (fun q => q.map Nd.x <+: pre e) (cnt e) w := fun l J Jx W hW hJ _ hY h0 =>
 iter_in F hd hf hg hro n l B n₀ T J Jx e (fun s W W' h hb => abides_below hJ h hb) hY p m c W (hx.on hW) (hk.below (hW.mono hn)) hs (Nat.le_trans hn hW.size) (Nat.le_trans hT hW.size) h0
end Go.Proofs.YtaaffmbnhjaebaaGreat.Ex
namespace Go.Proofs.YtaaffmbnhjaebaaGreat.Ex
open Go.RowKit Go.Shelf
attribute [local go_sem] Oper.semAt_some
set_option maxHeartbeats 2000000
set_option linter.unusedVariables false
theorem cell_of_box {W : World} {B : Nat} {v : Value} {t : TypeId} (h : W.heap[B]? = some (.cells #[v] t (0, 0))) : W.cell? ⟨B, 0, none⟩ = some v ∧ W.frozen? ⟨B, 0, none⟩ = false := by
 constructor <;> simp [World.cell?, World.frozen?, h]
theorem cell_new (W : World) (v : Value) (t : TypeId) : (W.alloc (.cells #[v] t)).cell? ⟨W.heap.size, 0, none⟩ = some v ∧ (W.alloc (.cells #[v] t)).frozen? ⟨W.heap.size, 0, none⟩ = false :=
 cell_of_box (World.alloc_heap_new W _)
theorem cell_alloc_on {W : World} {a : Addr} {v : Value} (o : Obj) (h : W.cell? a = some v) : (W.alloc o).cell? a = some v := cell_kept h (World.grownBy_alloc W o none) (fun r e => by cases e)
theorem frozen_alloc_on {W : World} {a : Addr} {v : Value} (o : Obj) (h : W.cell? a = some v) (hf : W.frozen? a = false) : (W.alloc o).frozen? a = false := (frozen_kept h (World.grownBy_alloc W o none) (fun r e => by cases e)).trans hf
theorem set_other {W : World} {a B : Nat} {v : Value} (h : W.cell? ⟨a, 0, none⟩ = some v) (hne : a ≠ B) (u : Value) : (W.setCell ⟨B, 0, none⟩ u).cell? ⟨a, 0, none⟩ = some v :=
 (World.cell?_of_block (a := ⟨a, 0, none⟩) ((grownBy_setCell' W B u).block a (block_lt h) (fun e => hne (by cases e; rfl)))).trans h
theorem below_set {n₀ g k : Nat} {a W : World} (h : Below n₀ a W) (hg : n₀ ≤ g) (v : Value) : Below n₀ a (W.setCell ⟨g, k, none⟩ v) := h.setCell (p := ⟨g, k, none⟩) hg v
theorem map_len {ys : List Nd} {e : Ex} (h : ys.map Nd.x = pre e) : ys.length = cnt e := by
 have := congrArg List.length h
 rwa [List.length_map, pre_len] at this
theorem prefix_len {q : List Nd} {e : Ex} (h : q.map Nd.x <+: pre e) : q.length ≤ cnt e := by
 have := h.length_le
 rwa [List.length_map, pre_len] at this
set_option maxRecDepth 100000 in
theorem more_any (e : Ex) (p : Option Addr) (m c : Nat) (w : World) (h : In w e p m) (hs : Sz e) (hc : cnt e ≤ 1000000) : Calls Tryz.prog 187 #[.agg #[.int .i64 e.o, .string e.s, .int .i64 e.n, .slice p m c], .int .i64 60] w (Gives (.bool (decide (60 < cnt e))) w) := by
 obtain ⟨o, s, nn, kl⟩ := e
 simp only [Ex.o, Ex.s, Ex.n]
 have HH := Lib.hid h
 have HS := Lib.hid hs
 have HC := Lib.hid hc
 clear h hs hc
 refine (callsIn_wide (n := 3)).1 ?_
 refine callsIn_of_wp_marks Tryz.func187 rfl trivial ?_ rfl
 simp only [Tryz.ntmps187, List.size_toArray, List.length_cons, List.length_nil, Nat.reduceAdd, Nat.reduceSub, Array.replicate_succ, Array.replicate_zero, List.push_toArray, List.append_toArray, List.nil_append, List.cons_append]
 gi_wp2_with (refine ⟨trivial, ?_⟩; gi_at_call 189; refine (nodes_in Fence.wide _ trivial rfl _ _ _ _ _ _ _).mono ?_; rintro e w' ⟨rfl, rfl⟩)
 obtain ⟨w1, hw1⟩ : ∃ w1, w.alloc (.cells #[.int .i64 o, .string s, .int .i64 nn, .slice p m c] 171) = w1 := ⟨_, rfl⟩
 have hz1 : w1.heap.size = w.heap.size + 1 := by rw [← hw1]; simp
 have hb1 : Below w.heap.size w w1 := by rw [← hw1]; exact bl
 obtain ⟨w2, hw2⟩ : ∃ w2, w1.alloc (.cells #[.int .i64 60] 3) = w2 := ⟨_, rfl⟩
 have hz2 : w2.heap.size = w.heap.size + 2 := by rw [← hw2]; simp [hz1]
 have hb2 : Below w1.heap.size w1 w2 := by rw [← hw2]; exact bl
 have h2 := cell_new w1 (.int .i64 60) 3
 rw [hw2] at h2
 obtain ⟨w3, hw3⟩ : ∃ w3, w2.alloc (.cells #[.bool false] 4) = w3 := ⟨_, rfl⟩
 have hz3 : w3.heap.size = w.heap.size + 3 := by rw [← hw3]; simp [hz2]
 have hb3 : Below w2.heap.size w2 w3 := by rw [← hw3]; exact bl
 have h3 := cell_new w2 (.bool false) 4
 rw [hw3] at h3
 obtain ⟨w4, hw4⟩ : ∃ w4, w3.alloc (.cells #[.int .i64 0] 3) = w4 := ⟨_, rfl⟩
 have hz4 : w4.heap.size = w.heap.size + 4 := by rw [← hw4]; simp [hz3]
 have hb4 : Below w3.heap.size w3 w4 := by rw [← hw4]; exact bl
 have h4 := cell_new w3 (.int .i64 0) 3
 rw [hw4] at h4
 obtain ⟨w5, hw5⟩ : ∃ w5, w4.alloc (.cells #[.int .i64 o, .string s, .int .i64 nn, .slice p m c] 171) = w5 := ⟨_, rfl⟩
 have hz5 : w5.heap.size = w.heap.size + 5 := by rw [← hw5]; simp [hz4]
 have hb5 : Below w4.heap.size w4 w5 := by rw [← hw5]; exact bl
 have h5 := box_new (w := w4) (o := o) (s := s) (n := nn) (p := p) (m := m) (c := c) (t := 171)
 rw [hw5] at h5
 have g2 : w5.cell? ⟨w1.heap.size, 0, none⟩ = some (.int .i64 60) := (hb5.cell (by simp; omega)).trans ((hb4.cell (by simp; omega)).trans ((hb3.cell (by simp; omega)).trans h2.1))
 have g3 : w5.cell? ⟨w2.heap.size, 0, none⟩ = some (.bool false) := (hb5.cell (by simp; omega)).trans ((hb4.cell (by simp; omega)).trans h3.1)
 have g3f : w5.frozen? ⟨w2.heap.size, 0, none⟩ = false := (hb5.frozen (by simp; omega)).trans ((hb4.frozen (by simp; omega)).trans h3.2)
 have g4 : w5.cell? ⟨w3.heap.size, 0, none⟩ = some (.int .i64 0) := (hb5.cell (by simp; omega)).trans h4.1
 have g4f : w5.frozen? ⟨w3.heap.size, 0, none⟩ = false := (hb5.frozen (by simp; omega)).trans h4.2
 have hb : Below w.heap.size w w5 := hb1.trans ((hb2.mono (by omega)).trans ((hb3.mono (by omega)).trans ((hb4.mono (by omega)).trans (hb5.mono (by omega)))))
 rw [hz1] at g2
 rw [hz2] at g3 g3f
 rw [hz3] at g4 g4f
 rw [hz4] at h5
 rw [hw1, hw2, hw3, hw4, hw5]
 clear hw1 hw2 hw3 hw4 hw5 hb1 hb2 hb3 hb4 hb5 h2 h3 h4 hz1 hz2 hz3 hz4
 refine wpIn_rangeFunc_ownG rfl (by omega) (gf := 193) (lb := #[.pointer (some ⟨w.heap.size + 1 + 1 + 1 + 1, 0, none⟩)]) rfl trivial (enters_of Tryz.func193 (by kernel_rfl) rfl)
  (nodes_stops Fence.wide rfl trivial trivial rfl _ (w.heap.size + 1 + 1 + 1 + 1) w.heap.size w5.heap.size (.mk o s nn kl) p m c w5 h5 (HH.out.below hb) HS.out (by omega) (Nat.le_refl _)) (fun h k => h.trans k) (Kp.put (by omega)) (Below.refl _ _) (fun _ => rfl)
  (fun ps W => ((W.cell? ⟨w.heap.size + 1 + 1 + 1, 0, none⟩ = some (.int .i64 (ps.length : Nat)) ∧ W.frozen? ⟨w.heap.size + 1 + 1 + 1, 0, none⟩ = false) ∧ W.cell? ⟨w.heap.size + 1, 0, none⟩ = some (.int .i64 60) ∧ W.cell? ⟨w.heap.size + 1 + 1, 0, none⟩ = some (.bool false) ∧ W.frozen? ⟨w.heap.size + 1 + 1, 0, none⟩ = false ∧ ps.length ≤ 60) ∧ Below w.heap.size w W)
  (fun c ps W => (c = .ret ∧ 60 < ps.length ∧ W.cell? ⟨w.heap.size + 1 + 1, 0, none⟩ = some (.bool true)) ∧ Below w.heap.size w W)
  (OwnFrom.and (Own.from (fun s A B row hs hg hr => ⟨⟨cell_kept hs.1.1 hg hr, (frozen_kept hs.1.1 hg hr).trans hs.1.2⟩, cell_kept hs.2.1 hg hr, cell_kept hs.2.2.1 hg hr, (frozen_kept hs.2.2.1 hg hr).trans hs.2.2.2.1, hs.2.2.2.2⟩) _) (ownFrom_below (Nat.le_refl _) (by omega)))
  (fun c => OwnFrom.and (Own.from (fun s A B row hs hg hr => ⟨hs.1, hs.2.1, cell_kept hs.2.2 hg hr⟩) _) (ownFrom_below (Nat.le_refl _) (by omega)))
  ⟨⟨⟨g4, g4f⟩, g2, g3, g3f, by simp⟩, hb⟩
  (fun x => { tmps := #[.agg #[.int .i64 o, .string s, .int .i64 nn, .slice p m c], .int .i64 60, .pointer (some ⟨w.heap.size, 0, none⟩), .pointer (some ⟨w.heap.size + 1, 0, none⟩), .pointer (some ⟨w.heap.size + 1 + 1, 0, none⟩), .pointer (some ⟨w.heap.size + 1 + 1 + 1, 0, none⟩), .agg #[.int .i64 o, .string s, .int .i64 nn, .slice p m c], .func (.func 193) #[] #[.pointer (some ⟨w.heap.size + 1 + 1 + 1 + 1, 0, none⟩)], .agg #[.int .i64 x.x.o, .string x.x.s, .int .i64 x.x.n, .slice x.p x.m x.c], undef, undef, undef, undef, undef], defers := [] }) ?assign ?body ?done ?stop
 case assign =>
  intro l x W K hK
  simp only [encN]
  gi_wp2
  simp [go_sem]
  exact hK
 case body =>
  rintro l ps x W ⟨⟨⟨hc, hf⟩, h60, hr, hrf, hle⟩, hB⟩ hlt
  have hlt2 : (ps.length : Int) ≤ 60 := by omega
  by_cases h6 : ps.length = 60
  · have e6 : (ps.length : Int) = 60 := by omega
    rw [e6] at hc
    clear hlt2 e6
    gi_wp2
    refine ⟨((KeepsOthers.setCell _ _ _).trans (KeepsOthers.setCell _ _ _)).from _, ⟨rfl, by rw [List.length_append, h6]; simp, ?_⟩, below_set (below_set hB (by omega) _) (by omega) _⟩
    exact World.cell?_setCell_same' _ _ _ (by rw [set_other hr (by omega)]; rfl)
  · have l6 : (ps.length : Int) + 1 ≤ 60 := by omega
    gi_wp2
    refine ⟨(KeepsOthers.setCell _ _ _).from _, Kp.set (by omega) (by omega) _, ⟨⟨?_, by rw [World.frozen?_setCell]; exact hf⟩, ?_, ?_, by rw [World.frozen?_setCell]; exact hrf, by rw [List.length_append]; simp; omega⟩, below_set hB (by omega) _⟩
    · rw [World.cell?_setCell_same' _ _ _ (by rw [hc]; rfl), List.length_append]
      congr 2
    · exact set_other h60 (by omega) _
    · exact set_other hr (by omega) _
 case done =>
  rintro D ys W hD hys ⟨⟨⟨hc, hf⟩, h60, hr, hrf, hle⟩, hB⟩ hK
  have hl := map_len hys
  have hv : decide (60 < cnt (.mk o s nn kl)) = false := decide_eq_false (by omega)
  have HV := Lib.hid hv
  gi_wp2
  have hK' := (KeepsOthers.setCell W ⟨w.heap.size + 1 + 1, 0, none⟩ (.bool false)).same D _ hK rfl
  refine ⟨by simp, .inl ⟨_, _, rfl, run_takeDeferred hK', ?_⟩⟩
  have hc5 := cell_kept (World.cell?_setCell_same' W ⟨w.heap.size + 1 + 1, 0, none⟩ (.bool false) (by rw [hr]; rfl)) (grownBy_putObj' _ D (.deferred none)) (fun r e => by cases e; exact ⟨_, hK', rfl⟩)
  refine ⟨.bool false, ?_, by rw [HV.out], (below_set hB (by omega) _).trans (belowK_b (w := w) (Nat.le_refl _) _ D _ _ (by omega) hK' rfl rfl)⟩
  simp [results, Tryz.f187, go_sem, hc5]
 case stop =>
  rintro D c ps W hD hps ⟨⟨rfl, h6, hr⟩, hB⟩ hK
  have hl := prefix_len hps
  have hv : decide (60 < cnt (.mk o s nn kl)) = true := decide_eq_true (by omega)
  have HV := Lib.hid hv
  gi_wp2
  refine ⟨by simp, .inl ⟨_, _, rfl, run_takeDeferred hK, ?_⟩⟩
  have hc5 := cell_kept hr (grownBy_putObj' _ D (.deferred none)) (fun r e => by cases e; exact ⟨_, hK, rfl⟩)
  refine ⟨.bool true, ?_, by rw [HV.out], hB.trans (belowK_b (w := w) (Nat.le_refl _) W D _ _ (by omega) hK rfl rfl)⟩
  simp [results, Tryz.f187, go_sem, hc5]
end Go.Proofs.YtaaffmbnhjaebaaGreat.Ex
namespace Go.Proofs.YtaaffmbnhjaebaaGreat.Ex
open Go.RowKit
set_option maxHeartbeats 1000000
set_option linter.unusedVariables false
set_option linter.unusedSimpArgs false
theorem zESmall_2 {p : Prop} (h : p := by
 go_wp2_with fail
 go_ret
 exact ⟨rfl, rfl⟩
 ) : p := h
theorem in_any (n : Int) (w : World) : Calls Tryz.prog 97 #[.int .i64 n] w fun e w' => e = .returned (.bool (inI n)) ∧ w' = w := by
 unfold inI
 by_cases h1 : -1000000000000 ≤ n
 · by_cases h2 : n ≤ 1000000000000
   · rw [decide_eq_true h1, decide_eq_true h2]
     go_enter Tryz.func97, Tryz.ntmps97
     exact zESmall_2
   · rw [decide_eq_true h1, decide_eq_false h2]
     have h3 : 1000000000000 < n := by omega
     go_enter Tryz.func97, Tryz.ntmps97
     exact zESmall_2
 · rw [decide_eq_false h1, Bool.false_and]
   have h3 : n < -1000000000000 := by omega
   go_enter Tryz.func97, Tryz.ntmps97
   exact zESmall_2
def idx (n z : Int) : Bool := decide (0 ≤ n) && decide (n < z)
theorem index_any (n z : Int) (w : World) : Calls Tryz.prog 198 #[.int .i64 n, .int .i64 z] w fun e w' => e = .returned (.bool (idx n z)) ∧ w' = w := by
 unfold idx
 by_cases h1 : 0 ≤ n
 · by_cases h2 : n < z
   · rw [decide_eq_true h1, decide_eq_true h2]
     go_enter Tryz.func198, Tryz.ntmps198
     exact zESmall_2
   · rw [decide_eq_true h1, decide_eq_false h2]
     have h3 : z ≤ n := by omega
     go_enter Tryz.func198, Tryz.ntmps198
     exact zESmall_2
 · rw [decide_eq_false h1, Bool.false_and]
   have h3 : n < 0 := by omega
   go_enter Tryz.func198, Tryz.ntmps198
   exact zESmall_2
def usK (o : Int) : Int := if 5 ≤ o ∧ o ≤ 8 then 1 else if 9 ≤ o ∧ o ≤ 21 then 2 else 0
theorem form_cases (o : Int) : (o = 1 ∨ o = 2 ∨ o = 3 ∨ o = 4 ∨ o = 5 ∨ o = 6 ∨ o = 7 ∨ o = 8 ∨ o = 9 ∨ o = 10 ∨ o = 11 ∨ o = 12 ∨ o = 13 ∨ o = 14 ∨ o = 15 ∨ o = 16 ∨ o = 17 ∨ o = 18 ∨ o = 19 ∨ o = 20 ∨ o = 21 ∨ o = 22 ∨ o = 23 ∨ o = 24 ∨ o = 25 ∨ o = 26) ∨ (o < 1 ∨ 26 < o) := by omega
def usN (c : Bool) (o : Int) : Bool := decide (o = 3) || !c && obj o
def usB (c : Bool) (o : Int) : Bool := decide (o = 1) || decide (o = 2) || c && obj o || decide (o = 25) || decide (o = 26)
def usV (c : Bool) (o : Int) : Value := .tuple #[.agg #[.int .i64 (usK o), .bool (usN c o), .bool (usB c o)], .bool (known c o)]
set_option maxRecDepth 100000 in
theorem usage_any (c : Bool) (o : Int) (w : World) : Calls Tryz.prog 195 #[.int .i64 o, .bool c] w (Gives (usV c o) w) := by
 rcases form_cases o with h | h
 · rcases h with rfl | rfl | rfl | rfl | rfl | rfl | rfl | rfl | rfl | rfl | rfl | rfl | rfl | rfl | rfl | rfl | rfl | rfl | rfl | rfl | rfl | rfl | rfl | rfl | rfl | rfl
   all_goals
    cases c <;>
    · go_enter Tryz.func195, Tryz.ntmps195
      go_wp2_with fail
      exact bodyPost_ret (v := usV _ _) (by simp [results, Tryz.results195, go_sem, usV, usK, usN, usB, known, ari, obj]) rfl ⟨rfl, bl⟩
 · have hk : known c o = false := by unfold known ari; rw [if_pos h]; rfl
   have hn : usN c o = false := by unfold usN obj; rw [decide_eq_false (by omega : ¬ o = 3)]; rcases h with h | h <;> simp <;> omega
   have hc : usB c o = false := by unfold usB obj; rcases h with h | h <;> simp <;> omega
   have hu : usK o = 0 := by unfold usK; rw [if_neg (by omega), if_neg (by omega)]
   have HV : Hid (usV c o = .tuple #[.agg #[.int .i64 0, .bool false, .bool false], .bool false]) := Lib.hid (by unfold usV; rw [hk, hn, hc, hu])
   have t1 : (o == 1) = false := beq_eq_false_iff_ne.2 (by omega)
   have t2 : (o == 2) = false := beq_eq_false_iff_ne.2 (by omega)
   have t3 : (o == 3) = false := beq_eq_false_iff_ne.2 (by omega)
   have t4 : (o == 4) = false := beq_eq_false_iff_ne.2 (by omega)
   have t5 : (o == 5) = false := beq_eq_false_iff_ne.2 (by omega)
   have t6 : (o == 6) = false := beq_eq_false_iff_ne.2 (by omega)
   have t7 : (o == 7) = false := beq_eq_false_iff_ne.2 (by omega)
   have t8 : (o == 8) = false := beq_eq_false_iff_ne.2 (by omega)
   have t9 : (o == 9) = false := beq_eq_false_iff_ne.2 (by omega)
   have t10 : (o == 10) = false := beq_eq_false_iff_ne.2 (by omega)
   have t11 : (o == 11) = false := beq_eq_false_iff_ne.2 (by omega)
   have t12 : (o == 12) = false := beq_eq_false_iff_ne.2 (by omega)
   have t13 : (o == 13) = false := beq_eq_false_iff_ne.2 (by omega)
   have t14 : (o == 14) = false := beq_eq_false_iff_ne.2 (by omega)
   have t15 : (o == 15) = false := beq_eq_false_iff_ne.2 (by omega)
   have t16 : (o == 16) = false := beq_eq_false_iff_ne.2 (by omega)
   have t17 : (o == 17) = false := beq_eq_false_iff_ne.2 (by omega)
   have t18 : (o == 18) = false := beq_eq_false_iff_ne.2 (by omega)
   have t19 : (o == 19) = false := beq_eq_false_iff_ne.2 (by omega)
   have t20 : (o == 20) = false := beq_eq_false_iff_ne.2 (by omega)
   have t21 : (o == 21) = false := beq_eq_false_iff_ne.2 (by omega)
   have t22 : (o == 22) = false := beq_eq_false_iff_ne.2 (by omega)
   have t23 : (o == 23) = false := beq_eq_false_iff_ne.2 (by omega)
   have t24 : (o == 24) = false := beq_eq_false_iff_ne.2 (by omega)
   have t25 : (o == 25) = false := beq_eq_false_iff_ne.2 (by omega)
   have t26 : (o == 26) = false := beq_eq_false_iff_ne.2 (by omega)
   clear hk hn hc hu h
   rw [HV.out]
   go_enter Tryz.func195, Tryz.ntmps195
   go_wp2_with fail
   exact bodyPost_ret (v := .tuple #[.agg #[.int .i64 0, .bool false, .bool false], .bool false]) (by simp [results, Tryz.results195, go_sem]) rfl ⟨rfl, bl⟩
def rgV (o n : Int) : Bool := if o = 1 then inI n else if o = 2 then idx n 2 else if obj o then idx n 64 else if o = 25 then idx n 16 else if o = 26 then idx n 32 else true
theorem rg_else {o n : Int} (h1 : ¬ o = 1) (h2 : ¬ o = 2) (h3 : ¬ o = 22) (h4 : ¬ o = 23) (h5 : ¬ o = 24) (h6 : ¬ o = 25) (h7 : ¬ o = 26) : rgV o n = true := by
 unfold rgV
 rw [if_neg h1, if_neg h2, if_neg (by unfold obj; simp; omega), if_neg h6, if_neg h7]
theorem zESmall_0 {p : Prop} (h : p := by
 rintro e w1 ⟨rfl, rfl⟩
 go_wp2_with fail
 go_ret
 exact ⟨rfl, bl⟩
 ) : p := h
theorem zESmall_1 {p : Prop} (h : p := by
 go_enter Tryz.func196, Tryz.ntmps196
 go_wp2_with fail
 refine (index_any n 64 _).mono ?_
 exact zESmall_0
 ) : p := h
set_option maxRecDepth 100000 in
theorem range_any (o : Int) (s : ByteArray) (n : Int) (p : Option Addr) (m c : Nat) (w : World) : Calls Tryz.prog 196 #[.agg #[.int .i64 o, .string s, .int .i64 n, .slice p m c]] w (Gives (.bool (rgV o n)) w) := by
 by_cases h1 : o = 1
 · subst h1
   go_enter Tryz.func196, Tryz.ntmps196
   go_wp2_with fail
   refine (in_any n _).mono ?_
   exact zESmall_0
 by_cases h2 : o = 2
 · subst h2
   go_enter Tryz.func196, Tryz.ntmps196
   go_wp2_with fail
   refine (index_any n 2 _).mono ?_
   exact zESmall_0
 by_cases h3 : o = 22
 · subst h3
   exact zESmall_1
 by_cases h4 : o = 23
 · subst h4
   exact zESmall_1
 by_cases h5 : o = 24
 · subst h5
   exact zESmall_1
 by_cases h6 : o = 25
 · subst h6
   go_enter Tryz.func196, Tryz.ntmps196
   go_wp2_with fail
   refine (index_any n 16 _).mono ?_
   exact zESmall_0
 by_cases h7 : o = 26
 · subst h7
   go_enter Tryz.func196, Tryz.ntmps196
   go_wp2_with fail
   refine (index_any n 32 _).mono ?_
   exact zESmall_0
 rw [rg_else h1 h2 h3 h4 h5 h6 h7]
 have t1 : (o == 1) = false := beq_eq_false_iff_ne.2 h1
 have t2 : (o == 2) = false := beq_eq_false_iff_ne.2 h2
 have t3 : (o == 22) = false := beq_eq_false_iff_ne.2 h3
 have t4 : (o == 23) = false := beq_eq_false_iff_ne.2 h4
 have t5 : (o == 24) = false := beq_eq_false_iff_ne.2 h5
 have t6 : (o == 25) = false := beq_eq_false_iff_ne.2 h6
 have t7 : (o == 26) = false := beq_eq_false_iff_ne.2 h7
 clear h1 h2 h3 h4 h5 h6 h7
 go_enter Tryz.func196, Tryz.ntmps196
 go_wp2_with fail
 go_ret
 exact ⟨rfl, bl⟩
theorem kids_ari {c : Bool} {o : Int} (h : known c o = true) : ari o = usK o := by
 unfold known at h
 unfold ari at h ⊢
 unfold usK
 by_cases g : o < 1 ∨ 26 < o
 · rw [if_pos g] at h; cases h
 · rw [if_neg g]
theorem us_named {c : Bool} {o : Int} (h : known c o = true) : usN c o = named c o := by
 unfold known at h
 unfold usN named
 cases c
 · simp
 · by_cases g : o = 3
   · subst g; revert h; decide
   · simp [g]
theorem us_numbered {c : Bool} {o : Int} (h : known c o = true) : usB c o = numbered c o := by
 unfold known at h
 unfold usB numbered counted
 cases c
 · have h2 : o ≤ 24 := by
    simp at h
    exact h.2
   have g1 : ¬ o = 25 := by omega
   have g2 : ¬ o = 26 := by omega
   simp [g1, g2]
 · simp [Bool.or_assoc]
theorem rg_bad {c : Bool} {o n : Int} {s : List UInt8} {m : Nat} (h : badF c o s n m = false) : rgV o n = !badR c o n := by
 unfold badF at h
 simp only [Bool.or_eq_false_iff] at h
 obtain ⟨⟨⟨hk, -⟩, hn⟩, -⟩ := h
 have hk : known c o = true := by simpa using hk
 rcases form_cases o with h | h
 · rcases h with rfl | rfl | rfl | rfl | rfl | rfl | rfl | rfl | rfl | rfl | rfl | rfl | rfl | rfl | rfl | rfl | rfl | rfl | rfl | rfl | rfl | rfl | rfl | rfl | rfl | rfl
   all_goals cases c
   all_goals
    simp [known, ari, numbered, counted, obj, rgV, badR, idx, most] at hk hn ⊢
   all_goals first | done | (subst hn; decide) | (by_cases a1 : 0 ≤ n <;> by_cases a2 : n < 2 <;> simp [a1, a2] <;> omega) | (by_cases a1 : 0 ≤ n <;> by_cases a2 : n < 64 <;> simp [a1, a2] <;> omega) | (by_cases a1 : 0 ≤ n <;> by_cases a2 : n < 16 <;> simp [a1, a2] <;> omega) | (by_cases a1 : 0 ≤ n <;> by_cases a2 : n < 32 <;> simp [a1, a2] <;> omega) | trace_state
 · unfold known ari at hk
   rw [if_pos h] at hk
   cases hk
end Go.Proofs.YtaaffmbnhjaebaaGreat.Ex
namespace Go.Proofs.YtaaffmbnhjaebaaGreat.Ex
open Go.RowKit Go.Shelf Go.Sort
attribute [local go_sem] Oper.semAt_some
set_option maxHeartbeats 4000000
set_option linter.unusedVariables false
theorem Kp.app {n₀ T B : Nat} {W w1 : World} {v v' : Value} {l : List Nm} {tmp : Obj} (hn : n₀ ≤ W.heap.size) (hB : n₀ ≤ B) (hT : B < T) (hrow : OwnT n₀ W v l) (hgrow : (W.alloc tmp).grownBy w1 v.ownBlock) (hbel : Below n₀ W (w1.setCell ⟨B, 0, none⟩ v')) : Kp n₀ T W (w1.setCell ⟨B, 0, none⟩ v') :=
 ⟨hbel, fun k c fr hk hc => by
   have hkl := (Array.getElem?_eq_some_iff.1 hc).1
   rw [(grownBy_setCell' w1 B v').block k (Nat.lt_of_lt_of_le hkl (Nat.le_trans (by simp) hgrow.size)) (fun e => by cases e; omega)]
   rw [hgrow.block k (by simp; omega) (fun e => by
    rcases hrow.2 with ⟨rfl, _⟩ | ⟨g', cap, cur, rfl, _, hgb, _⟩
    · simp [Value.ownBlock] at e
    · obtain rfl : g' = k := by simpa [Value.ownBlock] using e.symm
      rw [hgb] at hc
      cases hc)]
   exact (Below.heap_alloc W tmp k hkl).trans hc⟩
end Go.Proofs.YtaaffmbnhjaebaaGreat.Ex
