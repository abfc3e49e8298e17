/-
  The contracts of walk, of the closure of nodes and of nodes: an iterator over the nodes of an expression, whatever a round of the loop does.
-/
import Derived.RangeFuncNested
import Derived.RangeFuncBound
import Derived.RangeFuncCalls
import Derived.RangeFuncLeaves
import Derived.RangeFuncBox
import Derived.Shelf.Abstract
import Derived.WalkKit
import Derived.OwnWalkIn
import Derived.TacticsInMore
import Derived.LoopNIn
import Derived.LoopIn
import Derived.Test.YtfkenbdfakjeoaaEBase
namespace Go.Proofs.Ytfkenbdfakjeoaa.Ex
open Go.RowKit Go.Shelf
attribute [local go_sem] Oper.semAt_some
set_option maxHeartbeats 2000000
set_option linter.unusedVariables false
theorem room_of_none {F : Fence} (hd : F.depth = none) (k : Nat) : F.room k := fun d h => by rw [hd] at h; cases h
theorem round_any_depth {F : Fence} (hd : F.depth = none) {m m' : Nat} {P : Program} {l : Nat} {f : FuncId} {tmps : Array Value} {assign body : Code} {w : World} {R : Ending → World → Prop}
    (h : RoundIn F m P l f tmps assign body w R) : RoundIn F m' P l f tmps assign body w R := ⟨h.1, fun c cs _ => h.2 c cs (room_of_none hd _)⟩
theorem yield_any_depth {F : Fence} (hd : F.depth = none) {m : Nat} (m' : Nat) {P : Program} {l : Nat} {args : Array Value} {W : World} {R : Ending → World → Prop} (h : YieldAt F m P l args W R) : YieldAt F m' P l args W R := by
  obtain ⟨fn, tmps, assign, body, hy, hR⟩ := h
  exact ⟨fn, tmps, assign, body, hy, round_any_depth hd hR⟩
/-- A node as a round gets it. -/
structure Nd where
  x : Ex
  p : Option Addr
  m : Nat
  c : Nat
  hl : x.l.length = m
  hs : x.s.size ≤ 140737488355328
def encN (r : Nd) : Array Value := #[.agg #[.int .i64 r.x.o, .string r.x.s, .int .i64 r.x.n, .slice r.p r.m r.c]]
/-- What a round that goes on keeps: all below a block, and all boxed expressions from another one on. -/
structure Kp (n₀ T : Nat) (W W' : World) : Prop where
  below : Below n₀ W W'
  same : ∀ (k : Nat) (C : Array Value) (fr : Nat × Nat), T ≤ k → W.heap[k]? = some (.cells C 25 fr) → W'.heap[k]? = some (.cells C 25 fr)
theorem Kp.refl (n₀ T : Nat) (W : World) : Kp n₀ T W W := ⟨Below.refl _ _, fun _ _ _ _ h => h⟩
theorem Kp.trans {n₀ T : Nat} {A B C : World} (h : Kp n₀ T A B) (k : Kp n₀ T B C) : Kp n₀ T A C := ⟨h.below.trans k.below, fun i c fr hi hc => k.same i c fr hi (h.same i c fr hi hc)⟩
theorem Kp.of_below {n₀ T : Nat} {W W' : World} (h : Below W.heap.size W W') (hn : n₀ ≤ W.heap.size) : Kp n₀ T W W' := ⟨h.mono hn, fun k c fr _ hc => (h.block k (Array.getElem?_eq_some_iff.1 hc).1).trans hc⟩
theorem Kp.put {n₀ T : Nat} {w : World} (hn : n₀ ≤ w.heap.size) (W : World) (l : Nat) (o o' : Obj) (hl : w.heap.size ≤ l) (h : W.heap[l]? = some o) (h1 : o.isCells = false) (h2 : o.isWalk = false) : Kp n₀ T W (W.putObj l o') :=
  ⟨belowK_b hn W l o o' hl h h1 h2, fun k c fr _ hc => by
    rw [World.putObj_heap_other]
    · exact hc
    · intro e
      subst e
      rw [h] at hc
      cases hc
      cases h1⟩
theorem Kp.set {n₀ T : Nat} {W : World} {B : Nat} (h0 : n₀ ≤ B) (hT : B < T) (v : Value) : Kp n₀ T W (W.setCell ⟨B, 0, none⟩ v) :=
  ⟨(Below.refl n₀ W).setCell (p := ⟨B, 0, none⟩) h0 v, fun k c fr hk hc => ((grownBy_setCell' W B v).block k (Array.getElem?_eq_some_iff.1 hc).1 (fun e => by cases e; omega)).trans hc⟩
theorem grown_of_below {W W' : World} (hb : Below W.heap.size W W') : W.grownBy W' none := ⟨hb.os, hb.tape, hb.output, hb.size, fun k hk _ => hb.block k hk⟩
theorem abides_below {β : Type} {B : Nat} {J : β → World → Prop} (hJ : AbidesFrom B J) {s : β} {W W' : World} (hs : J s W) (hb : Below W.heap.size W W') : J s W' := hJ s W W' none hs (grown_of_below hb) (fun r e => by cases e)
theorem box_of {W : World} {g : Nat} {o : Int} {s : ByteArray} {n : Int} {p : Option Addr} {m c : Nat} {t : TypeId} {fr : Nat × Nat} (h : W.heap[g]? = some (.cells #[.int .i64 o, .string s, .int .i64 n, .slice p m c] t fr)) : box4 W g o s n p m c := by
  refine ⟨?_, ?_, ?_, ?_⟩ <;> simp [World.cell?, h]
set_option maxRecDepth 100000 in
theorem wlkd_in (F : Fence) (hd : F.depth = none) (hf : F.fn 50) (hro : F.round = none) (l n₀ T N : Nat) (J Jx : List Nd → World → Prop)
    (hJ : ∀ s W W', J s W → Below W.heap.size W W' → J s W')
    (hY : ∀ m ps r W, J ps W → ps.length < N → YieldAt F m Try.prog l (encN r) W fun e W' =>
      (e = .returned (.bool true) ∧ J (ps ++ [r]) W' ∧ Kp n₀ T W W') ∨ (e = .returned (.bool false) ∧ Jx (ps ++ [r]) W')) (e : Ex) :
    ∀ (n : Nat) (p : Option Addr) (m c : Nat) (ps : List Nd) (W : World), Kin (Lo n₀) W e p m → Sz e → n₀ ≤ W.heap.size → T ≤ W.heap.size → J ps W → ps.length + cnt e ≤ N →
      CallsIn F n Try.prog 50 #[.agg #[.int .i64 e.o, .string e.s, .int .i64 e.n, .slice p m c], .func (.yield l) #[] #[]] W fun r W' =>
        (r = .returned (.bool true) ∧ ∃ ys, ys.map Nd.x = pre e ∧ J (ps ++ ys) W' ∧ Below n₀ W W') ∨ (r = .returned (.bool false) ∧ ∃ q, q.map Nd.x <+: pre e ∧ Jx (ps ++ q) W') := by
  induction e using Ex.ind with
  | h o s nn kl ih =>
    intro n p m c ps W ht hsz hn hT hJ0 hN
    have hdd : ∀ k : Nat, (F.depth.isSome = true → 1 ≤ k) := fun k h => by rw [hd] at h; cases h
    rw [cnt_one] at hN
    obtain ⟨hl, hm⟩ := ht.len
    have HH := Lib.hid ht
    have HI := Lib.hid ih
    have HL := Lib.hid hl
    have HSZ := Lib.hid hsz
    have HJ := Lib.hid hJ
    have HN := Lib.hid hN
    have HNN := Lib.hid hn
    have HTT := Lib.hid hT
    obtain ⟨r0, hrx, hre⟩ : ∃ r : Nd, r.x = .mk o s nn kl ∧ encN r = #[.agg #[.int .i64 o, .string s, .int .i64 nn, .slice p m c]] := ⟨⟨.mk o s nn kl, p, m, c, hl, hsz.self⟩, rfl, rfl⟩
    have HRX := Lib.hid hrx
    obtain ⟨W1, hW1⟩ : ∃ W1, W.alloc (.cells #[.int .i64 o, .string s, .int .i64 nn, .slice p m c] 25) = W1 := ⟨_, rfl⟩
    have hb1 : Below W.heap.size W W1 := by rw [← hW1]; exact (Below.refl _ _).alloc (Nat.le_refl _) _
    have hx1 : W1.heap[W.heap.size]? = some (.cells #[.int .i64 o, .string s, .int .i64 nn, .slice p m c] 25 (0, 0)) := by rw [← hW1]; exact World.alloc_heap_new W _
    have hJ1 := hJ _ _ _ hJ0 hb1
    have hy := hY (n - 1) ps r0 W1 hJ1 (by omega)
    rw [hre] at hy
    have hy2 := YieldAt.mono hy (R' := fun e W2 => (e = .returned (.bool true) ∧ Hid (J (ps ++ [r0]) W2) ∧ Hid (Below n₀ W W2) ∧ W2.cell? ⟨W.heap.size, 3, none⟩ = some (.slice p m c)) ∨ (e = .returned (.bool false) ∧ Hid (Jx (ps ++ [r0]) W2)))
      (fun e W2 h => h.elim (fun ⟨he, hj, hk⟩ => .inl ⟨he, Lib.hid hj, Lib.hid ((hb1.mono hn).trans hk.below), (box_of (hk.same _ _ _ hT hx1)).2.2.2⟩) fun ⟨he, hj⟩ => .inr ⟨he, Lib.hid hj⟩)
    obtain ⟨fn, tmps, assign, body, hy3, hR⟩ := hy2
    simp only [Ex.o, Ex.s, Ex.n]
    clear hy hb1 hx1 hJ1 hJ hJ0 hN hY ih ht hsz hn hT hl hrx hre
    refine callsIn_of_wp Try.func50 rfl hf ?_ hro
    simp only [Try.ntmps50, List.size_toArray, List.length_cons, List.length_nil, Nat.reduceAdd, Nat.reduceSub, Array.replicate_succ, Array.replicate_zero, List.push_toArray, List.append_toArray, List.nil_append, List.cons_append]
    subst hW1
    gi_wp2_with ((try refine ⟨hdd _, ?_⟩); refine hR.mono ?_; clear hR; rintro e W2 (⟨rfl, HJ2, HB2, c2⟩ | ⟨rfl, HX2⟩))
    · gi_loopw [14] (fun i wr => ∃ (k : Nat) (ys : List Nd), k ≤ m ∧ i = .int .i64 (k : Nat) ∧ Hid (ys.map Nd.x = .mk o s nn kl :: preL (kl.take k) ∧ J (ps ++ ys) wr ∧ Below n₀ W wr)) (fun i _ => m - (intOf i).toNat)
      case atStart => exact ⟨0, [r0], Nat.zero_le _, rfl, Lib.hid ⟨by rw [List.take_zero, preL, List.map_cons, HRX.out]; rfl, HJ2.out, HB2.out⟩⟩
      case round =>
        obtain ⟨k, ys, hk, rfl, HS⟩ := hrel
        have k0 : (0 : Int) ≤ (k : Int) := by omega
        rcases Nat.lt_or_ge k m with h | h
        · have k1 : (k : Int) < (m : Int) := by omega
          obtain ⟨b, o', rfl, hG, hbs, hcell⟩ := HH.out.kids (by omega)
          have hkl : k < kl.length := by rw [HL.out]; omega
          obtain ⟨q, j, c', hc4, hkin⟩ := hcell.out k hkl
          have hmem : kl[k] ∈ kl := List.getElem_mem hkl
          have hgx : kl[k]? = some kl[k] := List.getElem?_eq_getElem hkl
          obtain ⟨x, hx⟩ : ∃ x, kl[k] = x := ⟨_, rfl⟩
          rw [hx] at hc4 hkin hmem hgx
          obtain ⟨e0, e1, e2, e3⟩ := hc4.keep (HS.out.2.2.block b hG)
          have hbr : b < wr.heap.size := Nat.lt_of_lt_of_le hbs HS.out.2.2.size
          have HX := Lib.hid hgx
          have hlen : ys.length = 1 + (preL (kl.take k)).length := by
            have := congrArg List.length HS.out.1
            simp only [List.length_map, List.length_cons] at this
            omega
          rw [preL_len] at hlen
          have hcap : cntL (kl.take k) + cnt x ≤ cntL kl := by rw [← cntL_take hgx]; exact cntL_le _ _
          have HC := Lib.hid (fun W' (hb : Below wr.heap.size wr W') => (HI.out x hmem (n - 1) q j c' (ps ++ ys) W' (Kin.below (HS.out.2.2.trans (hb.mono (Nat.le_trans HNN.out HS.out.2.2.size))) hkin) (HSZ.out.kid hmem)
            (Nat.le_trans HNN.out (Nat.le_trans HS.out.2.2.size hb.size)) (Nat.le_trans HTT.out (Nat.le_trans HS.out.2.2.size hb.size)) (HJ.out _ _ _ HS.out.2.1 hb) (by rw [List.length_append]; have := HN.out; omega)).mono (R' := fun e W3 =>
              (e = .returned (.bool true) ∧ Hid (∃ zs : List Nd, (ys ++ zs).map Nd.x = .mk o s nn kl :: preL (kl.take (k + 1)) ∧ J (ps ++ (ys ++ zs)) W3 ∧ Below n₀ W W3)) ∨ (e = .returned (.bool false) ∧ Hid (∃ z : List Nd, z.map Nd.x <+: pre (.mk o s nn kl) ∧ Jx (ps ++ z) W3)))
            (fun e W3 h => h.elim (fun ⟨he, zs, hz, hj, hbz⟩ => .inl ⟨he, Lib.hid ⟨zs, by rw [List.map_append, HS.out.1, hz, preL_take hgx]; rfl, by rwa [List.append_assoc] at hj, (HS.out.2.2.trans (hb.mono (Nat.le_trans HNN.out HS.out.2.2.size))).trans hbz⟩⟩)
              (fun ⟨he, z, hz, hj⟩ => .inr ⟨he, Lib.hid ⟨ys ++ z, by
                rw [List.map_append, HS.out.1, pre_one]
                obtain ⟨r, hr⟩ := hz
                have h1 : preL kl = preL (kl.take k) ++ (pre x ++ preL (kl.drop (k + 1))) := by
                  have h2 := preL_app (kl.take (k + 1)) (kl.drop (k + 1))
                  rw [List.take_append_drop, preL_take hgx, List.append_assoc] at h2
                  exact h2
                refine ⟨r ++ preL (kl.drop (k + 1)), ?_⟩
                rw [h1, ← hr]
                simp only [List.cons_append, List.append_assoc], by rwa [List.append_assoc] at hj⟩⟩)))
          clear hcell hc4 hkin hx hmem hgx hkl hlen hcap HI HJ HSZ
          gi_wp2_with ((try refine ⟨hdd _, ?_⟩); gi_at_call 50; refine (HC.out _ (by (repeat (first | (with_reducible exact Below.refl _ _) | (with_reducible assumption) | (with_reducible apply bl_alloc) | (with_reducible apply bl_drewN) | (with_reducible apply bl_drew) | (with_reducible refine bl_set ?_ (by first | (simp; done) | (simp; omega)) _) | (with_reducible refine bl_call ?_ (by assumption)))))).mono ?_; clear HC; rintro e W3 (⟨rfl, HZ⟩ | ⟨rfl, HZ⟩))
          · go_roundw
            case rel =>
              obtain ⟨zs, h1, h2, h3⟩ := HZ.out
              exact ⟨k + 1, ys ++ zs, by omega, by go_num, Lib.hid ⟨h1, h2, h3⟩⟩
            case measure => simp [intOf]; omega
          · go_ret
            exact .inr ⟨rfl, HZ.out⟩
        · obtain rfl : m = k := by omega
          have HT : Hid (kl.take m = kl) := Lib.hid (List.take_of_length_le (by rw [HL.out]; exact Nat.le_refl _))
          rw [HT.out] at HS
          gi_wp2
          go_ret
          exact .inl ⟨rfl, ys, by rw [pre_one]; exact HS.out.1, HS.out.2⟩
    · go_ret
      exact .inr ⟨rfl, [r0], by rw [List.map_cons, HRX.out, pre_one]; exact ⟨preL kl, rfl⟩, HX2.out⟩
set_option maxRecDepth 100000 in
theorem iter_in (F : Fence) (hd : F.depth = none) (hf : F.fn 50) (hg : F.fn 49) (hro : F.round = none) (n l B n₀ T : Nat) (J Jx : List Nd → World → Prop) (e : Ex)
    (hJ : ∀ s W W', J s W → Below W.heap.size W W' → J s W')
    (hY : ∀ ps r W, J ps W → ps.length < cnt e → YieldAt F (n - 1) Try.prog l (encN r) W fun e W' =>
      (e = .returned (.bool true) ∧ J (ps ++ [r]) W' ∧ Kp n₀ T W W') ∨ (e = .returned (.bool false) ∧ Jx (ps ++ [r]) W'))
    (p : Option Addr) (m c : Nat) (W : World) (hx : box4 W B e.o e.s e.n p m c) (hk : Kin (Lo n₀) W e p m) (hs : Sz e) (hn : n₀ ≤ W.heap.size) (hT : T ≤ W.heap.size) (h0 : J [] W) :
    CallsIn F n Try.prog 49 #[.func (.yield l) #[] #[], .pointer (some ⟨B, 0, none⟩)] W fun e' W' => (∃ v, e' = .returned v) ∧
      ((∃ ys, ys.map Nd.x = pre e ∧ J ys W') ∨ (∃ q, q.map Nd.x <+: pre e ∧ Jx q W')) := by
  have hdd : ∀ k : Nat, (F.depth.isSome = true → 1 ≤ k) := fun k h => by rw [hd] at h; cases h
  have hp := wlkd_in F hd hf hro l n₀ T (cnt e) J Jx hJ (fun m ps r W hj hl => yield_any_depth hd m (hY ps r W hj hl)) e (n - 1) p m c [] W hk hs hn hT h0 (by simp)
  obtain ⟨b0, b1, b2, b3⟩ := hx
  clear hY hk hs hn hT h0 hJ
  refine callsIn_of_wp Try.func49 rfl hg ?_ hro
  simp only [Try.ntmps49, List.size_toArray, List.length_cons, List.length_nil, Nat.reduceAdd, Nat.reduceSub, Array.replicate_succ, Array.replicate_zero, List.push_toArray, List.append_toArray, List.nil_append, List.cons_append]
  gi_wp2_with ((try refine ⟨hdd _, ?_⟩); gi_at_call 50; refine hp.mono ?_; clear hp; rintro e W1 (⟨rfl, ys, h1, h2, -⟩ | ⟨rfl, q, h1, h2⟩))
  · go_end0
    exact ⟨⟨_, rfl⟩, .inl ⟨ys, h1, by simpa using h2⟩⟩
  · go_end0
    exact ⟨⟨_, rfl⟩, .inr ⟨q, h1, by simpa using h2⟩⟩
theorem nodes_in (F : Fence) (n : Nat) (hf : F.fn 37) (hro : F.round = none) (o : Int) (s : ByteArray) (nn : Int) (p : Option Addr) (m c : Nat) (w : World) :
    CallsIn F n Try.prog 37 #[.agg #[.int .i64 o, .string s, .int .i64 nn, .slice p m c]] w fun e w' => e = .returned (.func (.func 49) #[] #[.pointer (some ⟨w.heap.size, 0, none⟩)]) ∧ w' = w.alloc (.cells #[.int .i64 o, .string s, .int .i64 nn, .slice p m c] 25) := by
  refine callsIn_of_wp Try.func37 rfl hf ?_ hro
  simp only [Try.ntmps37, List.size_toArray, List.length_cons, List.length_nil, Nat.reduceAdd, Nat.reduceSub, Array.replicate_succ, Array.replicate_zero, List.push_toArray, List.append_toArray, List.nil_append, List.cons_append]
  gi_wp2
  go_ret
  exact ⟨rfl, rfl⟩
theorem nodes_stops (F : Fence) (hd : F.depth = none) (hf : F.fn 50) (hg : F.fn 49) (hro : F.round = none) (n B n₀ T : Nat) (e : Ex) (p : Option Addr) (m c : Nat) (w : World) (hx : box4 w B e.o e.s e.n p m c) (hk : Kin (Lo n₀) w e p m) (hs : Sz e) (hn : n₀ ≤ w.heap.size) (hT : T ≤ w.heap.size) :
    SeqStopsK F n Try.prog 49 #[.pointer (some ⟨B, 0, none⟩)] encN (Kp n₀ T) (fun ys => ys.map Nd.x = pre e) (fun q => q.map Nd.x <+: pre e) (cnt e) w := fun l J Jx W hW hJ _ hY h0 =>
  iter_in F hd hf hg hro n l B n₀ T J Jx e (fun s W W' h hb => abides_below hJ h hb) hY p m c W (hx.on hW) (hk.below (hW.mono hn)) hs (Nat.le_trans hn hW.size) (Nat.le_trans hT hW.size) h0
end Go.Proofs.Ytfkenbdfakjeoaa.Ex
