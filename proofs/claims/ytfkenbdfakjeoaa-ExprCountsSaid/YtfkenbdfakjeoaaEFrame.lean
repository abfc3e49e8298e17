/-
  How expressions among the arguments are read; the last step of a law's row.
-/
import Derived.Test.YtfkenbdfakjeoaaEBase
import Derived.ProofKit
import Derived.LaidMore
import Derived.LaidHandle
import Derived.MakeChecks
import Derived.OpenShut
import Derived.Stop.Joined
import Derived.Lib.SmallJoins
import Derived.Deep.Slices
import Derived.Deep.Fields
import Derived.ChangeSame
import Derived.SliceStrings
import Derived.SizedLaws
namespace Go.Proofs.Ytfkenbdfakjeoaa.Ex
open Go.ChangeShapes Go.WideShapes Go.ChangeAt Go.RowKit Go.Joins Go.Deep
open Go.Proofs.Ytfkenbdfakjeoaa.Na (bs bs_inj chk)
set_option maxHeartbeats 2000000
set_option linter.unusedVariables false
section
variable {H : Type} {enc : TypeId × Value → H}
/-- The last step of a law's row: the result is a bool, the arguments read as before, and of what was there nothing has turned. -/
theorem law_post {f : Func} {s : ChangeSpec} {W W' : World} {args : Array Value} {b : Bool} {ds : List (DataW H)} {before : List MemPlace}
    (hW : DataW.Whole enc Try.prog f.params.toList s.vars false W args.toList ds [] before)
    (hres : DataW.TrodAll enc Try.prog W' W.heap.size (fun _ => false) false f.resultTypes.toList ((Value.bool b).resultList f.resultTypes.size) (s.fn H (ds ++ [])).results [])
    (hargs : DataW.TrodAll enc Try.prog W' 0 (fun k => decide (k < W.heap.size)) true f.params.toList args.toList (s.fn H (ds ++ [])).args before)
    (hvars : DataW.TrodVars enc Try.prog W' (fun k => decide (k < W.heap.size)) s.vars (s.fn H (ds ++ [])).vars [])
    (hb : Below W.heap.size W W') : s.post enc Try.prog f false true false false W args (.bool b) W' :=
  ⟨ds, [], before, [], before, [], hW, hres, hargs, hvars, World.keptBut_mono (fun _ hp => ⟨hp, Or.inr (Or.inl hp)⟩) (hb.frame (· ∈ before)), fun h => by cases h⟩
theorem own : ownKnob Try.prog.godebug = none := by kernel_rfl
theorem laidOut : laidOutB Try.prog = true := by kernel_rfl
theorem arg_back {W W' : World} {v : Value} {d : DataW H} {ps : List MemPlace} {t : TypeId} (hr : Try.prog.readableRec t = true) (ht : t < Try.prog.types.size) (h : DataW.Trod enc Try.prog W 0 (fun _ => true) true t v d ps) (hb : Below W.heap.size W W') (hlt : ∀ y ∈ ps, y.block < W.heap.size) :
    DataW.Trod enc Try.prog W' 0 (fun k => decide (k < W.heap.size)) true t v d ps := Below.trod laidOut hr ht h hb hlt
theorem ex_is : ∃ f0 f1 f2 f3 : Field, Try.prog.underlying 25 = some (.struct #[f0, f1, f2, f3]) ∧ oneCellFields Try.prog #[f0, f1, f2, f3] = true ∧ Try.prog.cellsOf 25 = 4 ∧
    f0.type = 22 ∧ f1.type = 9 ∧ f2.type = 3 ∧ f3.type = 23 :=
  ⟨_, _, _, _, Try.underlying25, by kernel_rfl, by kernel_rfl, rfl, rfl, rfl, rfl⟩
theorem four_of {l : List Value} (h : l.length = 4) : ∃ c0 c1 c2 c3, l = [c0, c1, c2, c3] := by
  match l, h with
  | [c0, c1, c2, c3], _ => exact ⟨c0, c1, c2, c3, rfl⟩
theorem weights_elem {P : Program} {e : TypeId} {n : Nat} {d : DataW H} : ∀ {ds : List (DataW H)}, d ∈ ds → n ∈ d.weights P e → n ∈ DataW.weightsAll P e ds
  | [], h, _ => by cases h
  | x :: r, h, hn => by
    unfold DataW.weightsAll
    rw [List.mem_append]
    rcases List.mem_cons.1 h with rfl | h
    · exact .inl hn
    · exact .inr (weights_elem h hn)
set_option maxRecDepth 100000 in
theorem ex_of {w : World} (N : Nat) : ∀ {fuel : Nat} {cs : List Value} {y : DataW H × List MemPlace}, SizeOf.sizeOf y.1 ≤ N → cs.length = 4 → DataW.trod enc Try.prog w 0 (fun _ => true) true fuel 25 cs = some y →
    ∃ (e : Ex) (p : Option Addr) (m c : Nat), cs = [.int .i64 e.o, .string e.s, .int .i64 e.n, .slice p m c] ∧ In w e p m ∧ ∀ x ∈ pre e, x.s.size ∈ y.1.weights Try.prog 25 := by
  induction N with
  | zero =>
    intro fuel cs y hs
    exfalso
    cases h : y.1 <;> rw [h] at hs <;> simp at hs
  | succ N ih =>
    intro fuel cs y hN hl hf
    obtain ⟨f0, f1, f2, f3, hs, h1, hC, t0, t1, t2, t3⟩ := ex_is
    obtain ⟨c0, c1, c2, c3, rfl⟩ := four_of hl
    obtain ⟨ys, m, -, hy, -, hlen, hg⟩ := DataW.trod_struct hs hf
    obtain ⟨o0, k0⟩ := hone_of h1 0 f0 rfl
    have e0 := hg 0 f0 rfl
    rw [o0, k0, t0] at e0
    obtain ⟨y0, g0⟩ : ∃ y, ys[0]? = some y := ⟨ys[0]'(by rw [hlen]; simp), List.getElem?_eq_getElem _⟩
    rw [g0] at e0
    have e0 : DataW.trod enc Try.prog w 0 (fun _ => true) true m 22 [c0] = some y0 := by simpa [Value.cells] using e0
    obtain ⟨o1, k1⟩ := hone_of h1 1 f1 rfl
    have e1 := hg 1 f1 rfl
    rw [o1, k1, t1] at e1
    obtain ⟨y1, g1⟩ : ∃ y, ys[1]? = some y := ⟨ys[1]'(by rw [hlen]; simp), List.getElem?_eq_getElem _⟩
    rw [g1] at e1
    have e1 : DataW.trod enc Try.prog w 0 (fun _ => true) true m 9 [c1] = some y1 := by simpa [Value.cells] using e1
    obtain ⟨o2, k2⟩ := hone_of h1 2 f2 rfl
    have e2 := hg 2 f2 rfl
    rw [o2, k2, t2] at e2
    obtain ⟨y2, g2⟩ : ∃ y, ys[2]? = some y := ⟨ys[2]'(by rw [hlen]; simp), List.getElem?_eq_getElem _⟩
    rw [g2] at e2
    have e2 : DataW.trod enc Try.prog w 0 (fun _ => true) true m 3 [c2] = some y2 := by simpa [Value.cells] using e2
    obtain ⟨o3, k3⟩ := hone_of h1 3 f3 rfl
    have e3 := hg 3 f3 rfl
    rw [o3, k3, t3] at e3
    obtain ⟨y3, g3⟩ : ∃ y, ys[3]? = some y := ⟨ys[3]'(by rw [hlen]; simp), List.getElem?_eq_getElem _⟩
    rw [g3] at e3
    have e3 : DataW.trod enc Try.prog w 0 (fun _ => true) true m 23 [c3] = some y3 := by simpa [Value.cells] using e3
    obtain ⟨a0, q0, -, -⟩ := DataW.trod_int Try.underlying22 e0
    obtain ⟨s, q1, d1, -⟩ := DataW.trod_string Try.underlying9 e1
    obtain ⟨a2, q2, -, -⟩ := DataW.trod_int Try.underlying3 e2
    simp only [List.cons.injEq, and_true] at q0 q1 q2
    subst q0 q1 q2
    have hw1 : s.size ∈ y.1.weights Try.prog 25 := by
      rw [hy]
      show s.size ∈ DataW.weights Try.prog 25 (.agg (ys.map (·.1)))
      unfold DataW.weights
      rw [hs]
      refine DataW.weights_mem_each (j := 1) (t := 9) (d := y1.1) (by simp [t1]) (by rw [List.getElem?_map, g1]; rfl) _ ?_
      rw [d1]
      simp [DataW.weights]
    have hw3 : ∀ z, z ∈ y3.1.weights Try.prog 23 → z ∈ y.1.weights Try.prog 25 := fun z hz => by
      rw [hy]
      show z ∈ DataW.weights Try.prog 25 (.agg (ys.map (·.1)))
      unfold DataW.weights
      rw [hs]
      exact DataW.weights_mem_each (j := 3) (t := 23) (d := y3.1) (by simp [t3]) (by rw [List.getElem?_map, g3]; rfl) _ hz
    have hs3 : SizeOf.sizeOf y3.1 < SizeOf.sizeOf y.1 := by
      rw [hy]
      show SizeOf.sizeOf y3.1 < SizeOf.sizeOf (DataW.agg (ys.map (·.1)))
      have hm : y3.1 ∈ ys.map (·.1) := List.mem_map.2 ⟨y3, List.mem_of_getElem? g3, rfl⟩
      have := List.sizeOf_lt_of_mem hm
      rw [DataW.agg.sizeOf_spec]
      omega
    rcases open_slice Try.underlying23 e3 with ⟨hcs, -⟩ | ⟨a, len, cap, mm, n, D, Pl, hcs, -, hl3, hm3, hmm, hx, hi⟩
    · injection hcs with hcs hnil
      subst hcs
      refine ⟨.mk a0 s a2 [], none, 0, 0, rfl, Kin.zero, fun x hx => ?_⟩
      rw [pre_one, preL] at hx
      rw [List.mem_singleton.1 hx]
      exact hw1
    · injection hcs with hcs hnil
      subst hcs
      simp only [if_true] at hmm
      have hd : y3.1 = .slice ((List.range len).map D) ((List.range (mm - len)).map fun j => D (len + j)) := congrArg Prod.fst hx
      have hcell : ∀ i, i < len → ∃ (e : Ex) (p : Option Addr) (m c : Nat), (∀ r, r < 4 → w.cell? ((a.add (i * 4)).add r) = some (c4 e p m c r)) ∧ In w e p m ∧ ∀ x ∈ pre e, x.s.size ∈ y.1.weights Try.prog 25 := by
        intro i hil
        obtain ⟨cs', hc, ht'⟩ := hi i (by omega)
        rw [hC] at hc
        obtain ⟨-, hcl, hat⟩ := World.cells?_some hc
        have hDm : D i ∈ (List.range len).map D := List.mem_map.2 ⟨i, List.mem_range.2 hil, rfl⟩
        have hsz : SizeOf.sizeOf (D i) ≤ N := by
          have h1 := List.sizeOf_lt_of_mem hDm
          rw [hd, DataW.slice.sizeOf_spec] at hs3
          omega
        obtain ⟨e, p, m', c', hx2, hin, hw⟩ := ih (cs := cs') (y := (D i, Pl i)) hsz (by omega) ht'
        refine ⟨e, p, m', c', fun r hr => ?_, hin, fun x hx => hw3 _ ?_⟩
        · rw [hat r (by omega), hx2]
          match r, hr with
          | 0, _ => rfl
          | 1, _ => rfl
          | 2, _ => rfl
          | 3, _ => rfl
        · rw [hd]
          unfold DataW.weights
          rw [Try.underlying23]
          exact List.mem_cons_of_mem _ (List.mem_append_left _ (weights_elem (d := D i) hDm (hw x hx)))
      unfold maxLen at hm3
      by_cases h0 : len = 0
      · subst h0
        refine ⟨.mk a0 s a2 [], some a, 0, cap, rfl, Kin.zero, fun x hx => ?_⟩
        rw [pre_one, preL] at hx
        rw [List.mem_singleton.1 hx]
        exact hw1
      · obtain ⟨b, off, spot⟩ := a
        obtain ⟨e0, p0, m0, c0, hx0, -⟩ := hcell 0 (by omega)
        have hspot : spot = none := by simpa [Addr.add] using World.cell?_spot (hx0 0 (by omega))
        subst hspot
        have hb : b < w.heap.size := by
          have := hx0 0 (by omega)
          rw [add_off, add_off] at this
          exact block_lt this
        have hex : ∀ i, ∃ e : Ex, i < len → ∃ p m c, cell4 w b (off + i * 4) e p m c ∧ In w e p m ∧ ∀ x ∈ pre e, x.s.size ∈ y.1.weights Try.prog 25 := by
          intro i
          by_cases hil : i < len
          · obtain ⟨e, p, m', c', h1, h2, h3⟩ := hcell i hil
            refine ⟨e, fun _ => ⟨p, m', c', cell4_of fun r hr => ?_, h2, h3⟩⟩
            have := h1 r hr
            rwa [add_off, add_off] at this
          · exact ⟨.mk 0 ⟨#[]⟩ 0 [], fun h => absurd h hil⟩
        have hE : ∀ i, i < len → ∃ p m c, cell4 w b (off + i * 4) (hex i).choose p m c ∧ In w (hex i).choose p m ∧ ∀ x ∈ pre (hex i).choose, x.s.size ∈ y.1.weights Try.prog 25 := fun i hi => (hex i).choose_spec hi
        refine ⟨.mk a0 s a2 ((List.range len).map fun i => (hex i).choose), some ⟨b, off, none⟩, len, cap, rfl, ?_, fun x hx => ?_⟩
        · refine kin_iff.2 ⟨by simp, by omega, .inr ⟨b, off, rfl, hb, hb, Lib.hid fun k hk => ?_⟩⟩
          simp only [List.length_map, List.length_range] at hk
          simp only [List.getElem_map, List.getElem_range]
          obtain ⟨p, m', c', h1, h2, -⟩ := hE k hk
          exact ⟨p, m', c', h1, h2⟩
        · rw [pre_one] at hx
          rcases List.mem_cons.1 hx with rfl | hx
          · exact hw1
          · obtain ⟨z, hz, hxz⟩ := preL_mem' hx
            obtain ⟨i, hi2, rfl⟩ := List.mem_map.1 hz
            obtain ⟨p, m', c', -, -, h3⟩ := hE i (List.mem_range.1 hi2)
            exact h3 x hxz
theorem open_ex {w : World} {r : Reach} {b0 : Nat} {v : Value} {d : DataW H} {ps : List MemPlace} (hv : Value.okWide Try.prog w r b0 25 v) (h : DataW.Trod enc Try.prog w 0 (fun _ => true) true 25 v d ps) (hz : (d.weights Try.prog 25).all (· ≤ reachBytes) = true) :
    ∃ (e : Ex) (p : Option Addr) (m c : Nat), v = .agg #[.int .i64 e.o, .string e.s, .int .i64 e.n, .slice p m c] ∧ In w e p m ∧ Sz e := by
  obtain ⟨f0, f1, f2, f3, hs, h1, hC, t0, t1, t2, t3⟩ := ex_is
  obtain ⟨cs, rfl, hsz⟩ := okWide_struct hs hv
  obtain ⟨fuel, hf⟩ := h
  have hf' : DataW.trod enc Try.prog w 0 (fun _ => true) true fuel 25 cs.toList = some (d, ps) := by simpa [Value.cells] using hf
  obtain ⟨e, p, m, c, hcs, hin, hw⟩ := ex_of (w := w) _ (Nat.le_refl _) (by rw [Array.length_toList]; exact hsz.trans hC) hf'
  refine ⟨e, p, m, c, ?_, hin, fun x hx => ?_⟩
  · obtain ⟨l⟩ := cs
    simp only at hcs
    rw [hcs]
  · have h2 := List.all_eq_true.1 hz _ (hw x hx)
    have h3 : x.s.size ≤ reachBytes := by simpa using h2
    have h4 : reachBytes = 140737488351232 := by decide
    omega
end
end Go.Proofs.Ytfkenbdfakjeoaa.Ex
