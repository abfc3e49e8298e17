/-
  The contract of the library's Clone at expressions: the parts of an expression in a row of the call's own.
-/
import Derived.Test.YtfkenbdfakjeoaaERRep
import Derived.Test.YtfkenbdfakjeoaaESame
namespace Go.Proofs.Ytfkenbdfakjeoaa.Ex
open Go.RowKit
open Go.Proofs.Ytfkenbdfakjeoaa.Na (bs bs_inj chk)
set_option maxHeartbeats 4000000
set_option linter.unusedVariables false
/-- A block whose cells read as a row. -/
def Rw4 (w : World) (g : Nat) (L : List Rw) : Prop := ∀ j u, (flatK L)[j]? = some u → w.cell? ⟨g, j, none⟩ = some u
theorem rows_list {G : Nat → Prop} {w : World} {b : Nat} : ∀ {l : List Ex} {o : Nat}, Rows G w l b o → ∃ L : List Rw, L.map Rw.x = l ∧ (∀ j u, (flatK L)[j]? = some u → w.cell? ⟨b, o + j, none⟩ = some u) ∧ ∀ r ∈ L, Kin G w r.x r.p r.m
  | [], o, _ => ⟨[], rfl, fun j u h => by simp [flatK] at h, fun r h => by cases h⟩
  | x :: t, o, h => by
    unfold Rows at h
    obtain ⟨⟨p, m, c, hc, hk⟩, ht⟩ := h
    obtain ⟨L, h1, h2, h3⟩ := rows_list ht
    refine ⟨⟨x, p, m, c⟩ :: L, by rw [List.map_cons, h1], fun j u hu => ?_, fun r hr => ?_⟩
    · obtain ⟨c0, c1, c2, c3⟩ := hc
      match j, hu with
      | 0, hu => cases hu; exact c0
      | 1, hu => cases hu; exact c1
      | 2, hu => cases hu; exact c2
      | 3, hu => cases hu; exact c3
      | j + 4, hu =>
        have := h2 j u hu
        rwa [show o + 4 + j = o + (j + 4) by omega] at this
    · rcases List.mem_cons.1 hr with rfl | hr
      · exact hk
      · exact h3 r hr
theorem Rw4.keep {w w2 : World} {g : Nat} {L : List Rw} (h : Rw4 w g L) (hb : w2.heap[g]? = w.heap[g]?) : Rw4 w2 g L := fun j u hu => (World.cell?_of_block (a := ⟨g, j, none⟩) hb).trans (h j u hu)
theorem Rw4.at {w : World} {g : Nat} {L : List Rw} (h : Rw4 w g L) {i : Nat} (hi : i < L.length) : cell4 w g (i * 4) L[i].x L[i].p L[i].m L[i].c := cell4_of fun r hr => h _ _ (flatK_get hi hr)
theorem Rw4.kin {G : Nat → Prop} {w : World} {g : Nat} {L : List Rw} (h : Rw4 w g L) (hG : G g) (hg : g < w.heap.size) (hl : L.length ≤ 9223372036854775807) (hk : ∀ r ∈ L, Kin G w r.x r.p r.m) (o : Int) (s : ByteArray) (n : Int) : Kin G w (.mk o s n (L.map Rw.x)) (some ⟨g, 0, none⟩) L.length := by
  refine kin_iff.2 ⟨by simp, hl, .inr ⟨g, 0, rfl, hG, hg, Lib.hid fun i hi => ?_⟩⟩
  have hi' : i < L.length := by simpa using hi
  refine ⟨L[i].p, L[i].m, L[i].c, ?_, ?_⟩
  · have := h.at hi'
    simp only [List.getElem_map, Nat.zero_add]
    exact this
  · simp only [List.getElem_map]
    exact hk _ (List.getElem_mem hi')
def Cloned (n0 : Nat) (l : List Ex) (m : Nat) (w : World) (e : Ending) (w' : World) : Prop := ∃ v, e = .returned v ∧ Below w.heap.size w w' ∧ ((m = 0 ∧ ∃ p' c', v = .slice p' 0 c') ∨ ∃ g cap L, v = .slice (some ⟨g, 0, none⟩) m cap ∧ w.heap.size ≤ g ∧ g < w'.heap.size ∧ L.map Rw.x = l ∧ Rw4 w' g L ∧ frz4 w' g ∧ ∀ r ∈ L, Kin (Lo n0) w' r.x r.p r.m)
set_option maxRecDepth 100000 in
theorem clone_rows (l : List Ex) (p : Option Addr) (m c n0 : Nat) (w : World) (h : Kin (Lo n0) w (.mk 0 nE 0 l) p m) (hn : n0 ≤ w.heap.size) (hm : m ≤ 1000000) : Calls Try.prog 54 #[.slice p m c] w (Cloned n0 l m w) := by
  obtain ⟨hl, hm2, hrows⟩ := kin_def.1 h
  cases p with
  | none =>
    obtain rfl : m = 0 := by
      rcases hrows with h | ⟨b, o, h, -⟩
      · exact h
      · cases h
    have q24 : ∀ (w : World) (a : Option Addr) (n c n' c' : Nat), (binOp .eql 23 (.slice a n c) (.slice none n' c')).run Try.prog w = .ok (.bool a.isNone) w := fun w a n c n' c' => Lib.run_eql_slice_nil w _ _ a n c n' c' Try.underlying23
    clear hrows h
    go_enter Try.func54, Try.ntmps54
    go_wp2_with fail
    go_ret
    exact ⟨_, rfl, by (repeat (first | (with_reducible exact Below.refl _ _) | (with_reducible assumption) | (with_reducible apply bl_alloc) | (with_reducible apply bl_drewN) | (with_reducible apply bl_drew) | (with_reducible refine bl_set ?_ (by first | (simp; done) | (simp; omega)) _) | (with_reducible refine bl_call ?_ (by assumption)))), .inl ⟨rfl, _, _, rfl⟩⟩
  | some a =>
    obtain ⟨i0, hi0, hi1, hi2, hi3⟩ := parts_of2 ex_info
    obtain ⟨L, hL1, hL2, hL3⟩ : ∃ L : List Rw, L.map Rw.x = l ∧ (∀ j u, (flatK L)[j]? = some u → w.cell? (a.add j) = some u) ∧ ∀ r ∈ L, Kin (Lo n0) w r.x r.p r.m := by
      rcases hrows with h | ⟨b, o, h, -, -, hr⟩
      · subst h
        have : l = [] := List.length_eq_zero_iff.1 hl
        subst this
        exact ⟨[], rfl, fun j u h => by simp [flatK] at h, fun r h => by cases h⟩
      · cases h
        obtain ⟨L, h1, h2, h3⟩ := rows_list hr
        exact ⟨L, h1, fun j u hu => by rw [add_off]; exact h2 j u hu, h3⟩
    have hLm : L.length = m := by rw [← hl, ← hL1, List.length_map]
    have HL1 := Lib.hid hL1
    have HL2 := Lib.hid hL2
    have HL3 := Lib.hid hL3
    have HLM := Lib.hid hLm
    have HN := Lib.hid hn
    have HM := Lib.hid hm
    clear hL1 hL2 hL3 hrows h hl hLm hn hm
    have q24 : ∀ (w : World) (a : Option Addr) (n c n' c' : Nat), (binOp .eql 23 (.slice a n c) (.slice none n' c')).run Try.prog w = .ok (.bool a.isNone) w := fun w a n c n' c' => Lib.run_eql_slice_nil w _ _ a n c n' c' Try.underlying23
    go_enter Try.func54, Try.ntmps54
    go_wp2_with (at_builtin; refine wpList_append_own _ rfl _ _ 23 rfl w.heap.size 25 i0 (.agg #[.int .i64 0, .string ⟨#[]⟩, .int .i64 0, .slice none 0 0]) 4 56 Try.underlying23 hi0 hi1 hi2 hi3 rfl (by decide) _ _ _ rfl (World.ownsRow_made w #[] 0 (Nat.le_refl _) (Nat.zero_le _) rfl) a m c (flatK L) rfl ?qc1 ?qc2 ?qc3 ?qc4 ?qc5 ?qc6 ?_)
    case qc1 => rw [flatK_len, HLM.out]
    case qc2 =>
      intro j u hj
      exact Lib.cell?_alloc_some _ (HL2.out j u hj)
    case qc3 => exact flatK_one _
    case qc4 => have := HM.out; unfold maxLen; omega
    case qc5 => have := HM.out; omega
    case qc6 => simp
    intro v' w1 hown hgrow hnil
    go_wp2_with fail
    go_ret
    have hB : Below w.heap.size w w1 := ((Below.refl _ w).alloc (Nat.le_refl _) _).grown hgrow (by simp) (by intro k hk; simp [Value.ownBlock] at hk; omega)
    refine ⟨v', rfl, hB, ?_⟩
    by_cases h0 : m = 0
    · subst h0
      left
      rcases hown.2 with ⟨h1, -⟩ | ⟨g, cap, cur, h1, -⟩
      · exact ⟨rfl, none, 0, h1⟩
      · exact ⟨rfl, some ⟨g, 0, none⟩, cap, by simpa using h1⟩
    · right
      have hown' : w1.ownsRow w.heap.size 25 4 v' m (flatK L) := by simpa using hown
      rcases hown'.2 with ⟨-, h1⟩ | ⟨g, cap, cur, rfl, hg, hcur, hc, hm3, h5, h6⟩
      · omega
      · refine ⟨g, cap, L, rfl, hg, (hown'.lt g rfl).2, HL1.out, fun j u hu => ?_, fun k => by unfold World.frozen?; rw [hcur]; simp, fun r hr => Kin.below (hB.mono HN.out) (HL3.out r hr)⟩
        have hj : j < m * 4 := by
          have := (List.getElem?_eq_some_iff.1 hu).1
          rwa [flatK_len, HLM.out] at this
        rw [hown'.cellAt j hj, hu]
end Go.Proofs.Ytfkenbdfakjeoaa.Ex
