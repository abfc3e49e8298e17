/-
  What Text writes is read back.
-/
import Derived.Test.YtilnojcbebchdaaDoorLxAcc
import Derived.Test.YtilnojcbebchdaaDoorLxBlk
namespace Go.Proofs.YtilnojcbebchdaaDoor.Lx
set_option maxHeartbeats 1000000
theorem mt_of {t : ByteArray} (h : t.size = 0) : t = mt := bs_inj (List.length_eq_zero_iff.1 (by rw [bs_len]; exact h))
/-- Line feeds. -/
theorem lex_feeds (t : List UInt8) : ∀ (d : Nat) (a : List Tk) (n : Nat), lexL (List.replicate d 10 ++ t) a n = lexL t (if d = 0 then a else endL a n) (n + d)
  | 0, a, n => rfl
  | d + 1, a, n => by
    have e2 : (if d + 1 = 0 then a else endL a n) = endL a n := if_neg (by omega)
    rw [List.replicate_succ, List.cons_append, lex_line, lex_feeds t d, e2]
    have e : (if d = 0 then endL a n else endL (endL a n) (n + 1)) = endL a n := by
      split
      · rfl
      · exact endL_no opn_end
    rw [e, show n + 1 + d = n + (d + 1) by omega]
theorem sg_head {c : UInt8} {t : List UInt8} (h : ¬ tokC c) : isSg (c :: t) = false := by
  have hc : c = 32 ∨ c = 9 ∨ c = 35 ∨ c = 10 := by
    unfold tokC at h
    by_cases h1 : c = 32
    · exact .inl h1
    by_cases h2 : c = 9
    · exact .inr (.inl h2)
    by_cases h3 : c = 35
    · exact .inr (.inr (.inl h3))
    by_cases h4 : c = 10
    · exact .inr (.inr (.inr h4))
    exact absurd ⟨fun g => g.elim h1 h2, h3, h4⟩ h
  unfold isSg sgl
  simp only [List.contains_eq_mem, decide_eq_false_iff_not, List.mem_cons, List.cons.injEq, List.not_mem_nil, or_false]
  rcases hc with rfl | rfl | rfl | rfl <;> simp
theorem fst_start {c : UInt8} {t : List UInt8} {x : Tk} {k : Nat} (h : fstO (c :: t) = some (x, k)) : tokC c := by
  refine Classical.byContradiction fun g => ?_
  have h1 : isSg ((c :: t).take 1) = false := sg_head g
  have h2 : isSg ((c :: t).take 2) = false := sg_head g
  have hc : ltrC c = false ∧ digC c = false := by
    have hc : c = 32 ∨ c = 9 ∨ c = 35 ∨ c = 10 := by
      unfold tokC at g
      by_cases h1 : c = 32
      · exact .inl h1
      by_cases h2 : c = 9
      · exact .inr (.inl h2)
      by_cases h3 : c = 35
      · exact .inr (.inr (.inl h3))
      by_cases h4 : c = 10
      · exact .inr (.inr (.inr h4))
      exact absurd ⟨fun g => g.elim h1 h2, h3, h4⟩ g
    rcases hc with rfl | rfl | rfl | rfl <;> decide
  unfold fstO at h
  rw [if_pos (spn_no hc.1), if_pos (spn_no hc.2), h1, h2, if_neg (by simp), if_neg (by simp)] at h
  cases h
theorem sgN_self {l : List UInt8} (h : isSg l = true) : sgN l = l.length := by
  have h1 := isSg_len h
  unfold sgN
  by_cases e : l.length = 2
  · rw [if_pos ⟨by omega, by rw [List.take_of_length_le (by omega)]; exact h⟩, e]
  · rw [if_neg (by omega), List.take_of_length_le (by omega), if_pos h]; omega
/-- A token's bytes are a token. -/
theorem fst_wrt {x : Tk} (h1 : 1 ≤ x.k) (h3 : x.k ≤ 3) (hf : fmB x = true) : bs (wrt x) ≠ [] ∧ fstO (bs (wrt x)) = some (⟨x.k, x.t, x.n, 0⟩, (bs (wrt x)).length) := by
  obtain ⟨K, T, N, L⟩ := x
  simp only at h1 h3
  unfold fmB at hf
  unfold wrt
  simp only at hf ⊢
  by_cases e1 : K = 1
  · subst e1
    rw [if_pos rfl] at hf
    simp only [Bool.and_eq_true, decide_eq_true_eq] at hf
    obtain ⟨hw, rfl⟩ := hf
    rw [if_neg (by decide)]
    obtain ⟨g1, g2⟩ := wd_iff.1 hw
    have hne : bs T ≠ [] := fun e => by rw [e] at g1; exact g1 rfl
    refine ⟨hne, ?_⟩
    have hp : 0 < (bs T).length := by
      rcases Nat.eq_zero_or_pos (bs T).length with e | e
      · exact absurd (List.length_eq_zero_iff.1 e) hne
      · exact e
    rw [fst_word (k := (bs T).length) (by unfold wdN; rw [if_neg g1, g2]) hp, List.take_length, mk_bs]
  · rw [if_neg e1] at hf
    by_cases e2 : K = 2
    · subst e2
      rw [if_pos rfl] at hf ⊢
      simp only [Bool.and_eq_true, decide_eq_true_eq] at hf
      obtain ⟨ht, hn0, hn1⟩ := hf
      rw [mt_of ht, show bs (num N) = Lib.itoa N from rfl]
      have hO := numO_some.2 ⟨hn0, hn1, rfl⟩
      have hA := itoa_dig hn0
      have hne := itoa_ne hn0
      refine ⟨hne, ?_⟩
      obtain ⟨l, hlq⟩ : ∃ l, Lib.itoa N = l := ⟨_, rfl⟩
      rw [hlq] at hO hA hne ⊢
      cases l with
      | nil => exact absurd rfl hne
      | cons c t =>
        have hc : digC c = true := by rw [List.all_cons, Bool.and_eq_true] at hA; exact hA.1
        have hn := dig_nat hc
        have hltr : ltrC c = false := by
          unfold ltrC ltrI
          rw [decide_eq_false (by omega), Bool.false_and]
        have hS : spn digC (c :: t) = (c :: t).length := spn_all fun j hj => List.all_eq_true.1 hA _ (List.getElem_mem hj)
        refine fst_num ?_ hS (by simp) (by rw [List.take_length]; exact hO)
        unfold wdN
        rw [if_pos (spn_no hltr)]
    · obtain rfl : K = 3 := by omega
      rw [if_neg (by decide), if_pos rfl] at hf
      simp only [Bool.and_eq_true, decide_eq_true_eq] at hf
      obtain ⟨hw, rfl⟩ := hf
      rw [if_neg (by decide)]
      have hl := isSg_len hw
      obtain ⟨s1, s2⟩ := sg_start hw
      refine ⟨fun e => by rw [e] at hl; simp at hl, ?_⟩
      rw [fst_sign (k := (bs T).length) (by unfold wdN; rw [if_pos s1]) s2 (sgN_self hw), if_neg (by omega), List.take_length, mk_bs]
theorem lex_wrt {x : Tk} (h1 : 1 ≤ x.k) (h3 : x.k ≤ 3) (hf : fmB x = true) {t : List UInt8} (ht : Brk t) (a : List Tk) (n : Nat) (hl : x.l = (n : Int)) : lexL (bs (wrt x) ++ t) a n = lexL t (a ++ [x]) n := by
  obtain ⟨hne, hF⟩ := fst_wrt h1 h3 hf
  have hG := fst_app hne ht
  rw [hF] at hG
  obtain ⟨u, hu⟩ : ∃ u, bs (wrt x) = u := ⟨_, rfl⟩
  rw [hu] at hne hG ⊢
  have hx : setL ⟨x.k, x.t, x.n, 0⟩ n = x := by unfold setL; rw [← hl]
  cases u with
  | nil => exact absurd rfl hne
  | cons c r =>
    rw [List.cons_append] at hG ⊢
    rw [lex_tok (fst_start hG) hG, ← List.cons_append, List.drop_left, hx]
/-- What a token adds. -/
def pc (l : List Tk) (k : Nat) : List UInt8 := pcs (decide (k = 0)) (lnB l k) (l.getD k ⟨4, mt, 0, 0⟩)
/-- What m tokens add from place k on. -/
def rsF (l : List Tk) : Nat → Nat → List UInt8
  | _, 0 => []
  | k, m + 1 => pc l k ++ rsF l (k + 1) m
theorem tx_rs (l : List Tk) : ∀ m k, tx l k ++ rsF l k m = tx l (k + m)
  | 0, k => List.append_nil _
  | m + 1, k => by
    show tx l k ++ (pc l k ++ rsF l (k + 1) m) = _
    rw [← List.append_assoc]
    have := tx_rs l m (k + 1)
    rw [show k + 1 + m = k + (m + 1) by omega] at this
    exact this
/-- What is known of place k. -/
theorem at_place {l : List Tk} (h : orF (chkK l) l.length = 0) {k : Nat} (hk : k < l.length) :
    ((l[k]).k = 4 ∧ ¬ (bef l k).k = 4 ∧ pc l k = [] ∧ (l[k]).l = lnB l k ∧ l[k] = ⟨4, mt, 0, lnB l k⟩) ∨
    ((l[k]).k = 0 ∧ (bef l k).k = 4 ∧ k + 1 = l.length ∧ ∃ d : Nat, pc l k = List.replicate d 10 ∧ (l[k]) = ⟨0, mt, 0, lnB l k + d⟩) ∨
    (1 ≤ (l[k]).k ∧ (l[k]).k ≤ 3 ∧ (bef l k).k = 4 ∧ ∃ d : Nat, (0 < k → 0 < d) ∧ pc l k = List.replicate d 10 ++ bs (wrt l[k]) ∧ (l[k]).l = lnB l k + d) ∨
    (1 ≤ (l[k]).k ∧ (l[k]).k ≤ 3 ∧ ¬ (bef l k).k = 4 ∧ pc l k = 32 :: bs (wrt l[k]) ∧ (l[k]).l = lnB l k) := by
  obtain ⟨h0, h4, hf, hp, ho⟩ := chk_parts h hk
  have hs := line_step h hk
  have hln : 0 < k → lnB l k = (bef l k).l := fun g => by
    obtain ⟨j, rfl⟩ : ∃ j, k = j + 1 := ⟨k - 1, by omega⟩
    rw [lnB_succ (by omega), bef_succ (by omega)]
  have hk0 : k = 0 → (bef l k).k = 4 := fun g => by subst g; rfl
  have hpc : pc l k = pcs (decide (k = 0)) (lnB l k) l[k] := by unfold pc; rw [getD_at hk]
  obtain ⟨X, hX⟩ : ∃ X, l[k] = X := ⟨_, rfl⟩
  rw [hX] at h0 h4 hf hp ho hs hpc ⊢
  obtain ⟨K, T, N, L⟩ := X
  simp only at h0 h4 hp ho hs ⊢
  unfold pcs at hpc
  simp only at hpc
  by_cases e4 : K = 4
  · left
    subst e4
    have hb : ¬ (bef l k).k = 4 := by
      unfold plB at hp
      rw [if_pos rfl] at hp
      simpa using hp
    have hkp : 0 < k := by
      rcases Nat.eq_zero_or_pos k with e | e
      · exact absurd (hk0 e) hb
      · exact e
    unfold fmB at hf
    rw [if_neg (show ¬ (4 : Int) = 1 by decide), if_neg (show ¬ (4 : Int) = 2 by decide), if_neg (show ¬ (4 : Int) = 3 by decide)] at hf
    simp only [Bool.and_eq_true, decide_eq_true_eq] at hf
    obtain ⟨rfl, hT⟩ := hf
    have hT2 := mt_of hT
    subst hT2
    unfold orB at ho
    rw [decide_eq_false (by omega), if_neg (by decide), if_pos hb, decide_eq_true_eq, ← hln hkp] at ho
    subst ho
    refine ⟨rfl, hb, ?_, rfl, rfl⟩
    rw [hpc, Int.sub_self]
    have e1 : gap (decide (k = 0)) (lnB l k) ⟨4, mt, 0, lnB l k⟩ = false := by
      unfold gap visB
      simp
    rw [e1, if_neg (by decide)]
    rfl
  · by_cases e0 : K = 0
    · right; left
      subst e0
      unfold plB at hp
      rw [if_neg (by decide), if_pos rfl, Bool.and_eq_true, decide_eq_true_eq, decide_eq_true_eq] at hp
      unfold fmB at hf
      rw [if_neg (show ¬ (0 : Int) = 1 by decide), if_neg (show ¬ (0 : Int) = 2 by decide), if_neg (show ¬ (0 : Int) = 3 by decide)] at hf
      simp only [Bool.and_eq_true, decide_eq_true_eq] at hf
      obtain ⟨rfl, hT⟩ := hf
      have hT2 := mt_of hT
      subst hT2
      refine ⟨rfl, hp.1, hp.2, (L - lnB l k).toNat, ?_, by rw [show lnB l k + ((L - lnB l k).toNat : Int) = L by omega]⟩
      rw [hpc]
      have e1 : gap (decide (k = 0)) (lnB l k) ⟨0, mt, 0, L⟩ = false := by
        unfold gap visB
        simp
      rw [e1, if_neg (by decide)]
      show _ ++ ([] ++ bs mt) = _
      simp
    · right; right
      have hv : visB K = true := by unfold visB; rw [decide_eq_false e4, decide_eq_false e0]; rfl
      by_cases hb : (bef l k).k = 4
      · left
        have hgt : 0 < k → lnB l k < L := fun g => by
          unfold orB at ho
          rw [decide_eq_false (by omega), if_neg (by decide), if_neg (by simp [hb]), if_neg e0, decide_eq_true_eq, ← hln g] at ho
          exact ho
        refine ⟨by omega, by omega, hb, (L - lnB l k).toNat, fun g => by have := hgt g; omega, ?_, by omega⟩
        rw [hpc]
        have e1 : gap (decide (k = 0)) (lnB l k) ⟨K, T, N, L⟩ = false := by
          unfold gap
          by_cases g : k = 0
          · rw [decide_eq_true g]; rfl
          · have := hgt (by omega)
            simp only
            rw [decide_eq_false (by omega : ¬ L = lnB l k)]; simp
        rw [e1, if_neg (by decide)]
        rfl
      · right
        have hkp : 0 < k := by
          rcases Nat.eq_zero_or_pos k with e | e
          · exact absurd (hk0 e) hb
          · exact e
        unfold orB at ho
        rw [decide_eq_false (by omega), if_neg (by decide), if_pos hb, decide_eq_true_eq, ← hln hkp] at ho
        subst ho
        refine ⟨by omega, by omega, hb, ?_, rfl⟩
        rw [hpc, Int.sub_self]
        have e1 : gap (decide (k = 0)) (lnB l k) ⟨K, T, N, lnB l k⟩ = true := by
          unfold gap
          rw [decide_eq_false (by omega)]
          simp [hv]
        rw [e1, if_pos rfl]
        rfl
theorem brk_rs {l : List Tk} (h : orF (chkK l) l.length = 0) : ∀ m k, 0 < k → k + m = l.length → Brk (rsF l k m)
  | 0, k, _, _ => fun c hc => by cases hc
  | m + 1, k, hk, hm => by
    show Brk (pc l k ++ rsF l (k + 1) m)
    have ih := brk_rs h m (k + 1) (by omega) (by omega)
    rcases at_place h (k := k) (by omega) with ⟨-, -, e, -⟩ | ⟨-, -, e0, d, e, -⟩ | ⟨-, -, -, d, hd, e, -⟩ | ⟨-, -, -, e, -⟩
    · rw [e]; exact ih
    · obtain rfl : m = 0 := by omega
      rw [e]
      show Brk (List.replicate d 10 ++ [])
      rw [List.append_nil]
      intro c hc
      cases d with
      | zero => cases hc
      | succ d => rw [List.replicate_succ] at hc; cases hc; exact .inr rfl
    · rw [e]
      intro c hc
      obtain ⟨j, rfl⟩ : ∃ j, d = j + 1 := ⟨d - 1, by have := hd hk; omega⟩
      rw [List.replicate_succ] at hc; cases hc; exact .inr rfl
    · rw [e]
      intro c hc
      cases hc; exact .inl rfl
/-- What the scan has when it stands at place k. -/
def acc (l : List Tk) (k : Nat) : List Tk := if (bef l k).k = 4 then l.take (k - 1) else l.take k
theorem acc_end {l : List Tk} (h : orF (chkK l) l.length = 0) {k n : Nat} (hk : k < l.length) (hb : (bef l k).k = 4) (hn : (n : Int) = lnB l k) : endL (acc l k) n = l.take k := by
  unfold acc
  rw [if_pos hb]
  cases k with
  | zero => rfl
  | succ j =>
    rw [Nat.add_sub_cancel]
    rw [bef_succ (by omega)] at hb
    rw [lnB_succ (by omega)] at hn
    rcases at_place h (k := j) (by omega) with ⟨-, g2, -, g4, g5⟩ | ⟨g, -⟩ | ⟨-, g, -⟩ | ⟨-, g, -⟩
    · rw [List.take_succ_eq_append_getElem (by omega), g5, ← g4, ← hn]
      cases j with
      | zero => exact absurd rfl g2
      | succ i =>
        rw [bef_succ (by omega)] at g2
        rw [List.take_succ_eq_append_getElem (i := i) (by omega)]
        exact endL_open _ _ _ g2
    · omega
    · omega
    · omega
theorem lex_back {l : List Tk} (h : orF (chkK l) l.length = 0) : ∀ (m k n : Nat), k + (m + 1) = l.length → (n : Int) = lnB l k → (bef l l.length).k = 0 →
    (lexL (rsF l k (m + 1)) (acc l k) n).bad = false ∧ fin (lexL (rsF l k (m + 1)) (acc l k) n) = l
  | m, k, n, hm, hn, hlast => by
    have hk : k < l.length := by omega
    have hacc4 : (l[k]).k = 4 → acc l (k + 1) = l.take k := fun g => by unfold acc; rw [bef_succ hk, if_pos g, Nat.add_sub_cancel]
    have haccN : ¬ (l[k]).k = 4 → acc l (k + 1) = l.take k ++ [l[k]] := fun g => by unfold acc; rw [bef_succ hk, if_neg g, List.take_succ_eq_append_getElem hk]
    have hlk : k + 1 = l.length → (l[k]).k = 0 := fun g => by
      rw [← g, bef_succ hk] at hlast
      exact hlast
    show (lexL (pc l k ++ rsF l (k + 1) m) (acc l k) n).bad = false ∧ fin (lexL (pc l k ++ rsF l (k + 1) m) (acc l k) n) = l
    rcases at_place h (k := k) (by omega) with ⟨g4, gb, e, el, -⟩ | ⟨g0, gb, e0, d, e, el⟩ | ⟨g1, g3, gb, d, hd, e, el⟩ | ⟨g1, g3, gb, e, el⟩
    · have hmp : 1 ≤ m := by
        rcases Nat.eq_zero_or_pos m with e0 | e0
        · have := hlk (by omega); omega
        · exact e0
      obtain ⟨j, rfl⟩ : ∃ j, m = j + 1 := ⟨m - 1, by omega⟩
      have ih := lex_back h j (k + 1) n (by omega) (by rw [lnB_succ hk, el, hn]) hlast
      rw [hacc4 g4] at ih
      rw [e, List.nil_append]
      have ea : acc l k = l.take k := by unfold acc; rw [if_neg gb]
      rw [ea]
      exact ih
    · obtain rfl : m = 0 := by omega
      show (lexL (pc l k ++ []) (acc l k) n).bad = false ∧ fin (lexL (pc l k ++ []) (acc l k) n) = l
      rw [e, lex_feeds [] d, lexL_nil]
      refine ⟨rfl, ?_⟩
      have hE := acc_end h hk gb hn
      unfold fin
      show endL (if d = 0 then acc l k else endL (acc l k) n) (n + d) ++ [⟨0, mt, 0, ((n + d : Nat) : Int)⟩] = l
      have e2 : endL (if d = 0 then acc l k else endL (acc l k) n) (n + d) = l.take k := by
        split
        · rename_i hd0; subst hd0; exact hE
        · rw [endL_no opn_end]; exact hE
      rw [e2, show (((n + d : Nat) : Int)) = lnB l k + (d : Int) by rw [← hn]; omega, ← el, ← List.take_succ_eq_append_getElem hk, List.take_of_length_le (by omega)]
    · have hmp : 1 ≤ m := by
        rcases Nat.eq_zero_or_pos m with e0 | e0
        · have := hlk (by omega); omega
        · exact e0
      obtain ⟨j, rfl⟩ : ∃ j, m = j + 1 := ⟨m - 1, by omega⟩
      have hfm := (chk_parts h hk).2.2.1
      have hE := acc_end h hk gb hn
      have ih := lex_back h j (k + 1) (n + d) (by omega) (by rw [lnB_succ hk, el, ← hn]; omega) hlast
      rw [haccN (by omega)] at ih
      rw [e, List.append_assoc, lex_feeds _ d]
      have ea : (if d = 0 then acc l k else endL (acc l k) n) = l.take k := by
        split
        · rename_i hd0
          have hk0 : k = 0 := by
            rcases Nat.eq_zero_or_pos k with e0 | e0
            · exact e0
            · have := hd e0; omega
          subst hk0
          rw [← hE]; rfl
        · exact hE
      rw [ea, lex_wrt g1 g3 hfm (brk_rs h (j + 1) (k + 1) (by omega) (by omega)) _ _ (by rw [el, ← hn]; omega)]
      exact ih
    · have hmp : 1 ≤ m := by
        rcases Nat.eq_zero_or_pos m with e0 | e0
        · have := hlk (by omega); omega
        · exact e0
      obtain ⟨j, rfl⟩ : ∃ j, m = j + 1 := ⟨m - 1, by omega⟩
      have hfm := (chk_parts h hk).2.2.1
      have ih := lex_back h j (k + 1) n (by omega) (by rw [lnB_succ hk, el, ← hn]) hlast
      rw [haccN (by omega)] at ih
      have ea : acc l k = l.take k := by unfold acc; rw [if_neg gb]
      rw [e, ea, List.cons_append, lex_blank (.inl rfl), lex_wrt g1 g3 hfm (brk_rs h (j + 1) (k + 1) (by omega) (by omega)) _ _ (by rw [el, ← hn])]
      exact ih
/-- Tokens of Text of a list is the list. -/
theorem tok_back {l : List Tk} (h : txtE l = 0) : tokL (bs (txtS l)) = l ∧ tokN (bs (txtS l)) = 0 ∧ tokE (bs (txtS l)) = 0 := by
  have h0 : chkL l = 0 := by
    refine Classical.byContradiction fun g => ?_
    unfold txtE at h
    rw [if_neg g] at h
    exact g h
  have hE := h
  unfold txtE at hE
  rw [if_pos h0] at hE
  have hz : ¬ (20001 < (bef l l.length).l ∨ 20000 < (tx l l.length).length) := fun g => by rw [if_pos g] at hE; cases hE
  obtain ⟨hor, hlk, hl0⟩ := chk_all h0
  have eS : bs (txtS l) = tx l l.length := by unfold txtS; rw [if_pos h, bs_mk]
  rw [eS]
  have eT := tx_rs l l.length 0
  rw [Nat.zero_add] at eT
  have eT2 : rsF l 0 l.length = tx l l.length := eT
  obtain ⟨m, hm⟩ : ∃ m, l.length = m + 1 := ⟨l.length - 1, by omega⟩
  have hB := lex_back hor m 0 1 (by omega) rfl hlk
  rw [← hm, eT2, show acc l 0 = [] from rfl] at hB
  obtain ⟨b1, b2, b3⟩ := tok_good (l := tx l l.length) (by omega) hB.1
  exact ⟨by rw [b1, hB.2], b2, b3⟩
end Go.Proofs.YtilnojcbebchdaaDoor.Lx
