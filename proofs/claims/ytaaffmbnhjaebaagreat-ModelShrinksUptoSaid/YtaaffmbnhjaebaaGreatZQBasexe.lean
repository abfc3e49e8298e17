/-
  Parts of this proof: The records of a model in memory. Rows of records that a call made. What a model that is accepted has.
-/
import Derived.Test.YtaaffmbnhjaebaaGreatZQFlt
import Derived.Test.YtaaffmbnhjaebaaGreatZQMathxce
namespace Go.Proofs.YtaaffmbnhjaebaaGreat.Md
open Go.RowKit
set_option maxHeartbeats 1000000
set_option linter.unusedVariables false
theorem bMdl : Big 26 4 := ⟨⟨_, Tryz.underlying26, rfl⟩, by kernel_rfl⟩
end Go.Proofs.YtaaffmbnhjaebaaGreat.Md
namespace Go.Proofs.YtaaffmbnhjaebaaGreat.Md
open Go.RowKit
set_option maxHeartbeats 2000000
set_option linter.unusedVariables false
theorem kSte : Kind 23 42 13 := kind_of Tryz.underlying23 (z := .agg #[.string ⟨#[]⟩, .slice none 0 0, .slice none 0 0, .slice none 0 0, .slice none 0 0, .slice none 0 0, .slice none 0 0, .slice none 0 0, .slice none 0 0, .slice none 0 0, .slice none 0 0, .slice none 0 0, .slice none 0 0]) (b := 304) (by kernel_rfl) (by decide) (by decide) (by decide)
theorem sSte : Sized 13 RSte := fun h => RSte.is h
end Go.Proofs.YtaaffmbnhjaebaaGreat.Md
namespace Go.Proofs.YtaaffmbnhjaebaaGreat.Md
open Go.Proofs.YtaaffmbnhjaebaaGreat.Na (bs chk fst)
open Go.Proofs.YtaaffmbnhjaebaaGreat.Sm (orE orE_zero orE_yes)
set_option linter.unusedVariables false
theorem goE_pre {α σ : Type} {f : σ → α → Int × σ} {l : List α} {s : σ} (k : Nat) (h : (goE f l s).1 = 0) : (goE f (l.take k) s).1 = 0 := by
 have h2 := goE_app (f := f) (a := l.take k) (b := l.drop k) (s := s)
 rw [List.take_append_drop] at h2
 by_cases g : (goE f (l.take k) s).1 = 0
 · exact g
 · rw [if_neg g] at h2; rw [← h2]; exact h
theorem each_pre {α σ : Type} {f : σ → α → Int × σ} {most : Nat} {l : List α} {s : σ} (k : Nat) (h : (eachE f most l s).1 = 0) : (eachE f most (l.take k) s).1 = 0 := by
 obtain ⟨h1, r, h2⟩ := each_ok h
 unfold eachE
 rw [if_neg (by rw [List.length_take]; omega)]
 exact goE_pre k (by rw [h2])
theorem less_links {m : Mdl} (h : mdlE m = 0) (k : Nat) : mdlE { m with li := m.li.take k } = 0 := by
 obtain ⟨h1, h2, h3, h4⟩ := mdlE_zero.1 h
 exact mdlE_zero.2 ⟨h1, h2, h3, each_pre k h4⟩
theorem go_sim : ∀ {l k : List (ByteArray × Int)} {acc r : List ByteArray}, l.map (·.1) = k.map (·.1) → (∀ p ∈ k, p.2 = 0) → goE stepN l acc = (0, r) → goE stepN k acc = (0, r)
 | [], [], acc, r, _, _, h => h
 | [], _ :: _, acc, r, h, _, _ => by simp at h
 | _ :: _, [], acc, r, h, _, _ => by simp at h
 | x :: t, y :: u, acc, r, h, hz, g => by
  rw [List.map_cons, List.map_cons, List.cons.injEq] at h
  rw [goE] at g ⊢
  by_cases g0 : (stepN acc x).1 = 0
  · rw [if_pos g0] at g
    have hd : decE acc x.1 = 0 := (orE_zero.1 (show orE (decE acc x.1) x.2 = 0 from g0)).1
    have hy : (stepN acc y).1 = 0 := by
     show orE (decE acc y.1) y.2 = 0
     rw [← h.1, hd, hz y List.mem_cons_self]; rfl
    rw [if_pos hy, (step_ok hy).1, ← h.1, ← (step_ok g0).1]
    exact go_sim h.2 (fun p hp => hz p (List.mem_cons_of_mem _ hp)) g
  · rw [if_neg g0] at g
    exact absurd (congrArg Prod.fst g) g0
theorem less_law {s : Ste} (h : siteT s = 0) (k : Nat) : siteT { s with la := s.la.take k } = 0 := by
 have h0 : orE (frE idE (thr (kinds s) [])) (orE (lstE (staE s.ro) 32 s.ss) (lawsE s)) = 0 := h
 obtain ⟨h1, h2⟩ := orE_zero.1 h0
 obtain ⟨h3, h4⟩ := orE_zero.1 h2
 have h5 : (eachE stepN 32 (s.la.map (lawP s)) []).1 = 0 := h4
 have h6 := each_pre k h5
 rw [← List.map_take] at h6
 show orE (frE idE (thr (kinds s) [])) (orE (lstE (staE s.ro) 32 s.ss) (eachE stepN 32 ((s.la.take k).map (lawP s)) []).1) = 0
 rw [h1, h3, h6]; rfl
theorem less_laws {m : Mdl} (h : mdlE m = 0) {i : Nat} {s : Ste} (hs : m.si[i]? = some s) (k : Nat) : mdlE { m with si := m.si.set i { s with la := s.la.take k } } = 0 := by
 obtain ⟨h1, h2, h3, h4⟩ := mdlE_zero.1 h
 obtain ⟨hi, he⟩ := List.getElem?_eq_some_iff.1 hs
 have hn : (m.si.set i { s with la := s.la.take k }).map (·.nm) = m.si.map (·.nm) := by
  rw [List.map_set]
  apply List.ext_getElem?
  intro j
  rw [List.getElem?_set]
  by_cases e : i = j
  · subst e; rw [if_pos rfl, List.length_map, if_pos hi, List.getElem?_map, hs]; rfl
  · rw [if_neg e]
 refine mdlE_zero.2 ⟨h1, h2, ?_, ?_⟩
 · obtain ⟨a1, a2, a3, a4⟩ := sites_ok h3
   unfold sitesE at h3 ⊢
   rw [if_neg (by omega)] at h3
   rw [if_neg (by show ¬ (m.si.set i _).length = 0; rw [List.length_set]; omega)]
   obtain ⟨b1, r, b2⟩ := each_ok h3
   have b3 := go_sim (k := (m.si.set i { s with la := s.la.take k }).map siteP) (by
    rw [List.map_map, List.map_map]; exact hn.symm) (fun p hp => by
    obtain ⟨y, hy, rfl⟩ := List.mem_map.1 hp
    rcases List.mem_or_eq_of_mem_set hy with hy | rfl
    · exact a4 y hy
    · exact less_law (a4 s (List.mem_of_getElem? hs)) k) b2
   unfold eachE
   rw [if_neg (by show ¬ 16 < ((m.si.set i _).map siteP).length; rw [List.length_map, List.length_set]; omega)]
   show (goE stepN ((m.si.set i { s with la := s.la.take k }).map siteP) []).1 = 0
   rw [b3]
 · have hf : ∀ x, siteI (m.si.set i { s with la := s.la.take k }) x = siteI m.si x := fun x => by unfold siteI; rw [hn]
   have hg : stepK (m.si.set i { s with la := s.la.take k }) = stepK m.si := by
    funext a l
    unfold stepK lnkT
    rw [hf, hf]
   show (eachE (stepK (m.si.set i { s with la := s.la.take k })) 32 m.li []).1 = 0
   rw [hg]; exact h4
def lnkN (y : ByteArray) (l : Lnk) : Bool := txB l.fr y || txB l.tt y
theorem lnkT_less {si : List Ste} {s : Ste} (hn : ((si ++ [s]).map (·.nm)).Nodup) {l : Lnk} (h : lnkT (si ++ [s]) l = 0) : lnkT si l = if lnkN s.nm l then 5 else 0 := by
 rw [List.map_append, List.nodup_append] at hn
 have hs : ¬ s.nm ∈ si.map (·.nm) := fun hm => hn.2.2 _ hm _ (by simp) rfl
 have hin : ∀ x, (siteI (si ++ [s]) x < 0) ↔ (siteI si x < 0 ∧ ¬ x = s.nm) := fun x => by
  unfold siteI
  rw [fst_out, fst_out, List.map_append, List.mem_append]
  simp
 have hlt : ∀ x, x = s.nm → siteI si x < 0 := fun x e => by unfold siteI; rw [fst_out, e]; exact hs
 unfold lnkT at h ⊢
 by_cases a : siteI (si ++ [s]) l.fr < 0 ∨ siteI (si ++ [s]) l.tt < 0
 · rw [if_pos a] at h; exact absurd h (by decide)
 rw [if_neg a] at h
 rw [hin, hin] at a
 cases b : lnkN s.nm l with
 | true =>
  rw [if_pos rfl]
  unfold lnkN at b
  rw [Bool.or_eq_true, txB_iff, txB_iff] at b
  rw [if_pos]
  rcases b with b | b
  · exact .inl (hlt _ b)
  · exact .inr (hlt _ b)
 | false =>
  unfold lnkN at b
  rw [Bool.or_eq_false_iff] at b
  have b1 : ¬ l.fr = s.nm := fun e => by rw [txB_iff.2 e] at b; cases b.1
  have b2 : ¬ l.tt = s.nm := fun e => by rw [txB_iff.2 e] at b; cases b.2
  rw [if_neg, h]
  · rfl
  · rintro (c | c)
    · exact a (.inl ⟨c, b1⟩)
    · exact a (.inr ⟨c, b2⟩)
theorem goK_less {si : List Ste} {s : Ste} (hn : ((si ++ [s]).map (·.nm)).Nodup) : ∀ {l : List Lnk} {acc r : List (List UInt8 × List UInt8)}, goE (stepK (si ++ [s])) l acc = (0, r) → (goE (stepK si) l acc).1 = if l.any (lnkN s.nm) then 5 else 0
 | [], acc, r, h => rfl
 | x :: t, acc, r, h => by
  have h : (if (stepK (si ++ [s]) acc x).1 = 0 then goE (stepK (si ++ [s])) t (stepK (si ++ [s]) acc x).2 else stepK (si ++ [s]) acc x) = (0, r) := h
  show (if (stepK si acc x).1 = 0 then goE (stepK si) t (stepK si acc x).2 else stepK si acc x).1 = _
  by_cases g0 : (stepK (si ++ [s]) acc x).1 = 0
  · rw [if_pos g0] at h
    obtain ⟨e1, e2, e3⟩ := stepK_ok g0
    rw [e1] at h
    have hx := lnkT_less hn e2
    rw [List.any_cons]
    cases b : lnkN s.nm x with
    | true =>
     rw [b] at hx
     have h5 : stepK si acc x = (5, acc) := by unfold stepK; rw [if_neg (by rw [hx]; decide), hx]; rfl
     rw [h5]; rfl
    | false =>
     rw [b] at hx
     have h5 : stepK si acc x = (0, acc ++ [lnkK x]) := by unfold stepK; rw [if_pos (by rw [hx]; rfl), if_neg e3]
     rw [h5]
     exact goK_less hn h
  · rw [if_neg g0] at h
    exact absurd (congrArg Prod.fst h) g0
theorem less_site {m : Mdl} (h : mdlE m = 0) {n : Nat} {s : Ste} (hs : m.si[n]? = some s) (hl : m.si.length = n + 1) : mdlE { m with si := m.si.take n } = if n = 0 then 7 else if m.li.any (lnkN s.nm) then 5 else 0 := by
 obtain ⟨h1, h2, h3, h4⟩ := mdlE_zero.1 h
 obtain ⟨a1, a2, a3, a4⟩ := sites_ok h3
 have he : m.si.take n ++ [s] = m.si := by rw [← Go.Proofs.YtaaffmbnhjaebaaGreat.Ex.take_one hs, ← hl, List.take_length]
 show orE (chk (bs m.nm)) (orE (parE m) (orE (sitesE { m with si := m.si.take n }) (lnksE { m with si := m.si.take n }))) = _
 rw [h1, h2, orE_yes, orE_yes]
 by_cases h0 : n = 0
 · rw [if_pos h0]
   have : sitesE { m with si := m.si.take n } = 7 := by unfold sitesE; rw [if_pos (by show (m.si.take n).length = 0; rw [List.length_take]; omega)]
   rw [this]; rfl
 · rw [if_neg h0]
   have hz : sitesE { m with si := m.si.take n } = 0 := by
    unfold sitesE at h3 ⊢
    rw [if_neg (by omega)] at h3
    rw [if_neg (by show ¬ (m.si.take n).length = 0; rw [List.length_take]; omega)]
    have := each_pre n h3
    rw [← List.map_take] at this
    exact this
   rw [hz, orE_yes]
   obtain ⟨b1, b2, b3, r, b4⟩ := lnks_ok h4
   have hk := goK_less (si := m.si.take n) (s := s) (by rw [he]; exact a3) (l := m.li) (acc := []) (r := r) (by rw [he]; exact b4)
   show (eachE (stepK (m.si.take n)) 32 m.li []).1 = _
   unfold eachE
   rw [if_neg (by omega)]
   exact hk
end Go.Proofs.YtaaffmbnhjaebaaGreat.Md
