/-
  Parts of this proof: Mathematics of models. What a model that is accepted has.
-/
import Derived.Test.YtaaffmbnhjaebaaGreatZPMathxace
namespace Go.Proofs.YtaaffmbnhjaebaaGreat.Md
open Go.Proofs.YtaaffmbnhjaebaaGreat.Na (fst)
set_option linter.unusedVariables false
theorem fst_out {s : ByteArray} {l : List ByteArray} : fst l s < 0 ↔ ¬ s ∈ l := by rw [← fst_in]; omega
end Go.Proofs.YtaaffmbnhjaebaaGreat.Md
namespace Go.Proofs.YtaaffmbnhjaebaaGreat.Md
open Go.Proofs.YtaaffmbnhjaebaaGreat.Na (bs chk fst)
open Go.Proofs.YtaaffmbnhjaebaaGreat.Sm (orE_zero)
set_option linter.unusedVariables false
theorem go_ok {α : Type} {g : α → ByteArray × Int} : ∀ {l : List α} {acc r : List ByteArray}, goE (fun a x => stepN a (g x)) l acc = (0, r) → r = acc ++ l.map (fun x => (g x).1) ∧ (∀ x ∈ l, (g x).2 = 0) ∧ (acc.Nodup → r.Nodup)
 | [], acc, r, h => by
  have h1 : acc = r := congrArg Prod.snd h
  subst h1
  exact ⟨by simp, fun x hx => (by cases hx), fun h => h⟩
 | x :: t, acc, r, h => by
  have h : (if (stepN acc (g x)).1 = 0 then goE (fun a x => stepN a (g x)) t (stepN acc (g x)).2 else stepN acc (g x)) = (0, r) := h
  by_cases g0 : (stepN acc (g x)).1 = 0
  · rw [if_pos g0] at h
    obtain ⟨e1, e2, e3⟩ := step_ok g0
    rw [e1] at h
    obtain ⟨f1, f2, f3⟩ := go_ok h
    refine ⟨by rw [f1, List.map_cons, List.append_assoc]; rfl, fun y hy => ?_, fun hn => f3 ?_⟩
    · rcases List.mem_cons.1 hy with rfl | hy
      · exact e2
      · exact f2 y hy
    · rw [List.nodup_append]
      refine ⟨hn, by simp, fun a ha b hb => ?_⟩
      obtain rfl := List.mem_singleton.1 hb
      exact fun e => e3 (e ▸ ha)
  · rw [if_neg g0] at h
    exact absurd (congrArg Prod.fst h) g0
theorem each_ok {α σ : Type} {f : σ → α → Int × σ} {most : Nat} {l : List α} {s : σ} (h : (eachE f most l s).1 = 0) : l.length ≤ most ∧ ∃ r, goE f l s = (0, r) := by
 unfold eachE at h
 by_cases g : most < l.length
 · rw [if_pos g] at h; exact absurd (show (6 : Int) = 0 from h) (by decide)
 · rw [if_neg g] at h; exact ⟨by omega, _, Prod.ext h rfl⟩
theorem mdlE_zero {m : Mdl} : mdlE m = 0 ↔ chk (bs m.nm) = 0 ∧ parE m = 0 ∧ sitesE m = 0 ∧ lnksE m = 0 := by
 unfold mdlE; rw [orE_zero, orE_zero, orE_zero]
theorem sites_ok {m : Mdl} (h : sitesE m = 0) : 0 < m.si.length ∧ m.si.length ≤ 16 ∧ (m.si.map (·.nm)).Nodup ∧ ∀ s ∈ m.si, siteT s = 0 := by
 unfold sitesE at h
 by_cases g : m.si.length = 0
 · rw [if_pos g] at h; exact absurd h (by decide)
 · rw [if_neg g, eachE_map] at h
   obtain ⟨h1, r, h2⟩ := each_ok h
   obtain ⟨f1, f2, f3⟩ := go_ok (g := siteP) h2
   rw [List.nil_append] at f1
   have f4 := f3 List.nodup_nil
   rw [f1] at f4
   exact ⟨by omega, h1, f4, f2⟩
theorem stepK_ok {si : List Ste} {acc : List (List UInt8 × List UInt8)} {l : Lnk} (h : (stepK si acc l).1 = 0) : (stepK si acc l).2 = acc ++ [lnkK l] ∧ lnkT si l = 0 ∧ ¬ lnkK l ∈ acc := by
 unfold stepK at h ⊢
 by_cases h0 : lnkT si l = 0
 · rw [if_pos h0] at h ⊢
   by_cases h1 : lnkK l ∈ acc
   · rw [if_pos h1] at h; exact absurd (show (4 : Int) = 0 from h) (by decide)
   · rw [if_neg h1]; exact ⟨rfl, h0, h1⟩
 · rw [if_neg h0] at h; exact absurd h h0
theorem goK_ok {si : List Ste} : ∀ {l : List Lnk} {acc r : List (List UInt8 × List UInt8)}, goE (stepK si) l acc = (0, r) → r = acc ++ l.map lnkK ∧ (∀ x ∈ l, lnkT si x = 0) ∧ (acc.Nodup → r.Nodup)
 | [], acc, r, h => by
  have h1 : acc = r := congrArg Prod.snd h
  subst h1
  exact ⟨by simp, fun x hx => (by cases hx), fun h => h⟩
 | x :: t, acc, r, h => by
  have h : (if (stepK si acc x).1 = 0 then goE (stepK si) t (stepK si acc x).2 else stepK si acc x) = (0, r) := h
  by_cases g0 : (stepK si acc x).1 = 0
  · rw [if_pos g0] at h
    obtain ⟨e1, e2, e3⟩ := stepK_ok g0
    rw [e1] at h
    obtain ⟨f1, f2, f3⟩ := goK_ok h
    refine ⟨by rw [f1, List.map_cons, List.append_assoc]; rfl, fun y hy => ?_, fun hn => f3 ?_⟩
    · rcases List.mem_cons.1 hy with rfl | hy
      · exact e2
      · exact f2 y hy
    · rw [List.nodup_append]
      refine ⟨hn, by simp, fun a ha b hb => ?_⟩
      obtain rfl := List.mem_singleton.1 hb
      exact fun e => e3 (e ▸ ha)
  · rw [if_neg g0] at h
    exact absurd (congrArg Prod.fst h) g0
theorem lnks_ok {m : Mdl} (h : lnksE m = 0) : m.li.length ≤ 32 ∧ (m.li.map lnkK).Nodup ∧ (∀ x ∈ m.li, lnkT m.si x = 0) ∧ ∃ r, goE (stepK m.si) m.li [] = (0, r) := by
 obtain ⟨h1, r, h2⟩ := each_ok (show (eachE (stepK m.si) 32 m.li []).1 = 0 from h)
 obtain ⟨f1, f2, f3⟩ := goK_ok h2
 have f4 := f3 List.nodup_nil
 rw [f1, List.nil_append] at f4
 exact ⟨h1, f4, f2, r, h2⟩
end Go.Proofs.YtaaffmbnhjaebaaGreat.Md
