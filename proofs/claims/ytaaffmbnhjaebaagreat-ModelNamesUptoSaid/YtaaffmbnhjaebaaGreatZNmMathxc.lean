/-
  Parts of this proof: Mathematics of names. Mathematics of models. What a model that is accepted has.
-/
import Derived.Test.YtaaffmbnhjaebaaGreatZQMathxce
import Derived.Test.YtaaffmbnhjaebaaGreatZQAccxac
namespace Go.Proofs.YtaaffmbnhjaebaaGreat.Na
theorem fst_own {l : List ByteArray} {k : Nat} (hk : k < l.length) (h : ∀ j, (hj : j < k) → ¬ bs (l[j]'(by omega)) = bs l[k]) : fst l l[k] = (k : Int) := fst_hit hk h rfl
end Go.Proofs.YtaaffmbnhjaebaaGreat.Na
namespace Go.Proofs.YtaaffmbnhjaebaaGreat.Md
open Go.Proofs.YtaaffmbnhjaebaaGreat.Sm (orE_zero)
set_option linter.unusedVariables false
theorem frE_zero {α : Type} {f : α → Int} : ∀ {l : List α}, frE f l = 0 ↔ ∀ x ∈ l, f x = 0
 | [] => by simp [frE]
 | y :: t => by rw [frE, orE_zero, frE_zero (l := t)]; simp
end Go.Proofs.YtaaffmbnhjaebaaGreat.Md
namespace Go.Proofs.YtaaffmbnhjaebaaGreat.Md
open Go.Proofs.YtaaffmbnhjaebaaGreat.Na (bs_inj fst fst_own)
open Go.Proofs.YtaaffmbnhjaebaaGreat.Sm (orE_zero)
set_option linter.unusedVariables false
theorem fst_nodup {l : List ByteArray} (h : l.Nodup) {j : Nat} (hj : j < l.length) : fst l l[j] = (j : Int) := fst_own hj fun i hi e => (List.pairwise_iff_getElem.1 h i j (by omega) hj hi) (bs_inj e)
theorem fst_at {l : List ByteArray} (h : l.Nodup) {j : Nat} {x : ByteArray} (hx : l[j]? = some x) : fst l x = (j : Int) := by
 obtain ⟨hj, rfl⟩ := List.getElem?_eq_some_iff.1 hx
 exact fst_nodup h hj
theorem plc_at : ∀ {ws : List ByteArray} {ls : List (List ByteArray)} {k j : Nat} {w x : ByteArray} {l : List ByteArray}, ls.flatten.Nodup → ws[k]? = some w → ls[k]? = some l → l[j]? = some x → plc ws ls x = (w, (j : Int))
 | [], _, k, j, w, x, l, _, h, _, _ => by simp at h
 | _ :: _, [], k, j, w, x, l, _, _, h, _ => by simp at h
 | w0 :: ws, l0 :: ls, 0, j, w, x, l, hn, h1, h2, h3 => by
  obtain rfl : w0 = w := Option.some.inj h1
  obtain rfl : l0 = l := Option.some.inj h2
  rw [List.flatten_cons, List.nodup_append] at hn
  have e := fst_at hn.1 h3
  rw [plc, e, if_pos (by omega)]
 | w0 :: ws, l0 :: ls, k + 1, j, w, x, l, hn, h1, h2, h3 => by
  rw [List.flatten_cons, List.nodup_append] at hn
  have hl : l ∈ ls := List.mem_of_getElem? (show ls[k]? = some l from h2)
  have hx : x ∈ ls.flatten := List.mem_flatten.2 ⟨l, hl, List.mem_of_getElem? h3⟩
  have h0 : fst l0 x < 0 := fst_out.2 fun hm => hn.2.2 x hm x hx rfl
  rw [plc, if_neg (by omega)]
  exact plc_at hn.2.1 h1 h2 h3
theorem thr_ok : ∀ {K : List (Nat × List (ByteArray × Int))} {acc : List ByteArray}, acc.Nodup → frE idE (thr K acc) = 0 → (acc ++ (K.map fun k => k.2.map (·.1)).flatten).Nodup ∧ ∀ k ∈ K, k.2.length ≤ k.1 ∧ ∀ p ∈ k.2, p.2 = 0
 | [], acc, hn, _ => by simpa using hn
 | k :: K, acc, hn, h => by
  rw [thr, frE, orE_zero] at h
  obtain ⟨h1, r, h2⟩ := each_ok (f := stepN) (show (eachE stepN k.1 k.2 acc).1 = 0 from h.1)
  obtain ⟨f1, f2, f3⟩ := go_ok (g := fun p => p) (acc := acc) (l := k.2) h2
  have hr : (eachE stepN k.1 k.2 acc).2 = r := by unfold eachE; rw [if_neg (by omega), h2]
  rw [hr] at h
  obtain ⟨g1, g2⟩ := thr_ok (f3 hn) h.2
  rw [f1, List.append_assoc] at g1
  refine ⟨by rw [List.map_cons, List.flatten_cons]; exact g1, fun q hq => ?_⟩
  rcases List.mem_cons.1 hq with rfl | hq
  · exact ⟨h1, f2⟩
  · exact g2 q hq
theorem siteT_ok {s : Ste} (h : siteT s = 0) : (names s).flatten.Nodup ∧ (∀ d ∈ s.ss, staE s.ro d = 0) ∧ lawsE s = 0 := by
 unfold siteT at h
 obtain ⟨h1, h2⟩ := orE_zero.1 h
 obtain ⟨h3, h4⟩ := orE_zero.1 h2
 obtain ⟨g1, -⟩ := thr_ok (acc := []) List.nodup_nil h1
 rw [kinds_names, List.nil_append] at g1
 refine ⟨g1, fun d hd => ?_, h4⟩
 unfold lstE at h3
 by_cases g : 32 < s.ss.length
 · rw [if_pos g] at h3; exact absurd h3 (by decide)
 · rw [if_neg g] at h3; exact frE_zero.1 h3 d hd
theorem site_at {m : Mdl} (h : sitesE m = 0) {i : Nat} {s : Ste} (hs : m.si[i]? = some s) : siteI m.si s.nm = (i : Int) := by
 obtain ⟨-, -, h3, -⟩ := sites_ok h
 exact fst_at h3 (by rw [List.getElem?_map, hs]; rfl)
theorem name_at {s : Ste} (h : siteT s = 0) {k j : Nat} {l : List ByteArray} {x w : ByteArray} (hw : words[k]? = some w) (hl : (names s)[k]? = some l) (hx : l[j]? = some x) : kindV s x = w ∧ idxV s x = (j : Int) := by
 have h1 := plc_at (siteT_ok h).1 hw hl hx
 exact ⟨by unfold kindV; rw [h1], by unfold idxV; rw [h1]⟩
theorem nodup_flat {L : List (List ByteArray)} (h : L.flatten.Nodup) {k : Nat} {l : List ByteArray} (hl : L[k]? = some l) : l.Nodup := by
 induction L generalizing k with
 | nil => simp at hl
 | cons a t ih =>
  rw [List.flatten_cons, List.nodup_append] at h
  cases k with
  | zero => obtain rfl : a = l := Option.some.inj hl
            exact h.1
  | succ k => exact ih h.2.1 hl
theorem rou_name {s : Ste} (h : siteT s = 0) {j : Nat} {x : ByteArray} (hx : (s.ro.map (·.nm))[j]? = some x) : rouI s.ro x = (j : Int) :=
 fst_at (nodup_flat (siteT_ok h).1 (show (names s)[9]? = some (s.ro.map (·.nm)) from rfl)) hx
theorem lnkV_at : ∀ {l : List Lnk} {x : Lnk}, (l.map lnkK).Nodup → x ∈ l → lnkV l x.fr x.tt = (x.de, true)
 | [], x, _, h => by cases h
 | y :: t, x, hn, hx => by
  rw [List.map_cons, List.nodup_cons] at hn
  rw [lnkV]
  by_cases g : y.fr = x.fr ∧ y.tt = x.tt
  · rw [if_pos g]
    rcases List.mem_cons.1 hx with rfl | hx
    · rfl
    · exact absurd (by rw [show lnkK y = lnkK x by unfold lnkK; rw [g.1, g.2]]; exact List.mem_map_of_mem hx) hn.1
  · rw [if_neg g]
    rcases List.mem_cons.1 hx with rfl | hx
    · exact absurd ⟨rfl, rfl⟩ g
    · exact lnkV_at hn.2 hx
theorem lnk_at {m : Mdl} (h : lnksE m = 0) {x : Lnk} (hx : x ∈ m.li) : lnkV m.li x.fr x.tt = (x.de, true) ∧ 1 ≤ x.de := by
 obtain ⟨-, h1, h2, -⟩ := lnks_ok h
 refine ⟨lnkV_at h1 hx, ?_⟩
 have h3 := h2 x hx
 unfold lnkT at h3
 by_cases a : siteI m.si x.fr < 0 ∨ siteI m.si x.tt < 0
 · rw [if_pos a] at h3; exact absurd h3 (by decide)
 rw [if_neg a] at h3
 by_cases b : x.fr = x.tt
 · rw [if_pos b] at h3; exact absurd h3 (by decide)
 rw [if_neg b] at h3
 cases c : btw 1 x.de 1000000000 with
 | false => rw [c] at h3; exact absurd h3 (by decide)
 | true => unfold btw at c; simp at c; exact c.1
end Go.Proofs.YtaaffmbnhjaebaaGreat.Md
