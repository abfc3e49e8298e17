/-
  Parts of this proof: A part of a model, in memory.
-/
import Derived.Test.YtaaffmbnhjaebaaGreatZQOwnxae
import Derived.Test.YtaaffmbnhjaebaaGreatZQBasexe
import Derived.Test.YtaaffmbnhjaebaaGreatZQSit
namespace Go.Proofs.YtaaffmbnhjaebaaGreat.Md
open Go.ChangeShapes Go.WideShapes Go.ChangeAt Go.RowKit Go.Joins Go.Deep
open Go.Proofs.YtaaffmbnhjaebaaGreat.Ex (Lo)
set_option maxHeartbeats 2000000
set_option linter.unusedVariables false
theorem OSte.less {G : Nat → Prop} {w : World} {s : Ste} {Q : PSte} {n : Nat} (h : OSte G w s Q) (hn : n ≤ Q.lam) : OSte G w { s with la := s.la.take n } { Q with lam := n } :=
 ⟨h.va, h.rs, h.st, h.be, h.qu, h.sm, h.ta, h.le, h.co, h.ro, h.ss, h.la.take hn⟩
theorem OMdl.lessLi {G : Nat → Prop} {w : World} {x : Mdl} {P : PMdl} {n : Nat} (h : OMdl G w x P) (hn : n ≤ P.lim) : OMdl G w { x with li := x.li.take n } { P with lim := n } := ⟨h.pa, h.si, h.li.take hn⟩
theorem OMdl.lessSi {G : Nat → Prop} {w : World} {x : Mdl} {P : PMdl} {n : Nat} (h : OMdl G w x P) (hn : n ≤ P.sim) : OMdl G w { x with si := x.si.take n } { P with sim := n } := ⟨h.pa, h.si.take hn, h.li⟩
theorem Fit.lessLi {x : Mdl} (h : Fit x) (n : Nat) : Fit { x with li := x.li.take n } where
 z := ⟨h.z.nm, h.z.pa, h.z.si, fun l hl => h.z.li l (List.mem_of_mem_take hl)⟩
 n := h.n
 c := h.c
theorem Fit.lessSi {x : Mdl} (h : Fit x) (n : Nat) : Fit { x with si := x.si.take n } where
 z := ⟨h.z.nm, h.z.pa, fun y hy => h.z.si y (List.mem_of_mem_take hy), h.z.li⟩
 n := fun y hy => h.n y (List.mem_of_mem_take hy)
 c := fun y hy => h.c y (List.mem_of_mem_take hy)
theorem ZSte.less {s : Ste} (h : ZSte s) (n : Nat) : ZSte { s with la := s.la.take n } := ⟨h.va, h.rs, h.st, h.be, h.qu, h.sm, h.ta, h.le, h.co, h.ro, fun y hy => h.la y (List.mem_of_mem_take hy), h.nm⟩
theorem NwSte.less {s : Ste} (h : NwSte s) (n : Nat) : NwSte { s with la := s.la.take n } where
 nz := ⟨h.nz.va, h.nz.rs, h.nz.st, h.nz.be, h.nz.ro⟩
 nm := h.nm
 ss := h.ss
 la := by have := h.la; show (s.la.take n).length < _; rw [List.length_take]; omega
theorem Fit.lessLa {x : Mdl} (h : Fit x) {s : Ste} (hs : s ∈ x.si) (i n : Nat) : Fit { x with si := x.si.set i { s with la := s.la.take n } } where
 z := ⟨h.z.nm, h.z.pa, fun y hy => by
  rcases List.mem_or_eq_of_mem_set hy with hy | rfl
  · exact h.z.si y hy
  · exact (h.z.si s hs).less n, h.z.li⟩
 n := fun y hy => by
  rcases List.mem_or_eq_of_mem_set hy with hy | rfl
  · exact h.n y hy
  · exact (h.n s hs).less n
 c := fun y hy => by
  rcases List.mem_or_eq_of_mem_set hy with hy | rfl
  · exact h.c y hy
  · exact h.c s hs
theorem OwnL.setRow {α : Type} {T : TypeId} {k : Nat} {R : Rec α} {base : Nat} {w : World} {v : Value} {l : List α} (hm : Mono R) (hs : Sized k R) (h : OwnL T k R base w v l) (hn : l.length ≤ 1000000) (h0 : 0 < l.length) :
 ∃ b c, v = .slice (some ⟨b, 0, none⟩) l.length c ∧ base ≤ b ∧ b < w.heap.size ∧ (∀ i, w.frozen? ⟨b, i, none⟩ = false) ∧ (∀ i r, i < l.length → r < k → (w.cell? ⟨b, i * k + r, none⟩).isSome = true) ∧
  ∀ (i r : Nat) (u : Value) (y : α) (hi : i < l.length), r < k → (∀ C, R (Lo base) w l[i] C → R (Lo base) w y (C.setIfInBounds r u)) → Rw k R (Lo w.heap.size) (w.setCell ⟨b, i * k + r, none⟩ u) (l.set i y) (some ⟨b, 0, none⟩) l.length := by
 obtain ⟨L, h1, h2, h3⟩ := h
 rcases h3.2 with ⟨rfl, h00⟩ | ⟨g, cap, cur, rfl, hb, hg, -⟩
 · omega
 · have hgl : g < w.heap.size := (Array.getElem?_eq_some_iff.1 hg).1
   have hL : ∀ c ∈ L, c.size = k := fun c hc => by
    obtain ⟨i, hi, rfl⟩ := List.getElem_of_mem hc
    exact (hs (h2 i (by omega) hi)).1
   have hat : ∀ j r (hj : j < l.length) (hj2 : j < L.length), r < k → w.cell? ⟨g, j * k + r, none⟩ = L[j][r]? := fun j r hj hj2 hr => by
    have hlt : j * k + r < l.length * k := by
     have := Nat.mul_le_mul_right k (show j + 1 ≤ l.length by omega)
     rw [Nat.add_mul] at this
     omega
    rw [h3.cellAt (j * k + r) hlt, flatC_get hL hj2 hr]
   refine ⟨g, cap, rfl, hb, hgl, fun i => ?_, fun i r hi hr => ?_, fun i r u y hi hr hy => ?_⟩
   · unfold World.frozen?
     rw [show w.heap[(⟨g, i, none⟩ : Addr).block]? = _ from hg]
     simp
   · have hi2 : i < L.length := by omega
     rw [hat i r hi hi2 hr, Array.getElem?_eq_getElem (by rw [hL _ (List.getElem_mem hi2)]; exact hr)]
     rfl
   · have hsz : (w.setCell ⟨g, i * k + r, none⟩ u).heap.size = w.heap.size := by
      show (w.heap.modify g _).size = _
      rw [Array.size_modify]
     have keep : ∀ {z : α} {c : Array Value}, R (Lo base) w z c → R (Lo w.heap.size) (w.setCell ⟨g, i * k + r, none⟩ u) z c := fun {z c} hr => hm (by omega) (fun b hbb hlt => ⟨hlt, by
      have : b < base := hbb
      show (w.heap.modify g _)[b]? = _
      rw [Array.getElem?_modify, if_neg (by omega)]⟩) hr
     have hi2 : i < L.length := by omega
     refine ⟨by rw [List.length_set], by omega, .inr ⟨g, 0, rfl, hgl, by omega, Lib.hid fun j hj => ?_⟩⟩
     rw [List.length_set] at hj
     have hj2 : j < L.length := by omega
     have hz := hL _ (List.getElem_mem hj2)
     by_cases e : i = j
     · subst e
       refine ⟨L[i].setIfInBounds r u, by rw [Array.size_setIfInBounds]; exact hz, fun r2 v2 hv2 => ?_, by rw [List.getElem_set_self]; exact keep (hy _ (h2 i hi hi2))⟩
       have hr2 : r2 < k := by have := (Array.getElem?_eq_some_iff.1 hv2).1; rw [Array.size_setIfInBounds] at this; omega
       rw [Nat.zero_add]
       rw [Array.getElem?_setIfInBounds] at hv2
       by_cases e2 : r = r2
       · subst e2
         rw [if_pos rfl, if_pos (by omega)] at hv2
         have hc : w.cell? ⟨g, i * k + r, none⟩ = some (L[i][r]'(by omega)) := by rw [hat i r hi hi2 hr]; exact Array.getElem?_eq_getElem _
         rw [World.cell?_setCell_same (h := hc)]
         exact hv2
       · rw [if_neg e2] at hv2
         have hne : (⟨g, i * k + r, none⟩ : Addr) ≠ ⟨g, i * k + r2, none⟩ := by intro h; injection h with _ h _; omega
         rw [World.cell?_setCell_other (h := hne), hat i r2 hi hi2 hr2]
         exact hv2
     · refine ⟨L[j], hz, fun r2 v2 hv2 => ?_, by rw [List.getElem_set_ne e]; exact keep (h2 j hj hj2)⟩
       have hr2 : r2 < k := by have := (Array.getElem?_eq_some_iff.1 hv2).1; omega
       have hne : (⟨g, i * k + r, none⟩ : Addr) ≠ ⟨g, j * k + r2, none⟩ := by
        intro h
        injection h with _ h _
        rcases Nat.lt_or_gt_of_ne e with e3 | e3
        · have := Nat.mul_le_mul_right k (show i + 1 ≤ j by omega)
          rw [Nat.add_mul] at this
          omega
        · have := Nat.mul_le_mul_right k (show j + 1 ≤ i by omega)
          rw [Nat.add_mul] at this
          omega
       rw [Nat.zero_add, World.cell?_setCell_other (h := hne), hat j r2 hj hj2 hr2]
       exact hv2
structure Caps (w : World) (P : PMdl) : Prop where
 li : P.lim ≤ P.lic
 si : P.sim ≤ P.sic
 la : ∀ a, P.sip = some a → ∀ k, k < P.sim → ∀ p m c, w.cell? ((a.add (k * 13)).add 12) = some (.slice p m c) → m ≤ c
theorem cap_of {H : Type} {enc : TypeId × Value → H} {w : World} {L T : TypeId} (hT : Tryz.prog.underlying L = some (.slice T)) {fuel : Nat} {p : Option Addr} {m c : Nat} {y : DataW H × List MemPlace} (h : DataW.trod enc Tryz.prog w 0 (fun _ => true) true fuel L [.slice p m c] = some y) : m ≤ c := by
 rcases open_slice hT h with ⟨hcs, -⟩ | ⟨a, len, cap, mm, n, D, Pl0, hcs, -, hl3, -⟩
 · cases hcs; exact Nat.le_refl _
 · cases hcs; exact hl3
theorem caps_of {H : Type} {enc : TypeId × Value → H} {w : World} {x : Mdl} {P : PMdl} {d : DataW H} {ps : List MemPlace} (h : DataW.Trod enc Tryz.prog w 0 (fun _ => true) true 26 (.agg (cMdl x P)) d ps) : Caps w P := by
 obtain ⟨fuel, hf⟩ := h
 have hf : DataW.trod enc Tryz.prog w 0 (fun _ => true) true fuel 26 [.string x.nm, .slice P.pap P.pam P.pac, .slice P.sip P.sim P.sic, .slice P.lip P.lim P.lic] = some (d, ps) := hf
 obtain ⟨f0, f1, f2, f3, hs, hC, t0, t1, t2, t3⟩ := Mdl_is
 obtain ⟨ys, m, -, hy, -, hlen, hg⟩ := DataW.trod_struct hs hf
 have e2 := hg 2 f2 rfl
 rw [t2.1, t2.2, cof___api_SiteDecl] at e2
 obtain ⟨y2, g2⟩ : ∃ y, ys[2]? = some y := ⟨ys[2]'(by rw [hlen]; simp), List.getElem?_eq_getElem _⟩
 rw [g2] at e2
 have e2 : DataW.trod enc Tryz.prog w 0 (fun _ => true) true m 23 [.slice P.sip P.sim P.sic] = some y2 := e2
 have e3 := hg 3 f3 rfl
 rw [t3.1, t3.2, cof___api_Link] at e3
 obtain ⟨y3, g3⟩ : ∃ y, ys[3]? = some y := ⟨ys[3]'(by rw [hlen]; simp), List.getElem?_eq_getElem _⟩
 rw [g3] at e3
 have e3 : DataW.trod enc Tryz.prog w 0 (fun _ => true) true m 24 [.slice P.lip P.lim P.lic] = some y3 := e3
 refine ⟨cap_of Tryz.underlying24 e3, cap_of Tryz.underlying23 e2, fun a ha k hk p m2 c hc => ?_⟩
 rcases open_slice Tryz.underlying23 e2 with ⟨hcs, -⟩ | ⟨a2, len, cap, mm, n, D, Pl0, hcs, -, hl3, hm3, hmm, hx, hi⟩
 · injection hcs with hcs _
   injection hcs with h1 h2 h3
   rw [h1] at ha; cases ha
 · injection hcs with hcs _
   injection hcs with h1 h2 h3
   rw [h1] at ha
   cases ha
   simp only [if_true] at hmm
   obtain ⟨cs', hc', ht'⟩ := hi k (by omega)
   obtain ⟨u0, u1, u2, u3, u4, u5, u6, u7, u8, u9, u10, u11, u12, hs2, hC2, s0, s1, s2, s3, s4, s5, s6, s7, s8, s9, s10, s11, s12⟩ := Ste_is
   rw [hC2] at hc'
   obtain ⟨-, hcl, hat⟩ := World.cells?_some hc'
   obtain ⟨c0, c1, c2, c3, c4, c5, c6, c7, c8, c9, c10, c11, c12, rfl⟩ := cells13_of hcl
   obtain ⟨zs, m', -, -, -, hlen2, hg2⟩ := DataW.trod_struct hs2 ht'
   have e12 := hg2 12 u12 rfl
   rw [s12.1, s12.2, cof___api_Law] at e12
   obtain ⟨y12, g12⟩ : ∃ y, zs[12]? = some y := ⟨zs[12]'(by rw [hlen2]; simp), List.getElem?_eq_getElem _⟩
   rw [g12] at e12
   have e12 : DataW.trod enc Tryz.prog w 0 (fun _ => true) true m' 40 [c12] = some y12 := e12
   have h12 : w.cell? ((a.add (k * 13)).add 12) = some c12 := hat 12 (by omega)
   rw [h12] at hc
   cases hc
   exact cap_of Tryz.underlying40 e12
theorem OwnL.slotG {α : Type} {T : TypeId} {k : Nat} {R : Rec α} {base B i : Nat} {w : World} {v u : Value} {l : List α} (hm : Mono R) (h : OwnL T k R base w v l) (hB : base ≤ B) (hne : v.ownBlock ≠ some B) : OwnL T k R base (w.setCell ⟨B, i, none⟩ u) v l := by
 obtain ⟨L, h1, h2, h3⟩ := h
 have hsz : w.heap.size ≤ (w.setCell ⟨B, i, none⟩ u).heap.size := by
  show w.heap.size ≤ (w.heap.modify B _).size
  rw [Array.size_modify]; exact Nat.le_refl _
 refine ⟨L, h1, fun j hi hi2 => hm hsz (fun b hb hlt => ⟨hb, ?_⟩) (h2 j hi hi2), h3.kept (row := some B) ⟨rfl, rfl, rfl, hsz, fun k hk hne => ?_⟩ ?_⟩
 · have : b < base := hb
   show (w.heap.modify B _)[b]? = _
   rw [Array.getElem?_modify, if_neg (by omega)]
 · show (w.heap.modify B _)[k]? = _
   rw [Array.getElem?_modify, if_neg (fun e => hne (by rw [e]))]
 · cases hv : v.ownBlock with
   | none => exact .inl rfl
   | some g => exact .inr (fun e => hne (by rw [hv, ← e]))
theorem heap_set_far {w : World} {B g i : Nat} {u : Value} (h : g ≠ B) : (w.setCell ⟨B, i, none⟩ u).heap[g]? = w.heap[g]? := by
 show (w.heap.modify B _)[g]? = _
 rw [Array.getElem?_modify, if_neg (fun e => h e.symm)]
theorem Box.far {w : World} {B g i : Nat} {u : Value} {t : TypeId} {c : Array Value} (h : Box w g t c) (hne : g ≠ B) : Box (w.setCell ⟨B, i, none⟩ u) g t c := h.keep (heap_set_far hne)
theorem copy_sites {w : World} {l : List Ste} {p : Option Addr} {m c : Nat} (ho : Rw 13 RSte (Lo w.heap.size) w l p m) (h0 : 0 < m) (hm : m ≤ 1000000) (cs : Array Value) (t : TypeId) :
 ∃ (b2 c2 : Nat) (w3 : World), (Builtin.append_ #[23, 23] 23 #[.slice (some ⟨w.heap.size + 1, 0, none⟩) 0 0, .slice p m c]).run Tryz.prog ((w.alloc (.cells cs t)).alloc (.cells #[] 42)) = .ok (.slice (some ⟨b2, 0, none⟩) m c2) w3 ∧
  w.heap.size < b2 ∧ Below w.heap.size w w3 ∧ Box w3 w.heap.size t cs ∧ OwnL 42 13 RSte w.heap.size w3 (.slice (some ⟨b2, 0, none⟩) m c2) l := by
 have hlm := ho.1
 have hb : Below w.heap.size w ((w.alloc (.cells cs t)).alloc (.cells #[] 42)) := ((Below.refl _ _).alloc (Nat.le_refl _) _).alloc (by simp) _
 have hr := ho.below RSte.map hb
 have e1 : (w.alloc (.cells cs t)).heap.size = w.heap.size + 1 := by simp
 have m1 : OwnL 42 13 RSte w.heap.size ((w.alloc (.cells cs t)).alloc (.cells #[] 42)) (.slice (some ⟨(w.alloc (.cells cs t)).heap.size, 0, none⟩) 0 0) [] := OwnL.made (by omega)
 have m2 : OwnL 42 13 RSte (w.heap.size + 1) ((w.alloc (.cells cs t)).alloc (.cells #[] 42)) (.slice (some ⟨(w.alloc (.cells cs t)).heap.size, 0, none⟩) 0 0) [] := OwnL.made (by omega)
 rw [e1] at m1 m2
 have e2 : ((w.alloc (.cells cs t)).alloc (.cells #[] 42)).heap.size = w.heap.size + 2 := by simp
 obtain ⟨v1, w1, r1, o1, g1⟩ := OwnL.app kSte RSte.map sSte m1 hr c (by omega) (by simpa using hm)
 obtain ⟨v2, w2, r2, o2, g2⟩ := OwnL.app kSte RSte.map sSte m2 (hr.mono RSte.map fun b g _ => Nat.lt_of_lt_of_le g (by omega)) c (by omega) (by simpa using hm)
 rw [r1] at r2
 injection r2 with r2 r3
 subst r2 r3
 rw [List.nil_append] at o1 o2
 obtain ⟨b2, c2, rfl, hb2, -⟩ := o2.setRow RSte.map sSte (by omega) (by omega)
 have hbox : Box ((w.alloc (.cells cs t)).alloc (.cells #[] 42)) w.heap.size t cs := (Box.new (w := w)).on ((Below.refl _ _).alloc (Nat.le_refl _) _)
 rw [hlm] at r1 o1
 exact ⟨b2, c2, w1, r1, hb2, m1.below g1 hb (Nat.le_refl _) (by omega), hbox.keep (g1.block _ hbox.lt (fun he => by
  have h : w.heap.size + 1 = w.heap.size := by simpa [Value.ownBlock] using he.symm
  omega)), o1⟩
end Go.Proofs.YtaaffmbnhjaebaaGreat.Md
