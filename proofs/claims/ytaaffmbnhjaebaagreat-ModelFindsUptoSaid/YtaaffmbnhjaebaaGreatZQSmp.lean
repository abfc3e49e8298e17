/-
  Parts of this proof: The sample of the law. The contract of the law's sample.
-/
import Derived.Test.YtaaffmbnhjaebaaGreatZQSit
namespace Go.Proofs.YtaaffmbnhjaebaaGreat.Md
open Go.RowKit Go.Maps
open Go.Proofs.YtaaffmbnhjaebaaGreat.Sm (Ints Lin zD nE)
open Go.Proofs.YtaaffmbnhjaebaaGreat.Ex (Lo)
set_option maxHeartbeats 4000000
set_option linter.unusedVariables false
section
variable {α : Type} {k : Nat} {R : Rec α} {W : World} {g : Nat} {t : TypeId}
theorem rw_one {x : α} {c : Array Value} (hB : Box W g t c) (hc : c.size = k) (hR : R (Lo W.heap.size) W x c) : Rw k R (Lo W.heap.size) W [x] (some ⟨g, 0, none⟩) 1 :=
 ⟨rfl, by omega, .inr ⟨g, 0, rfl, hB.lt, hB.lt, Lib.hid fun i hi => by
   obtain rfl : i = 0 := by simp at hi; omega
   exact ⟨c, hc, by rw [Nat.zero_mul, Nat.add_zero]; exact hB.cell, hR⟩⟩⟩
theorem rw_two {x y : α} {c d : Array Value} (hB : Box W g t (c ++ d)) (hc : c.size = k) (hd : d.size = k) (hR : R (Lo W.heap.size) W x c) (hS : R (Lo W.heap.size) W y d) : Rw k R (Lo W.heap.size) W [x, y] (some ⟨g, 0, none⟩) 2 :=
 ⟨rfl, by omega, .inr ⟨g, 0, rfl, hB.lt, hB.lt, Lib.hid fun i hi => by
   have h2 : i = 0 ∨ i = 1 := by simp at hi; omega
   rcases h2 with rfl | rfl
   · exact ⟨c, hc, fun r v hv => by
      rw [Nat.zero_mul, Nat.add_zero]
      exact hB.cell r v (by rw [Array.getElem?_append_left (Array.getElem?_eq_some_iff.1 hv).1]; exact hv), hR⟩
   · exact ⟨d, hd, fun r v hv => by
      have := hB.cell (k + r) v (by rw [Array.getElem?_append_right (by omega), hc, Nat.add_sub_cancel_left]; exact hv)
      rw [Nat.zero_add] at this ⊢
      rwa [Nat.one_mul], hS⟩⟩⟩
end
theorem ints_one {W : World} {g : Nat} {t : TypeId} {n : Int} (hB : Box W g t #[.int .i64 n]) : Ints (Lo W.heap.size) W [n] (some ⟨g, 0, none⟩) 1 :=
 ⟨rfl, by omega, .inr ⟨g, 0, rfl, hB.lt, hB.lt, Lib.hid fun i hi => by
   obtain rfl : i = 0 := by simp at hi; omega
   exact hB.get (r := 0) rfl⟩⟩
abbrev tShop : ByteArray := ⟨#[115, 104, 111, 112]⟩
abbrev tPlant : ByteArray := ⟨#[112, 108, 97, 110, 116]⟩
abbrev tYard : ByteArray := ⟨#[121, 97, 114, 100]⟩
abbrev tM : ByteArray := ⟨#[109]⟩
abbrev tQ : ByteArray := ⟨#[113]⟩
abbrev tDone : ByteArray := ⟨#[100, 111, 110, 101]⟩
abbrev tK : ByteArray := ⟨#[107]⟩
abbrev tPart : ByteArray := ⟨#[112, 97, 114, 116]⟩
abbrev tParts : ByteArray := ⟨#[112, 97, 114, 116, 115]⟩
abbrev tX : ByteArray := ⟨#[120]⟩
def smRes : Res := ⟨tM, 1, [], 0, nE, zD, zD⟩
def smFld : Fld := ⟨tK, 1⟩
def smRou : Rou := ⟨tPart, [smFld], [], []⟩
def smSta : Sta := ⟨tPart, [3], 1, 0, 0⟩
def smTr1 (wh : ByteArray) : Trm := ⟨1, wh, tPart⟩
def smTr2 : Trm := ⟨-1, tIns, tPart⟩
def smLw (wh : ByteArray) : Lw := ⟨tParts, [smTr1 wh, smTr2], 0⟩
def smSte (qt wh : ByteArray) : Ste := ⟨tPlant, [], [smRes], [], [], [qt], [], [], [], [tDone], [smRou], [smSta], [smLw wh]⟩
def smYard : Ste := ⟨tYard, [], [], [], [], [], [], [], [], [], [], [], []⟩
def smLnk (en : ByteArray) : Lnk := ⟨tPlant, en, 4⟩
def smM (qt wh en : ByteArray) : Mdl := ⟨tShop, [], [smSte qt wh, smYard], [smLnk en]⟩
def pRou (n : Nat) : PRou := ⟨some ⟨n + 4, 0, none⟩, 1, 1, none, 0, 0, none, 0, 0⟩
def pSta (n : Nat) : PSta := ⟨some ⟨n + 6, 0, none⟩, 1, 1⟩
def pLw (n : Nat) : PLw := ⟨some ⟨n + 8, 0, none⟩, 2, 2⟩
def pSte (n q : Nat) : PSte := ⟨none, 0, 0, some ⟨n + 1, 0, none⟩, 1, 1, none, 0, 0, none, 0, 0, some ⟨q, 0, none⟩, 1, 1, none, 0, 0, none, 0, 0, none, 0, 0, some ⟨n + 3, 0, none⟩, 1, 1, some ⟨n + 5, 0, none⟩, 1, 1, some ⟨n + 7, 0, none⟩, 1, 1, some ⟨n + 9, 0, none⟩, 1, 1⟩
def pNil : PSte := ⟨none, 0, 0, none, 0, 0, none, 0, 0, none, 0, 0, none, 0, 0, none, 0, 0, none, 0, 0, none, 0, 0, none, 0, 0, none, 0, 0, none, 0, 0, none, 0, 0⟩
def pMdl (n : Nat) : PMdl := ⟨none, 0, 0, some ⟨n + 11, 0, none⟩, 2, 2, some ⟨n + 12, 0, none⟩, 1, 1⟩
structure SmpAt (n q : Nat) (qt wh en : ByteArray) (W : World) : Prop where
 rs : Box W (n + 1) 92 (cRes smRes zPR)
 qu : Box W q 9 #[.string qt]
 co : Box W (n + 3) 9 #[.string tDone]
 fl : Box W (n + 4) 103 (cFld smFld)
 ro : Box W (n + 5) 79 (cRou smRou (pRou n))
 ar : Box W (n + 6) 3 #[.int .i64 3]
 ss : Box W (n + 7) 105 (cSta smSta (pSta n))
 tr : Box W (n + 8) 54 (cTrm (smTr1 wh) ++ cTrm smTr2)
 la : Box W (n + 9) 57 (cLw (smLw wh) (pLw n))
 si : Box W (n + 11) 42 (cSte (smSte qt wh) (pSte n q) ++ cSte smYard pNil)
 li : Box W (n + 12) 49 (cLnk (smLnk en))
theorem SmpAt.keep {n q : Nat} {qt wh en : ByteArray} {W W2 : World} (h : SmpAt n q qt wh en W) (hk : ∀ g, g < W.heap.size → (n < g ∧ g < n + 13 ∨ g = q) → W2.heap[g]? = W.heap[g]?) : SmpAt n q qt wh en W2 where
 rs := h.rs.keep (hk _ h.rs.lt (by omega))
 qu := h.qu.keep (hk _ h.qu.lt (by omega))
 co := h.co.keep (hk _ h.co.lt (by omega))
 fl := h.fl.keep (hk _ h.fl.lt (by omega))
 ro := h.ro.keep (hk _ h.ro.lt (by omega))
 ar := h.ar.keep (hk _ h.ar.lt (by omega))
 ss := h.ss.keep (hk _ h.ss.lt (by omega))
 tr := h.tr.keep (hk _ h.tr.lt (by omega))
 la := h.la.keep (hk _ h.la.lt (by omega))
 si := h.si.keep (hk _ h.si.lt (by omega))
 li := h.li.keep (hk _ h.li.lt (by omega))
theorem SmpAt.on {n q : Nat} {qt wh en : ByteArray} {W W2 : World} (hb : Below W.heap.size W W2) (h : SmpAt n q qt wh en W) : SmpAt n q qt wh en W2 := h.keep fun g hg _ => hb.block g hg
theorem ints_nil {W : World} {p : Option Addr} : Ints (Lo W.heap.size) W [] p 0 := ⟨rfl, by omega, .inl rfl⟩
theorem SmpAt.site {n q : Nat} {qt wh en : ByteArray} {W : World} (h : SmpAt n q qt wh en W) : OSte (Lo W.heap.size) W (smSte qt wh) (pSte n q) where
 va := Rw.nil
 rs := rw_one h.rs rfl ⟨zPR, rfl, ⟨Rw.nil, ints_nil, ints_nil, ints_nil, ints_nil⟩⟩
 st := Rw.nil
 be := Rw.nil
 qu := rw_one h.qu rfl rfl
 sm := Rw.nil
 ta := Rw.nil
 le := Rw.nil
 co := rw_one h.co rfl rfl
 ro := rw_one h.ro rfl ⟨pRou n, rfl, ⟨rw_one h.fl rfl rfl, Rw.nil, Lin.nil⟩⟩
 ss := rw_one h.ss rfl ⟨pSta n, rfl, ⟨ints_one h.ar⟩⟩
 la := rw_one h.la rfl ⟨pLw n, rfl, ⟨rw_two h.tr rfl rfl rfl rfl⟩⟩
theorem yard_any {W : World} : OSte (Lo W.heap.size) W smYard pNil := ⟨Rw.nil, Rw.nil, Rw.nil, Rw.nil, Rw.nil, Rw.nil, Rw.nil, Rw.nil, Rw.nil, Rw.nil, Rw.nil, Rw.nil⟩
theorem SmpAt.mdl {n q : Nat} {qt wh en : ByteArray} {W : World} (h : SmpAt n q qt wh en W) : OMdl (Lo W.heap.size) W (smM qt wh en) (pMdl n) where
 pa := Rw.nil
 si := rw_two h.si rfl rfl ⟨_, rfl, h.site⟩ ⟨_, rfl, yard_any⟩
 li := rw_one h.li rfl rfl
theorem zQSmp_0 {p : Prop} (h : p := by cases hy) : p := h
theorem smZ {qt wh en : ByteArray} (h1 : qt.size ≤ 1000) (h2 : en.size ≤ 1000) : ZMdl (smM qt wh en) where
 nm := show tShop.size ≤ _ by decide
 pa := fun y hy => by cases hy
 si := fun y hy => by
  simp only [smM, List.mem_cons, List.mem_nil_iff, or_false] at hy
  rcases hy with rfl | rfl
  · refine ⟨fun y hy => zQSmp_0, fun y hy => ?_, fun y hy => zQSmp_0, fun y hy => zQSmp_0, fun y hy => ?_, fun y hy => zQSmp_0, fun y hy => zQSmp_0, fun y hy => zQSmp_0, fun y hy => ?_, fun y hy => ?_, fun y hy => ?_, show tPlant.size ≤ _ by decide⟩
    · obtain rfl := List.mem_singleton.1 hy; decide
    · obtain rfl := List.mem_singleton.1 hy; omega
    · obtain rfl := List.mem_singleton.1 hy; decide
    · obtain rfl := List.mem_singleton.1 hy
      refine ⟨by decide, fun f hf => ?_, by decide, fun z hz => by cases hz⟩
      obtain rfl := List.mem_singleton.1 (show f ∈ [smFld] from hf); decide
    · obtain rfl := List.mem_singleton.1 hy; show tParts.size ≤ _; decide
  · exact ⟨fun y hy => zQSmp_0, fun y hy => zQSmp_0, fun y hy => zQSmp_0, fun y hy => zQSmp_0, fun y hy => zQSmp_0, fun y hy => zQSmp_0, fun y hy => zQSmp_0, fun y hy => zQSmp_0, fun y hy => zQSmp_0, fun y hy => zQSmp_0, fun y hy => zQSmp_0, by decide⟩
 li := fun l hl => by
  obtain rfl := List.mem_singleton.1 hl
  exact ⟨show tPlant.size ≤ _ by decide, by show en.size ≤ _; omega⟩
theorem sm_ok : mdlE (smM tQ tCrd tYard) = 0 := by decide +kernel
theorem sm_twice : mdlE (smM tM tCrd tYard) = 4 := by decide +kernel
theorem sm_none : mdlE (smM tQ tStd tYard) = 5 := by decide +kernel
theorem sm_arg : mdlE (smM tQ tCrd tPlant) = 1 := by decide +kernel
theorem sm_link : lnkV (smM tQ tCrd tYard).li tPlant tYard = (4, true) := by decide +kernel
theorem sm_site : siteI (smM tQ tCrd tYard).si tYard = 1 := by decide +kernel
theorem sm_rou : rouI (smSte tQ tCrd).ro tPart = 0 := by decide +kernel
theorem sm_kind : kindV (smSte tQ tCrd) tDone = tCnt := by decide +kernel
theorem sm_idx : idxV (smSte tQ tCrd) tDone = 0 := by decide +kernel
theorem sm_idx2 : idxV (smSte tQ tCrd) tX = -1 := by decide +kernel
theorem sm_self : mdB (smM tQ tCrd tYard) (smM tQ tCrd tYard) = true := mdB_self _
theorem sm_other : mdB (smM tQ tCrd tYard) (smM tM tCrd tYard) = false := by decide +kernel
end Go.Proofs.YtaaffmbnhjaebaaGreat.Md
namespace Go.Proofs.YtaaffmbnhjaebaaGreat.Md
open Go.RowKit Go.Maps
open Go.Proofs.YtaaffmbnhjaebaaGreat.Ex (bl_alloc)
set_option maxHeartbeats 8000000
set_option linter.unusedVariables false
abbrev vMdl (n : Nat) : Value := .agg #[.string tShop, .slice none 0 0, .slice (some ⟨n + 11, 0, none⟩) 2 2, .slice (some ⟨n + 12, 0, none⟩) 1 1]
theorem Box.newAt {W : World} {g : Nat} {t : TypeId} {c d : Array Value} (hc : c = d) (h : g = W.heap.size) : Box (W.alloc (.cells c t)) g t d := by subst h hc; exact Box.new
theorem Box.lower {W : World} {g : Nat} {t : TypeId} {d : Array Value} {o : Obj} (h : Box W g t d) : Box (W.alloc o) g t d := h.on (bl_alloc (Below.refl _ _))
set_option maxRecDepth 100000 in
theorem sample_any (w : World) : Calls Tryz.prog 25 #[] w (fun e w' => e = .returned (vMdl w.heap.size) ∧ SmpAt w.heap.size (w.heap.size + 2) tQ tCrd tYard w' ∧ Below w.heap.size w w' ∧ w.heap.size + 13 ≤ w'.heap.size) := by
 go_enter Tryz.func25, Tryz.ntmps25
 go_wp2_with fail
 refine bodyPost_ret (v := vMdl w.heap.size) ?_ rfl ⟨rfl, ?_, bl, ?_⟩
 · refine results_cell_row rfl _ _ w.heap.size 26 _ (0, 0) _ rfl ?_ Tryz.underlying26 rfl (by kernel_rfl)
   show Box _ w.heap.size 26 _
   (repeat (first | exact Box.newAt rfl (by first | (simp; done) | (simp; omega)) | refine Box.lower ?_))
 · constructor
   all_goals (repeat (first | exact Box.newAt rfl (by first | (simp; done) | (simp; omega)) | refine Box.lower ?_))
 · simp
end Go.Proofs.YtaaffmbnhjaebaaGreat.Md
