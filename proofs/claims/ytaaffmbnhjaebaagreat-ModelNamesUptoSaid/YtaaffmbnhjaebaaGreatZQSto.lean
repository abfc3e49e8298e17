/-
  Parts of this proof: The contracts of checkStore, checkBelt and of the closures of checkSite that call them. The contracts of Same and of the library's EqualFunc by it. The contracts of Same. The contracts of Same and of the library's EqualFunc by sameOne.
-/
import Derived.Test.YtaaffmbnhjaebaaGreatZQIdx
namespace Go.Proofs.YtaaffmbnhjaebaaGreat.Md
open Go.RowKit Go.Maps
open Go.Proofs.YtaaffmbnhjaebaaGreat.Ex (Gives)
attribute [local go_sem] cSto0 cSto1 cSto2 cBlt0 cBlt1 cBlt2
set_option maxHeartbeats 4000000
set_option linter.unusedVariables false
theorem zQSto_0 {p : Prop} (h : p := by
 go_enter Tryz.func104, Tryz.ntmps104
 go_wp2_with fail
 refine (CB.out _).mono ?_
 rintro e w2 ⟨rfl, rfl⟩
 go_wp2_with fail
 go_ret
 exact ⟨rfl, bl⟩
 ) : p := h
theorem checkStore_any (x : Sto) (w : World) : Calls Tryz.prog 104 #[.agg (cSto x)] w (Gives (.int .i64 (stoT x)) w) := by
 obtain ⟨r, hr⟩ : ∃ r, btw 1 x.rm 1000 = r := ⟨_, rfl⟩
 have CB := Lib.hid (fun W => between_gives hr W)
 cases r with
 | false =>
  rw [show stoT x = 2 by unfold stoT; rw [hr]; rfl]
  clear hr
  exact zQSto_0
 | true =>
  rcases ty_cases x.po with h | h | h | ⟨e1, e2, e3, h1, h2, h3⟩
  · rw [show stoT x = 0 by unfold stoT; rw [hr, h]; rfl]
    clear hr
    exact zQSto_0
  · rw [show stoT x = 0 by unfold stoT; rw [hr, h]; rfl]
    clear hr
    exact zQSto_0
  · rw [show stoT x = 0 by unfold stoT; rw [hr, h]; rfl]
    clear hr
    exact zQSto_0
  · rw [show stoT x = 1 by
     have : btw 1 x.po 3 = false := by
      unfold btw
      by_cases a : 1 ≤ x.po
      · rw [decide_eq_true a, decide_eq_false (by omega)]; rfl
      · rw [decide_eq_false a]; rfl
     unfold stoT; rw [hr, this]; rfl]
    have n1 : (x.po != 1) = true := bne_iff_ne.2 h1
    have n2 : (x.po != 2) = true := bne_iff_ne.2 h2
    have n3 : (x.po != 3) = true := bne_iff_ne.2 h3
    clear hr e1 e2 e3 h1 h2 h3
    exact zQSto_0
theorem zQSto_1 {p : Prop} (h : p := by
 clear hr hs
 go_enter Tryz.func107, Tryz.ntmps107
 go_wp2_with fail
 refine (CB.out _).mono ?_
 rintro e w2 ⟨rfl, rfl⟩
 go_wp2_with fail
 refine (CC.out _).mono ?_
 rintro e w2 ⟨rfl, rfl⟩
 go_wp2_with fail
 go_ret
 exact ⟨rfl, bl⟩
 ) : p := h
theorem checkBelt_any (x : Blt) (w : World) : Calls Tryz.prog 107 #[.agg (cBlt x)] w (Gives (.int .i64 (bltT x)) w) := by
 obtain ⟨r, hr⟩ : ∃ r, btw 1 x.ln 1000 = r := ⟨_, rfl⟩
 obtain ⟨s, hs⟩ : ∃ r, btw 1 x.sp 1000 = r := ⟨_, rfl⟩
 have CB := Lib.hid (fun W => between_gives hr W)
 have CC := Lib.hid (fun W => between_gives hs W)
 cases r with
 | false =>
  rw [show bltT x = 2 by unfold bltT; rw [hr]; rfl]
  clear hr hs
  go_enter Tryz.func107, Tryz.ntmps107
  go_wp2_with fail
  refine (CB.out _).mono ?_
  rintro e w2 ⟨rfl, rfl⟩
  go_wp2_with fail
  go_ret
  exact ⟨rfl, bl⟩
 | true =>
  cases s with
  | false =>
   rw [show bltT x = 2 by unfold bltT; rw [hr, hs]; rfl]
   exact zQSto_1
  | true =>
   rw [show bltT x = 0 by unfold bltT; rw [hr, hs]; rfl]
   exact zQSto_1
end Go.Proofs.YtaaffmbnhjaebaaGreat.Md
namespace Go.Proofs.YtaaffmbnhjaebaaGreat.Ex
open Go.RowKit
open Go.Proofs.YtaaffmbnhjaebaaGreat.Na (bs)
set_option maxHeartbeats 1000000
set_option linter.unusedVariables false
theorem Kin.any {G : Nat → Prop} {w : World} {o o2 n n2 : Int} {s s2 : ByteArray} {l : List Ex} {p : Option Addr} {m : Nat} (h : Kin G w (.mk o s n l) p m) : Kin G w (.mk o2 s2 n2 l) p m := kin_iff.2 (kin_iff.1 h)
theorem same_one {o o2 n n2 : Int} {s s2 : ByteArray} {l l2 : List Ex} : same (.mk o s n l) (.mk o2 s2 n2 l2) = (decide (o = o2) && decide (bs s = bs s2) && decide (n = n2) && sameL l l2) := by rw [same]
theorem sameL_stop {l l2 : List Ex} {k : Nat} {x y : Ex} (hx : l[k]? = some x) (hy : l2[k]? = some y) (h : same x y = false) : sameL l l2 = false := by
 cases g : sameL l l2 with
 | false => rfl
 | true =>
  have := sameL_eq g
  subst this
  rw [hx] at hy
  cases hy
  rw [same_self] at h
  cases h
theorem sameL_far {l l2 : List Ex} (h : ¬ l.length = l2.length) : sameL l l2 = false := by
 cases g : sameL l l2 with
 | false => rfl
 | true => exact absurd (sameL_len g) h
theorem take_same {l l2 : List Ex} {k : Nat} {x y : Ex} (hx : l[k]? = some x) (hy : l2[k]? = some y) (h : same x y = true) (g : l.take k = l2.take k) : l.take (k + 1) = l2.take (k + 1) := by rw [take_one hx, take_one hy, same_eq h, g]
abbrev nE : ByteArray := ⟨#[]⟩
set_option maxRecDepth 100000 in
theorem equal_of (l : List Ex) (ih : ∀ x ∈ l, ∀ (y : Ex) (p : Option Addr) (m c : Nat) (p2 : Option Addr) (m2 c2 : Nat) (w : World), In w x p m → In w y p2 m2 → Calls Tryz.prog 164 #[.agg #[.int .i64 x.o, .string x.s, .int .i64 x.n, .slice p m c], .agg #[.int .i64 y.o, .string y.s, .int .i64 y.n, .slice p2 m2 c2]] w (Gives (.bool (same x y)) w))
 (l2 : List Ex) (p : Option Addr) (m c : Nat) (p2 : Option Addr) (m2 c2 : Nat) (w : World) (h : In w (.mk 0 nE 0 l) p m) (h2 : In w (.mk 0 nE 0 l2) p2 m2) :
 Calls Tryz.prog 165 #[.slice p m c, .slice p2 m2 c2, .func (.func 164) #[] #[]] w (Gives (.bool (sameL l l2)) w) := by
 have HH := Lib.hid h
 have HH2 := Lib.hid h2
 have HI := Lib.hid ih
 obtain ⟨hl, hm⟩ := h.len
 obtain ⟨hl2, hm2⟩ := h2.len
 have HL := Lib.hid hl
 have HL2 := Lib.hid hl2
 clear ih h h2 hl hl2
 by_cases hmm : m = m2
 · subst hmm
   go_enter Tryz.func165, Tryz.ntmps165
   go_wp2_with fail
   go_loopw [17] (fun i wr => ∃ k : Nat, k ≤ m ∧ Hid (l.take k = l2.take k) ∧ i = .int .i64 (k : Nat) ∧ Hid (Below w.heap.size w wr)) (fun i _ => m - (intOf i).toNat)
   case atStart => exact ⟨0, Nat.zero_le _, Lib.hid rfl, rfl, Lib.hid bl⟩
   case round =>
    obtain ⟨k, hk, HT0, rfl, HW⟩ := hrel
    have k0 : (0 : Int) ≤ (k : Int) := by omega
    rcases Nat.lt_or_ge k m with h | h
    · have k1 : (k : Int) < (m : Int) := by omega
      obtain ⟨b, o', rfl, -, hG, hcell⟩ := HH.out.kids (by omega)
      have hkl : k < l.length := by rw [HL.out]; omega
      obtain ⟨q, j, c', hc4, hkin⟩ := hcell.out k hkl
      have hmem : l[k] ∈ l := List.getElem_mem hkl
      have hgx : l[k]? = some l[k] := List.getElem?_eq_getElem hkl
      obtain ⟨x, hx⟩ : ∃ x, l[k] = x := ⟨_, rfl⟩
      rw [hx] at hc4 hkin hmem hgx
      obtain ⟨e0, e1, e2, e3⟩ := hc4.on HW.out hG
      have HKIN := Lib.hid hkin
      have HX := Lib.hid hgx
      have HM := Lib.hid hmem
      clear hcell hc4 hkin hx hmem hgx hkl
      obtain ⟨b', o'', rfl, -, hG', hcell'⟩ := HH2.out.kids (by omega)
      have hkl2 : k < l2.length := by rw [HL2.out]; omega
      obtain ⟨q', j', c'', hc4', hkin'⟩ := hcell'.out k hkl2
      have hmem2 : l2[k] ∈ l2 := List.getElem_mem hkl2
      have hgx2 : l2[k]? = some l2[k] := List.getElem?_eq_getElem hkl2
      obtain ⟨y, hy⟩ : ∃ y, l2[k] = y := ⟨_, rfl⟩
      rw [hy] at hc4' hkin' hmem2 hgx2
      obtain ⟨f0, f1, f2, f3⟩ := hc4'.on HW.out hG'
      have HKIN2 := Lib.hid hkin'
      have HX2 := Lib.hid hgx2
      have HM2 := Lib.hid hmem2
      clear hcell' hc4' hkin' hy hmem2 hgx2 hkl2
      have HS := Lib.hid (sameL_stop HX.out HX2.out)
      have HE := Lib.hid (take_same HX.out HX2.out)
      have HI1 := Lib.hid (fun W => HI.out x HM.out y q j c' q' j' c'' W)
      obtain ⟨E, hE⟩ : ∃ E, same x y = E := ⟨_, rfl⟩
      rw [hE] at HI1 HS HE
      clear hE
      have hb1 : b' < wr.heap.size := Nat.lt_of_lt_of_le hG' HW.out.size
      go_wp2_with fail
      refine (HI1.out _ (HKIN.out.on (by have HBB := HW.out; exact bl)) (HKIN2.out.on (by have HBB := HW.out; exact bl))).mono ?_
      rintro e w2 ⟨rfl, hb2⟩
      have HW2 : Hid (Below w.heap.size w w2) := Lib.hid (by have HBB := HW.out; exact bl)
      clear hb2 HI1
      cases E with
      | true =>
       have HR := Lib.hid (HE.out rfl HT0.out)
       go_wp2_with fail
       go_roundw
       case rel => exact ⟨k + 1, by omega, HR, by go_num, HW2⟩
       case measure => simp [intOf]; omega
      | false =>
       have HR := Lib.hid (HS.out rfl)
       go_wp2_with fail
       go_ret
       exact ⟨by rw [HR.out]; rfl, HW2.out⟩
    · obtain rfl : m = k := by omega
      have HR : Hid (sameL l l2 = true) := Lib.hid (by
       have h1 := HT0.out
       rw [List.take_of_length_le (by rw [HL.out]; exact Nat.le_refl _), List.take_of_length_le (by rw [HL2.out]; exact Nat.le_refl _)] at h1
       rw [h1]
       exact sameL_self _)
      go_wp2_with fail
      go_ret
      exact ⟨by rw [HR.out]; rfl, HW.out⟩
 · rw [sameL_far (by rw [HL.out, HL2.out]; exact hmm)]
   have t1 : ((m : Int) == (m2 : Int)) = false := beq_eq_false_iff_ne.2 (by omega)
   have t2 : ((m : Int) != (m2 : Int)) = true := bne_iff_ne.2 (by omega)
   clear hmm
   go_enter Tryz.func165, Tryz.ntmps165
   go_wp2_with fail
   go_ret
   exact ⟨rfl, bl⟩
theorem zESame_0 {p : Prop} (h : p := by
 go_enter Tryz.func164, Tryz.ntmps164
 go_wp2_with fail
 go_ret
 exact ⟨rfl, bl⟩
 ) : p := h
set_option maxRecDepth 100000 in
theorem same_any (e : Ex) : ∀ (y : Ex) (p : Option Addr) (m c : Nat) (p2 : Option Addr) (m2 c2 : Nat) (w : World), In w e p m → In w y p2 m2 → Calls Tryz.prog 164 #[.agg #[.int .i64 e.o, .string e.s, .int .i64 e.n, .slice p m c], .agg #[.int .i64 y.o, .string y.s, .int .i64 y.n, .slice p2 m2 c2]] w (Gives (.bool (same e y)) w) := by
 induction e using Ex.ind with
 | h o s n l ih =>
  intro y p m c p2 m2 c2 w h h2
  obtain ⟨o2, s2, n2, l2⟩ := y
  have HE := Lib.hid fun W => equal_of l ih l2 p m c p2 m2 c2 W
  have HH := Lib.hid (h.any (o2 := 0) (n2 := 0) (s2 := nE))
  have HH2 := Lib.hid (h2.any (o2 := 0) (n2 := 0) (s2 := nE))
  rw [same_one]
  simp only [Ex.o, Ex.s, Ex.n]
  clear h h2 ih
  by_cases t1 : o = o2
  · by_cases t2 : bs s = bs s2
    · by_cases t3 : n = n2
      · rw [decide_eq_true t1, decide_eq_true t2, decide_eq_true t3, Bool.true_and, Bool.true_and, Bool.true_and]
        have u1 : (o == o2) = true := beq_iff_eq.2 t1
        have u2 := eq_yes t2
        have u3 : (n == n2) = true := beq_iff_eq.2 t3
        clear t1 t2 t3
        obtain ⟨E, hE⟩ : ∃ E, sameL l l2 = E := ⟨_, rfl⟩
        rw [hE] at HE ⊢
        clear hE
        go_enter Tryz.func164, Tryz.ntmps164
        go_wp2_with fail
        refine (HE.out _ (HH.out.on bl) (HH2.out.on bl)).mono ?_
        rintro e w2 ⟨rfl, hb2⟩
        go_wp2_with fail
        go_ret
        exact ⟨rfl, bl⟩
      · rw [decide_eq_true t1, decide_eq_true t2, decide_eq_false t3, Bool.true_and, Bool.true_and, Bool.false_and]
        have u1 : (o == o2) = true := beq_iff_eq.2 t1
        have u2 := eq_yes t2
        have u3 : (n == n2) = false := beq_eq_false_iff_ne.2 t3
        clear t1 t2 t3
        exact zESame_0
    · rw [decide_eq_true t1, decide_eq_false t2, Bool.true_and, Bool.false_and, Bool.false_and]
      have u1 : (o == o2) = true := beq_iff_eq.2 t1
      have u2 := eq_no t2
      clear t1 t2
      exact zESame_0
  · rw [decide_eq_false t1, Bool.false_and, Bool.false_and, Bool.false_and]
    have u1 : (o == o2) = false := beq_eq_false_iff_ne.2 t1
    clear t1
    exact zESame_0
end Go.Proofs.YtaaffmbnhjaebaaGreat.Ex
namespace Go.Proofs.YtaaffmbnhjaebaaGreat.Sm
open Go.RowKit
open Go.Proofs.YtaaffmbnhjaebaaGreat.Ex (Ex Gives)
attribute [local go_sem] cs0 cs1 cs2 cs3 cs4 cs5 cs6 cs7 cs8 cs9 cs10 cs11 cs12 cs13 cs14 cs15 cs16 cs17 cs18 cs19 cs20
set_option maxHeartbeats 8000000
set_option linter.unusedVariables false
theorem eqTo_list : ∀ (n : Nat) (l m : List Int), n ≤ l.length → n ≤ m.length → (Di.eqTo (fun i => l.getD i 0) (fun i => m.getD i 0) n = true ↔ l.take n = m.take n)
 | 0, l, m, _, _ => by simp [Di.eqTo]
 | n + 1, l, m, h1, h2 => by
  have ih := eqTo_list n l m (by omega) (by omega)
  rw [Di.eqTo, Bool.and_eq_true, ih, take_snoc' (show n < l.length by omega), take_snoc' (show n < m.length by omega)]
  have e1 : l.getD n 0 = l[n] := by simp [List.getD, List.getElem?_eq_getElem (show n < l.length by omega)]
  have e2 : m.getD n 0 = m[n] := by simp [List.getD, List.getElem?_eq_getElem (show n < m.length by omega)]
  rw [beq_iff_eq, e1, e2]
  constructor
  · rintro ⟨a, b⟩; rw [a, b]
  · intro h
    have := List.append_inj h (by simp; omega)
    exact ⟨this.1, by simpa using this.2⟩
where take_snoc' {l : List Int} {k : Nat} (h : k < l.length) : l.take (k + 1) = l.take k ++ [l[k]] := Ex.take_snoc h
theorem eqL_list (l m : List Int) : Di.eqL l.length m.length (fun i => l.getD i 0) (fun i => m.getD i 0) = decide (l = m) := by
 unfold Di.eqL
 by_cases h : l.length = m.length
 · rw [beq_iff_eq.2 h, Bool.true_and]
   have := eqTo_list l.length l m (Nat.le_refl _) (by omega)
   rw [List.take_length, h, List.take_length] at this
   rw [h]
   by_cases e : l = m
   · rw [decide_eq_true e]; exact this.2 e
   · rw [decide_eq_false e]
     cases hh : Di.eqTo (fun i => l.getD i 0) (fun i => m.getD i 0) m.length with
     | false => rfl
     | true => exact absurd (this.1 hh) e
 · rw [beq_eq_false_iff_ne.2 h, Bool.false_and, decide_eq_false (fun e => h (by rw [e]))]
theorem sameD_list (x y : Dt) : Di.sameD x.op x.a x.b x.n x.vs.length x.ws.length (fun i => x.vs.getD i 0) (fun i => x.ws.getD i 0) y.op y.a y.b y.n y.vs.length y.ws.length (fun i => y.vs.getD i 0) (fun i => y.ws.getD i 0) = sameDt x y := by
 unfold Di.sameD sameDt
 rw [eqL_list, eqL_list]
 rfl
theorem dsame_any {w : World} {x y : St} {P Q : Pl} (hx : SIn w x P) (hy : SIn w y Q) : Calls Tryz.prog 144 #[.agg #[.int .i64 x.di.op, .int .i64 x.di.a, .int .i64 x.di.b, .int .i64 x.di.n, .slice P.vp P.vm P.vc, .slice P.wp P.wm P.wc], .agg #[.int .i64 y.di.op, .int .i64 y.di.a, .int .i64 y.di.b, .int .i64 y.di.n, .slice Q.vp Q.vm Q.vc, .slice Q.wp Q.wm Q.wc]] w (Gives (.bool (sameDt x.di y.di)) w) := by
 have h := Di.same_any x.di.op x.di.a x.di.b x.di.n P.vp x.di.vs.length P.vc P.wp x.di.ws.length P.wc _ _ y.di.op y.di.a y.di.b y.di.n Q.vp y.di.vs.length Q.vc Q.wp y.di.ws.length Q.wc _ _ w hx.vs hx.ws hy.vs hy.ws
 rw [sameD_list, hx.vlen, hx.wlen, hy.vlen, hy.wlen] at h
 exact h
theorem args_any {w : World} {x y : St} {P Q : Pl} (hx : SIn w x P) (hy : SIn w y Q) : Calls Tryz.prog 165 #[.slice P.ap P.am P.ac, .slice Q.ap Q.am Q.ac, .func (.func 164) #[] #[]] w (Gives (.bool (Ex.sameL x.ar y.ar)) w) :=
 Ex.equal_of x.ar (fun e _ => Ex.same_any e) y.ar P.ap P.am P.ac Q.ap Q.am Q.ac w hx.ar hy.ar
theorem two_far {w : World} (x y : St) (P Q : Pl) : Hid (∀ W, Below ((w.alloc (.cells (cs x P) 173)).alloc (.cells (cs y Q) 173)).heap.size ((w.alloc (.cells (cs x P) 173)).alloc (.cells (cs y Q) 173)) W → box21 W w.heap.size x P ∧ box21 W (w.heap.size + 1) y Q) := Lib.hid fun W hb => by
 have h1 : box21 (w.alloc (.cells (cs x P) 173)) w.heap.size x P := box_new21
 have h2 := box_new21 (w := w.alloc (.cells (cs x P) 173)) (x := y) (P := Q)
 have e : (w.alloc (.cells (cs x P) 173)).heap.size = w.heap.size + 1 := by simp
 rw [e] at h2
 exact ⟨(h1.on bl).on hb, h2.on hb⟩
theorem zPSame_0 {p : Prop} (h : p := by
 go_enter Tryz.func146, Tryz.ntmps146
 go_wp2_with fail
 go_ret
 exact ⟨rfl, bl⟩
 ) : p := h
set_option maxRecDepth 100000 in
theorem one_no1 (x y : St) (P Q : Pl) (w : World) (u1 : (x.o == y.o) = false) : Calls Tryz.prog 146 #[.agg (cs x P), .agg (cs y Q)] w (Gives (.bool false) w) := by
 exact zPSame_0
set_option maxRecDepth 100000 in
theorem one_no2 (x y : St) (P Q : Pl) (w : World) (u1 : (x.o == y.o) = true) (u2 : (x.nm.toList == y.nm.toList) = false) : Calls Tryz.prog 146 #[.agg (cs x P), .agg (cs y Q)] w (Gives (.bool false) w) := by
 exact zPSame_0
set_option maxRecDepth 100000 in
theorem one_no3 (x y : St) (P Q : Pl) (w : World) (u1 : (x.o == y.o) = true) (u2 : (x.nm.toList == y.nm.toList) = true) (u3 : (x.f.toList == y.f.toList) = false) : Calls Tryz.prog 146 #[.agg (cs x P), .agg (cs y Q)] w (Gives (.bool false) w) := by
 exact zPSame_0
set_option maxRecDepth 100000 in
theorem one_no4 (x y : St) (P Q : Pl) (w : World) (u1 : (x.o == y.o) = true) (u2 : (x.nm.toList == y.nm.toList) = true) (u3 : (x.f.toList == y.f.toList) = true) (u4 : (x.fl == y.fl) = false) : Calls Tryz.prog 146 #[.agg (cs x P), .agg (cs y Q)] w (Gives (.bool false) w) := by
 exact zPSame_0
end Go.Proofs.YtaaffmbnhjaebaaGreat.Sm
namespace Go.Proofs.YtaaffmbnhjaebaaGreat.Sm
open Go.RowKit
open Go.Proofs.YtaaffmbnhjaebaaGreat.Ex (Gives)
attribute [local go_sem] cs0 cs1 cs2 cs3 cs4 cs5 cs6 cs7 cs8 cs9 cs10 cs11 cs12 cs13 cs14 cs15 cs16 cs17 cs18 cs19 cs20
set_option maxHeartbeats 8000000
set_option linter.unusedVariables false
theorem zPSame2_0 {p : Prop} (h : p := by
 go_wp2_with fail
 go_ret
 exact ⟨by simp, bl⟩
 ) : p := h
set_option maxRecDepth 100000 in
theorem one_calls (x y : St) (P Q : Pl) (w : World) (b1 b2 b3 b4 b5 b6 : Bool)
 (C1 : Hid (∀ W, Below w.heap.size w W → Calls Tryz.prog 164 #[.agg #[.int .i64 x.e.o, .string x.e.s, .int .i64 x.e.n, .slice P.ep P.em P.ec], .agg #[.int .i64 y.e.o, .string y.e.s, .int .i64 y.e.n, .slice Q.ep Q.em Q.ec]] W (Gives (.bool b1) W)))
 (C2 : Hid (∀ W, Below w.heap.size w W → Calls Tryz.prog 164 #[.agg #[.int .i64 x.g.o, .string x.g.s, .int .i64 x.g.n, .slice P.gp P.gm P.gc], .agg #[.int .i64 y.g.o, .string y.g.s, .int .i64 y.g.n, .slice Q.gp Q.gm Q.gc]] W (Gives (.bool b2) W)))
 (C3 : Hid (∀ W, Below w.heap.size w W → Calls Tryz.prog 165 #[.slice P.ap P.am P.ac, .slice Q.ap Q.am Q.ac, .func (.func 164) #[] #[]] W (Gives (.bool b3) W)))
 (C4 : Hid (∀ W, Below w.heap.size w W → Calls Tryz.prog 144 #[.agg #[.int .i64 x.di.op, .int .i64 x.di.a, .int .i64 x.di.b, .int .i64 x.di.n, .slice P.vp P.vm P.vc, .slice P.wp P.wm P.wc], .agg #[.int .i64 y.di.op, .int .i64 y.di.a, .int .i64 y.di.b, .int .i64 y.di.n, .slice Q.vp Q.vm Q.vc, .slice Q.wp Q.wm Q.wc]] W (Gives (.bool b4) W)))
 (C5 : Hid (∀ W, Below w.heap.size w W → Calls Tryz.prog 125 #[.slice P.bp P.bm P.bc, .slice Q.bp Q.bm Q.bc] W (Gives (.bool b5) W)))
 (C6 : Hid (∀ W, Below w.heap.size w W → Calls Tryz.prog 125 #[.slice P.lp P.lm P.lc, .slice Q.lp Q.lm Q.lc] W (Gives (.bool b6) W)))
 (u1 : (x.o == y.o) = true) (u2 : (x.nm.toList == y.nm.toList) = true) (u3 : (x.f.toList == y.f.toList) = true) (u4 : (x.fl == y.fl) = true) :
 Calls Tryz.prog 146 #[.agg (cs x P), .agg (cs y Q)] w (Gives (.bool (b1 && b2 && b3 && b4 && b5 && b6)) w) := by
 have FX := two_far (w := w) x y P Q
 go_enter Tryz.func146, Tryz.ntmps146
 go_wp2_with fail
 refine (C1.out _ bl).mono ?_
 rintro e w1 ⟨rfl, hb1⟩
 cases b1 with
 | false =>
  exact zPSame2_0
 | true =>
 have q := FX.out w1 bl
 have c7 := q.1.c7; have c8 := q.1.c8; have c9 := q.1.c9; have c10 := q.1.c10
 have d7 := q.2.c7; have d8 := q.2.c8; have d9 := q.2.c9; have d10 := q.2.c10
 clear q
 go_wp2_with fail
 clear c7 c8 c9 c10 d7 d8 d9 d10
 refine (C2.out _ bl).mono ?_
 rintro e w2 ⟨rfl, hb2⟩
 cases b2 with
 | false =>
  exact zPSame2_0
 | true =>
 have q := FX.out w2 bl
 have c11 := q.1.c11
 have d11 := q.2.c11
 clear q
 go_wp2_with fail
 clear c11 d11
 refine (C3.out _ bl).mono ?_
 rintro e w3 ⟨rfl, hb3⟩
 cases b3 with
 | false =>
  exact zPSame2_0
 | true =>
 have q := FX.out w3 bl
 have c12 := q.1.c12; have c13 := q.1.c13; have c14 := q.1.c14; have c15 := q.1.c15; have c16 := q.1.c16; have c17 := q.1.c17
 have d12 := q.2.c12; have d13 := q.2.c13; have d14 := q.2.c14; have d15 := q.2.c15; have d16 := q.2.c16; have d17 := q.2.c17
 clear q
 go_wp2_with fail
 clear c12 c13 c14 c15 c16 c17 d12 d13 d14 d15 d16 d17
 refine (C4.out _ bl).mono ?_
 rintro e w4 ⟨rfl, hb4⟩
 cases b4 with
 | false =>
  exact zPSame2_0
 | true =>
 have q := FX.out w4 bl
 have c19 := q.1.c19
 have d19 := q.2.c19
 clear q
 go_wp2_with fail
 clear c19 d19
 refine (C5.out _ bl).mono ?_
 rintro e w5 ⟨rfl, hb5⟩
 cases b5 with
 | false =>
  exact zPSame2_0
 | true =>
 have q := FX.out w5 bl
 have c20 := q.1.c20
 have d20 := q.2.c20
 clear q
 go_wp2_with fail
 clear c20 d20
 refine (C6.out _ bl).mono ?_
 rintro e w6 ⟨rfl, hb6⟩
 exact zPSame2_0
end Go.Proofs.YtaaffmbnhjaebaaGreat.Sm
namespace Go.Proofs.YtaaffmbnhjaebaaGreat.Sm
open Go.RowKit
open Go.Proofs.YtaaffmbnhjaebaaGreat.Na (bs)
open Go.Proofs.YtaaffmbnhjaebaaGreat.Ex (Ex Gives eq_yes eq_no)
attribute [local go_sem] cs0 cs1 cs2 cs3 cs4 cs5 cs6 cs7 cs8 cs9 cs10 cs11 cs12 cs13 cs14 cs15 cs16 cs17 cs18 cs19 cs20
set_option maxHeartbeats 1000000
set_option linter.unusedVariables false
abbrev SameC (f : FuncId) (sl : List St) : Prop := ∀ (l2 : List St) (p : Option Addr) (m c : Nat) (p2 : Option Addr) (m2 c2 : Nat) (w : World), LIn w sl p m → LIn w l2 p2 m2 → Calls Tryz.prog f #[.slice p m c, .slice p2 m2 c2] w (Gives (.bool (sameSL sl l2)) w)
theorem sameS_no {x y : St} (h : same0 x y = false) : sameS x y = false := by rw [sameS_one, h]; rfl
theorem one_of (x : St) (h1 : SameC 125 x.bo) (h2 : SameC 125 x.el) (y : St) (P Q : Pl) (w : World) (hx : SIn w x P) (hy : SIn w y Q) : Calls Tryz.prog 146 #[.agg (cs x P), .agg (cs y Q)] w (Gives (.bool (sameS x y)) w) := by
 by_cases t1 : x.o = y.o
 case neg =>
  rw [sameS_no (by unfold same0; rw [decide_eq_false t1]; rfl)]
  exact one_no1 x y P Q w (beq_eq_false_iff_ne.2 t1)
 by_cases t2 : bs x.nm = bs y.nm
 case neg =>
  rw [sameS_no (by unfold same0; rw [decide_eq_false t2]; simp)]
  exact one_no2 x y P Q w (beq_iff_eq.2 t1) (eq_no t2)
 by_cases t3 : bs x.f = bs y.f
 case neg =>
  rw [sameS_no (by unfold same0; rw [decide_eq_false t3]; simp)]
  exact one_no3 x y P Q w (beq_iff_eq.2 t1) (eq_yes t2) (eq_no t3)
 cases t4 : (x.fl == y.fl) with
 | false =>
  rw [sameS_no (by unfold same0; rw [t4]; simp)]
  exact one_no4 x y P Q w (beq_iff_eq.2 t1) (eq_yes t2) (eq_yes t3) t4
 | true =>
  have e : sameS x y = (Ex.same x.e y.e && Ex.same x.g y.g && Ex.sameL x.ar y.ar && sameDt x.di y.di && sameSL x.bo y.bo && sameSL x.el y.el) := by
   rw [sameS_one]; unfold same0; rw [decide_eq_true t1, decide_eq_true t2, decide_eq_true t3, t4]; simp only [Bool.true_and]
  rw [e]
  exact one_calls x y P Q w _ _ _ _ _ _ (Lib.hid fun W hb => Ex.same_any x.e y.e P.ep P.em P.ec Q.ep Q.em Q.ec W (hx.e.on hb) (hy.e.on hb)) (Lib.hid fun W hb => Ex.same_any x.g y.g P.gp P.gm P.gc Q.gp Q.gm Q.gc W (hx.g.on hb) (hy.g.on hb))
   (Lib.hid fun W hb => args_any (hx.on hb) (hy.on hb)) (Lib.hid fun W hb => dsame_any (hx.on hb) (hy.on hb)) (Lib.hid fun W hb => h1 y.bo P.bp P.bm P.bc Q.bp Q.bm Q.bc W (hx.on hb).bo (hy.on hb).bo) (Lib.hid fun W hb => h2 y.el P.lp P.lm P.lc Q.lp Q.lm Q.lc W (hx.on hb).el (hy.on hb).el)
   (beq_iff_eq.2 t1) (eq_yes t2) (eq_yes t3) t4
theorem st_store1 {P : Pl} (x : St) (w : World) (o : Obj) (z : Array Value) (hz : z.size = 21) : (storeCells ⟨w.heap.size + 1, 0, none⟩ (cs x P).toList 0).run Tryz.prog ((w.alloc o).alloc (.cells z 173)) = .ok () ((w.alloc o).alloc (.cells (cs x P) 173)) := by
 have := st_store x P z hz (w.alloc o)
 rwa [show (w.alloc o).heap.size = w.heap.size + 1 by simp] at this
theorem st_storeVar1 {P : Pl} (x : St) (w : World) (o : Obj) (z : Array Value) (hz : z.size = 21) : (storeVar 173 ⟨w.heap.size + 1, 0, none⟩ (.agg (cs x P))).run Tryz.prog ((w.alloc o).alloc (.cells z 173)) = .ok () ((w.alloc o).alloc (.cells (cs x P) 173)) := by
 have := st_storeVar x P z hz (w.alloc o)
 rwa [show (w.alloc o).heap.size = w.heap.size + 1 by simp] at this
theorem st_storeAt1 {P : Pl} (x : St) (w : World) (o : Obj) (z : Array Value) (hz : z.size = 21) : (Instr.storeAt 173 (.pointer (some ⟨w.heap.size + 1, 0, none⟩)) (.agg (cs x P))).run Tryz.prog ((w.alloc o).alloc (.cells z 173)) = .ok () ((w.alloc o).alloc (.cells (cs x P) 173)) := by
 have := st_storeAt x P z hz (w.alloc o)
 rwa [show (w.alloc o).heap.size = w.heap.size + 1 by simp] at this
set_option maxRecDepth 100000 in
theorem equal_of (sl : List St) (ih : ∀ x ∈ sl, ∀ (y : St) (P Q : Pl) (w : World), SIn w x P → SIn w y Q → Calls Tryz.prog 146 #[.agg (cs x P), .agg (cs y Q)] w (Gives (.bool (sameS x y)) w))
 (l2 : List St) (p : Option Addr) (m c : Nat) (p2 : Option Addr) (m2 c2 : Nat) (w : World) (h : LIn w sl p m) (h2 : LIn w l2 p2 m2) :
 Calls Tryz.prog 145 #[.slice p m c, .slice p2 m2 c2, .func (.func 146) #[] #[]] w (Gives (.bool (sameSL sl l2)) w) := by
 have HH := Lib.hid h
 have HH2 := Lib.hid h2
 have HI := Lib.hid ih
 obtain ⟨hl, hm⟩ := h.len
 obtain ⟨hl2, hm2⟩ := h2.len
 have HL := Lib.hid hl
 have HL2 := Lib.hid hl2
 clear ih h h2 hl hl2
 by_cases hmm : m = m2
 · subst hmm
   obtain ⟨n21, hn21⟩ : ∃ n : Nat, 21 = n := ⟨_, rfl⟩
   have hsz : ∀ w, (sizeOf 173).run Tryz.prog w = .ok n21 w := fun w => by rw [Tryz.sizeOf173, hn21]
   have HN21 := Lib.hid hn21
   clear hn21
   go_enter Tryz.func145, Tryz.ntmps145
   go_wp2_with fail
   go_loopw [17] (fun i wr => ∃ k : Nat, k ≤ m ∧ Hid (sl.take k = l2.take k) ∧ i = .int .i64 (k : Nat) ∧ Hid (Below w.heap.size w wr)) (fun i _ => m - (intOf i).toNat)
   case atStart => exact ⟨0, Nat.zero_le _, Lib.hid rfl, rfl, Lib.hid bl⟩
   case round =>
    obtain ⟨k, hk, HT0, rfl, HW⟩ := hrel
    have k0 : (0 : Int) ≤ (k : Int) := by omega
    rcases Nat.lt_or_ge k m with h | h
    · have k1 : (k : Int) < (m : Int) := by omega
      obtain ⟨b, o', rfl, -, hG, hcell⟩ := HH.out.rows (by omega)
      have hkl : k < sl.length := by rw [HL.out]; omega
      obtain ⟨P, hc21, hsin⟩ := hcell.out k hkl
      have hmem : sl[k] ∈ sl := List.getElem_mem hkl
      have hgx : sl[k]? = some sl[k] := List.getElem?_eq_getElem hkl
      obtain ⟨x, hx⟩ : ∃ x, sl[k] = x := ⟨_, rfl⟩
      rw [hx] at hc21 hsin hmem hgx
      have HSIN := Lib.hid hsin
      have HX := Lib.hid hgx
      have HM := Lib.hid hmem
      have hcw := (hc21.on HW.out hG).at HN21.out
      have hbr : b < wr.heap.size := Nat.lt_of_lt_of_le hG HW.out.size
      have hcsz : (cs x P).size = n21 := HN21.out
      have ld1 := (hcw).ldN HN21.out
      have ld2 := (hcw).loadVar
      have ld3 := (hcw).loadAt
      have st1 := st_store x P
      have st2 := st_storeVar x P
      have st3 := st_storeAt x P
      have HCW := Lib.hid hcw
      clear hcell hc21 hsin hx hmem hgx hkl hcw
      obtain ⟨b2, o2, rfl, -, hG2, hcell2⟩ := HH2.out.rows (by omega)
      have hkl2 : k < l2.length := by rw [HL2.out]; omega
      obtain ⟨Q, hcy, hsy⟩ := hcell2.out k hkl2
      have hgy : l2[k]? = some l2[k] := List.getElem?_eq_getElem hkl2
      obtain ⟨y, hy⟩ : ∃ y, l2[k] = y := ⟨_, rfl⟩
      rw [hy] at hcy hsy hgy
      have hcyw := (((hcy.on HW.out hG2).on (w2 := wr.alloc (.cells (cs x P) 173)) bl (Nat.lt_of_lt_of_le hG2 HW.out.size))).at HN21.out
      have hbr2 : b2 < wr.heap.size := Nat.lt_of_lt_of_le hG2 HW.out.size
      have hcsz2 : (cs y Q).size = n21 := HN21.out
      have le1 := hcyw.ldN HN21.out
      have le2 := hcyw.loadVar
      have le3 := hcyw.loadAt
      have sy1 := st_store1 (P := Q) y wr (.cells (cs x P) 173)
      have sy2 := st_storeVar1 (P := Q) y wr (.cells (cs x P) 173)
      have sy3 := st_storeAt1 (P := Q) y wr (.cells (cs x P) 173)
      have T2 := (two_far (w := wr) x y P Q).out _ (Below.refl _ _)
      have lx := T2.1.cell.ldN HN21.out
      have ly := T2.2.cell.ldN HN21.out
      have HSY := Lib.hid hsy
      have HS := Lib.hid (sameSL_stop HX.out hgy)
      have HE := Lib.hid (takeS_same HX.out hgy)
      have HI1 := Lib.hid (fun W => HI.out x HM.out y P Q W)
      obtain ⟨E, hE⟩ : ∃ E, sameS x y = E := ⟨_, rfl⟩
      rw [hE] at HI1 HS HE
      clear hE hcell2 hkl2 hcy hsy hgy hy hcyw T2
      go_wp2_with fail
      refine (HI1.out _ (HSIN.out.on (by have HBB := HW.out; exact bl)) (HSY.out.on (by have HBB := HW.out; exact bl))).mono ?_
      rintro e w2 ⟨rfl, hb2⟩
      have HW2 : Hid (Below w.heap.size w w2) := Lib.hid (by have HBB := HW.out; exact bl)
      clear hb2 HI1
      cases E with
      | true =>
       have HR := Lib.hid (HE.out rfl HT0.out)
       go_wp2_with fail
       go_roundw
       case rel => exact ⟨k + 1, by omega, HR, by go_num, HW2⟩
       case measure => simp [intOf]; omega
      | false =>
       have HR := Lib.hid (HS.out rfl)
       go_wp2_with fail
       go_ret
       exact ⟨by rw [HR.out]; rfl, HW2.out⟩
    · obtain rfl : m = k := by omega
      have HR : Hid (sameSL sl l2 = true) := Lib.hid (by
       have h1 := HT0.out
       rw [List.take_of_length_le (by rw [HL.out]; exact Nat.le_refl _), List.take_of_length_le (by rw [HL2.out]; exact Nat.le_refl _)] at h1
       rw [h1]
       exact sameSL_self _)
      go_wp2_with fail
      go_ret
      exact ⟨by rw [HR.out]; rfl, HW.out⟩
 · rw [sameSL_len (by rw [HL.out, HL2.out]; exact hmm)]
   have t1 : ((m : Int) == (m2 : Int)) = false := beq_eq_false_iff_ne.2 (by omega)
   have t2 : ((m : Int) != (m2 : Int)) = true := bne_iff_ne.2 (by omega)
   clear hmm
   go_enter Tryz.func145, Tryz.ntmps145
   go_wp2_with fail
   go_ret
   exact ⟨rfl, bl⟩
theorem same_any (sl : List St) : SameC 125 sl := by
 induction sl using lst_ind with
 | h sl ih =>
  intro l2 p m c p2 m2 c2 w h h2
  have HE := Lib.hid (fun W g1 g2 => equal_of sl (fun x hx => one_of x (ih x hx).1 (ih x hx).2) l2 p m c p2 m2 c2 W g1 g2)
  have HH := Lib.hid h
  have HH2 := Lib.hid h2
  clear ih h h2
  go_enter Tryz.func125, Tryz.ntmps125
  go_wp2_with fail
  refine (HE.out _ (HH.out.on bl) (HH2.out.on bl)).mono ?_
  rintro e w1 ⟨rfl, hb1⟩
  go_wp2_with fail
  go_ret
  exact ⟨rfl, bl⟩
end Go.Proofs.YtaaffmbnhjaebaaGreat.Sm
