/-
  Parts of this proof: The contract of the law's light. The contract of checkSite; what Kind gives is asked for.
-/
import Derived.Test.YtaaffmbnhjaebaaGreatZQRnm
import Derived.Test.YtaaffmbnhjaebaaGreatZQPlc
import Derived.Test.YtaaffmbnhjaebaaGreatZQStr
import Derived.Test.YtaaffmbnhjaebaaGreatZQFrm
namespace Go.Proofs.YtaaffmbnhjaebaaGreat.Md
open Go.RowKit
open Go.Proofs.YtaaffmbnhjaebaaGreat.Ex (Lo Gives block_lt take_one)
set_option maxHeartbeats 8000000
set_option linter.unusedVariables false
structure NwSte (x : Ste) : Prop where
 nz : NzSte x
 nm : ∀ l ∈ names x, l.length < 2000000
 ss : x.ss.length < 2000000
 la : x.la.length < 2000000
def lenN : List (List ByteArray) → Nat
 | [] => 0
 | l :: t => l.length + lenN t
theorem lenN_app : ∀ (a b : List (List ByteArray)), lenN (a ++ b) = lenN a + lenN b
 | [], b => by simp [lenN]
 | l :: t, b => by rw [List.cons_append, lenN, lenN, lenN_app]; omega
theorem lenN_le : ∀ {L : List (List ByteArray)}, (∀ l ∈ L, l.length < 2000000) → lenN L ≤ L.length * 2000000
 | [], _ => Nat.zero_le _
 | l :: t, h => by
  have h1 := h l List.mem_cons_self
  have h2 := lenN_le fun x hx => h x (List.mem_cons_of_mem _ hx)
  rw [lenN, List.length_cons, Nat.add_mul]; omega
def lenS (x : Ste) : Nat := lenN (names x) + (x.ss.length + x.la.length)
def lenM : List Ste → Nat
 | [] => 0
 | x :: t => lenS x + lenM t
theorem lenM_app : ∀ (a b : List Ste), lenM (a ++ b) = lenM a + lenM b
 | [], b => by simp [lenM]
 | l :: t, b => by rw [List.cons_append, lenM, lenM, lenM_app]; omega
theorem lenS_le {x : Ste} (h : NwSte x) : lenS x ≤ 24000000 := by
 have h1 := lenN_le h.nm
 have h2 : (names x).length = 10 := rfl
 have := h.ss; have := h.la
 unfold lenS; omega
theorem lenM_le : ∀ {l : List Ste}, (∀ x ∈ l, NwSte x) → lenM l ≤ l.length * 24000000
 | [], _ => Nat.zero_le _
 | x :: t, h => by
  have h1 := lenS_le (h x List.mem_cons_self)
  have h2 := lenM_le fun y hy => h y (List.mem_cons_of_mem _ hy)
  rw [lenM, List.length_cons, Nat.add_mul]; omega
def lightB (x : Mdl) : Bool := !(decide (20 < x.si.length) || decide (40 < x.pa.length) || decide (40 < x.li.length)) && decide (lenM x.si ≤ 120)
theorem zQRlt_0 {p : Prop} (h : p := by
 go_enter Tryz.func8, Tryz.ntmps8
 go_wp2_with fail
 go_ret
 exact ⟨by rw [HN.out]; rfl, bl⟩
 ) : p := h
set_option maxRecDepth 100000 in
theorem light_any (x : Mdl) (P : PMdl) (w : World) (hx : OMdl (Lo w.heap.size) w x P) (hz : ∀ y ∈ x.si, NwSte y) : Calls Tryz.prog 8 #[.agg (cMdl x P)] w (Gives (.bool (lightB x)) w) := by
 have HX := Lib.hid hx
 have HZ := Lib.hid hz
 have FX := far (w := w) 26 (cMdl x P)
 obtain ⟨hls, hms⟩ := hx.si.len
 obtain ⟨hlp, hmp⟩ := hx.pa.len
 obtain ⟨hll, hml⟩ := hx.li.len
 have g0 := (FX.out (w.alloc (.cells (cMdl x P) 26)) (Below.refl _ _)).get (cMdl1 x P)
 have g1 := (FX.out (w.alloc (.cells (cMdl x P) 26)) (Below.refl _ _)).get (cMdl2 x P)
 have g2 := (FX.out (w.alloc (.cells (cMdl x P) 26)) (Below.refl _ _)).get (cMdl3 x P)
 by_cases h1 : 20 < P.sim
 · have HN : Hid (lightB x = false) := Lib.hid (by unfold lightB; rw [decide_eq_true (show 20 < x.si.length by omega)]; rfl)
   have d1 : (20 : Int) < (P.sim : Int) := by omega
   have e1 := decide_eq_true d1
   clear hx hz hls hms hlp hmp hll hml h1
   exact zQRlt_0
 have d1 : ¬ (20 : Int) < (P.sim : Int) := by omega
 have e1 := decide_eq_false d1
 have d1' : (P.sim : Int) ≤ 20 := by omega
 by_cases h2 : 40 < P.pam
 · have HN : Hid (lightB x = false) := Lib.hid (by unfold lightB; rw [decide_eq_true (show 40 < x.pa.length by omega), Bool.or_true]; rfl)
   have d2 : (40 : Int) < (P.pam : Int) := by omega
   have e2 := decide_eq_true d2
   clear hx hz hls hms hlp hmp hll hml h1 h2
   exact zQRlt_0
 have d2 : ¬ (40 : Int) < (P.pam : Int) := by omega
 have e2 := decide_eq_false d2
 have d2' : (P.pam : Int) ≤ 40 := by omega
 by_cases h3 : 40 < P.lim
 · have HN : Hid (lightB x = false) := Lib.hid (by unfold lightB; rw [decide_eq_true (show 40 < x.li.length by omega), Bool.or_true]; rfl)
   have d3 : (40 : Int) < (P.lim : Int) := by omega
   have e3 := decide_eq_true d3
   clear hx hz hls hms hlp hmp hll hml h1 h2 h3
   exact zQRlt_0
 have d3 : ¬ (40 : Int) < (P.lim : Int) := by omega
 have e3 := decide_eq_false d3
 have d3' : (P.lim : Int) ≤ 40 := by omega
 have HE := Lib.hid (show lightB x = decide (lenM x.si ≤ 120) by unfold lightB; rw [decide_eq_false (show ¬ 20 < x.si.length by omega), decide_eq_false (show ¬ 40 < x.pa.length by omega), decide_eq_false (show ¬ 40 < x.li.length by omega)]; rfl)
 obtain ⟨l, hl⟩ : ∃ l, x.si = l := ⟨_, rfl⟩
 obtain ⟨m, hm⟩ : ∃ m, P.sim = m := ⟨_, rfl⟩
 have HH := Lib.hid hx.si
 have HL := Lib.hid hls
 rw [hl] at HE HZ HL HH
 rw [hm] at HL HH g1 d1 e1 d1' hms
 have FK : Hid (∀ W, Below (w.alloc (.cells (cMdl x P) 26)).heap.size (w.alloc (.cells (cMdl x P) 26)) W → W.cell? ⟨w.heap.size, 2, none⟩ = some (.slice P.sip m P.sic)) := Lib.hid fun W hb => (FX.out W hb).get (by rw [cMdl2, hm])
 have HM20 := Lib.hid (show m ≤ 20 by omega)
 clear hx hz hls hms hlp hmp hll hml h1 h2 h3 hl hm
 obtain ⟨kk, hkk⟩ : ∃ n : Nat, 13 = n := ⟨_, rfl⟩
 have hsz : ∀ w, (sizeOf 42).run Tryz.prog w = .ok kk w := fun w => by rw [Tryz.sizeOf42, hkk]
 have HKK := Lib.hid hkk
 clear hkk
 go_enter Tryz.func8, Tryz.ntmps8
 go_wp2_with fail
 clear g0 g1 g2 d1 e1 d2 e2 d2' d3 e3 d3'
 go_loopw [3, 4] (fun n i wr => ∃ k : Nat, k ≤ m ∧ n = .int .i64 ((lenM (l.take k) : Nat) : Int) ∧ i = .int .i64 (k : Nat) ∧ Hid (Below (w.alloc (.cells (cMdl x P) 26)).heap.size (w.alloc (.cells (cMdl x P) 26)) wr)) (fun _ i _ => m - (intOf i).toNat)
 case atStart => exact ⟨0, Nat.zero_le _, rfl, rfl, Lib.hid bl⟩
 case round =>
  obtain ⟨k, hk, rfl, rfl, HW⟩ := hrel
  have k0 : (0 : Int) ≤ (k : Int) := by omega
  have gs := FK.out wr HW.out
  have HB := Lib.hid (show Below w.heap.size w wr by have HBB := HW.out; exact bl)
  have hk20 : (k : Int) ≤ 20 := by have := HM20.out; omega
  rcases Nat.lt_or_ge k m with h | h
  · have k1 : (k : Int) < (m : Int) := by omega
    have hkl : k < l.length := by rw [HL.out]; exact h
    obtain ⟨b, o, hp, hbG, hG, hcell⟩ := (HH.out.below RSte.map HB.out).rows (by omega)
    rw [hp] at gs
    obtain ⟨d, hds, hat, hR⟩ := hcell.out k hkl
    obtain ⟨y, hy⟩ : ∃ y, l[k] = y := ⟨_, rfl⟩
    have HZy := Lib.hid (show NwSte y by rw [← hy]; exact HZ.out _ (List.getElem_mem hkl))
    have HTk := Lib.hid (show lenM (l.take (k + 1)) = lenM (l.take k) + lenS y by rw [take_one (List.getElem?_eq_getElem hkl), lenM_app, hy, lenM, lenM, Nat.add_zero])
    have hA := lenM_le (l := l.take k) fun z hz => HZ.out z (List.mem_of_mem_take hz)
    rw [List.length_take] at hA
    rw [hy] at hR
    obtain ⟨Q, rfl, hQ⟩ := hR
    have hcsz : (cSte y Q).size = kk := by rw [hds, HKK.out]
    have bt : Big 42 (cSte y Q).size := by rw [hds]; exact bSte
    have HAT := Lib.hid (hat.at HKK.out)
    have ld0 := At.ldN (w := wr) HAT.out hcsz
    have ld1 := fun n => At.ldN (w := wr.drewN n) HAT.out hcsz
    have ld2 := fun n => At.ldV (w := wr.drewN n) HAT.out bt
    have ld3 := fun n => At.ldA (w := wr.drewN n) HAT.out bt
    have a11 := HAT.out.get (cSte11 y Q)
    have a12 := HAT.out.get (cSte12 y Q)
    have CN := Lib.hid (fun W (hW : Below wr.heap.size wr W) => names_any y Q W ((hQ.up HB.out.size).on hW) HZy.out.nz)
    have HLs := Lib.hid (show y.ss.length = Q.ssm ∧ y.la.length = Q.lam from ⟨hQ.ss.1, hQ.la.1⟩)
    have GK := Lib.hid (fun W (hW : Below wr.heap.size wr W) => (show W.cell? ⟨w.heap.size, 2, none⟩ = some (.slice (some ⟨b, o, none⟩) m P.sic) ∧ W.cell? ⟨b, o + k * kk + 11, none⟩ = some (.slice Q.ssp Q.ssm Q.ssc) ∧ W.cell? ⟨b, o + k * kk + 12, none⟩ = some (.slice Q.lap Q.lam Q.lac) from ⟨(hW.cell (p := ⟨w.heap.size, 2, none⟩) (block_lt gs)).trans gs, (hW.cell (p := ⟨b, o + k * kk + 11, none⟩) (block_lt a11)).trans a11, (hW.cell (p := ⟨b, o + k * kk + 12, none⟩) (block_lt a12)).trans a12⟩))
    obtain ⟨A, hAe⟩ : ∃ A, lenM (l.take k) = A := ⟨_, rfl⟩
    rw [hAe] at hA HTk ⊢
    have hA2 : A ≤ 480000000 := by omega
    have HAE := Lib.hid hAe
    clear hcell hds hat hy hkl bt hcsz hQ a11 a12 hA hAe hp
    go_wp2_with fail
    refine (CN.out _ bl).mono ?_
    rintro e w2 ⟨B, rfl, hB, hb2, hN⟩
    have HN := Lib.hid hN
    have HB2 := Lib.hid (show Below wr.heap.size wr w2 by exact bl)
    clear hN hB hb2 ld0 ld1 ld2 ld3
    go_wp2_with fail
    obtain ⟨W0, hW0⟩ : ∃ W, W = wr := ⟨_, rfl⟩
    subst hW0
    go_loopw [3, 6] (fun n q wv => ∃ j : Nat, j ≤ 10 ∧ n = .int .i64 ((A + lenN ((names y).take j) : Nat) : Int) ∧ q = .int .i64 (j : Nat) ∧ Hid (Below w2.heap.size w2 wv)) (fun _ q _ => 10 - (intOf q).toNat)
    case atStart => exact ⟨0, Nat.zero_le _, by simp [lenN], rfl, Lib.hid bl⟩
    case round =>
     obtain ⟨j, hj, rfl, rfl, HV⟩ := hrel
     have j0 : (0 : Int) ≤ (j : Int) := by omega
     have hbv : Below W0.heap.size W0 wr := HB2.out.trans (HV.out.mono HB2.out.size)
     have HBV := Lib.hid hbv
     clear hbv
     have hT := lenN_le (L := (names y).take j) fun z hz => HZy.out.nm z (List.mem_of_mem_take hz)
     rw [List.length_take] at hT
     have hT2 : lenN ((names y).take j) ≤ 20000000 := by have : (names y).length = 10 := rfl; omega
     clear hT
     rcases Nat.lt_or_ge j 10 with g | g
     · have j1 : (j : Int) < 10 := by omega
       have hjl : j < (names y).length := g
       obtain ⟨p, mm, c, e1, h1⟩ := HN.out.on HV.out j hjl
       have hmm : (names y)[j].length = mm := h1.1
       have hm6 : mm < 2000000 := by rw [← hmm]; exact HZy.out.nm _ (List.getElem_mem hjl)
       have HT2 := Lib.hid (show lenN ((names y).take (j + 1)) = lenN ((names y).take j) + mm by rw [take_one (List.getElem?_eq_getElem hjl), lenN_app, hmm.symm, lenN, lenN, Nat.add_zero])
       obtain ⟨C, hC⟩ : ∃ C, A + lenN ((names y).take j) = C := ⟨_, rfl⟩
       rw [hC]
       have HC := Lib.hid hC
       have hC2 : C ≤ 500000000 := by omega
       clear hC hmm h1 hjl hT2
       have c0 : (0 : Int) ≤ (C : Int) := by omega
       have c1 : (C : Int) + (mm : Int) ≤ 9223372036854775807 := by omega
       have cw : IntKind.i64.wrap ((C : Int) + (mm : Int)) = (C : Int) + (mm : Int) := by rw [IntKind.wrap_i64]; omega
       have c2 : (0 : Int) ≤ (C : Int) + (mm : Int) := by omega
       go_wp2_with fail
       go_roundw
       case rel => exact ⟨j + 1, by omega, by rw [HT2.out, ← Nat.add_assoc, HC.out]; go_num, by go_num, HV⟩
       case measure => simp [intOf]; omega
     · obtain rfl : j = 10 := by omega
       rw [show (names y).take 10 = names y from rfl] at hT2 ⊢
       obtain ⟨q1, q2, q3⟩ := GK.out wr HBV.out
       obtain ⟨C, hC⟩ : ∃ C, A + lenN (names y) = C := ⟨_, rfl⟩
       rw [hC]
       have HC := Lib.hid hC
       have hC2 : C ≤ 500000000 := by omega
       have hs1 : Q.ssm < 2000000 := by rw [← HLs.out.1]; exact HZy.out.ss
       have hs2 : Q.lam < 2000000 := by rw [← HLs.out.2]; exact HZy.out.la
       clear hC hT2
       have c0 : (0 : Int) ≤ (C : Int) := by omega
       have c1 : (Q.ssm : Int) + (Q.lam : Int) ≤ 9223372036854775807 := by omega
       have c2 : (0 : Int) ≤ (Q.ssm : Int) + (Q.lam : Int) := by omega
       have c3 : (C : Int) + ((Q.ssm : Int) + (Q.lam : Int)) ≤ 9223372036854775807 := by omega
       have cw : IntKind.i64.wrap ((Q.ssm : Int) + (Q.lam : Int)) = (Q.ssm : Int) + (Q.lam : Int) := by rw [IntKind.wrap_i64]; omega
       have cv : IntKind.i64.wrap ((C : Int) + ((Q.ssm : Int) + (Q.lam : Int))) = (C : Int) + ((Q.ssm : Int) + (Q.lam : Int)) := by rw [IntKind.wrap_i64]; omega
       have c4 : (0 : Int) ≤ (C : Int) + ((Q.ssm : Int) + (Q.lam : Int)) := by omega
       go_wp2_with fail
       go_quiet (fail)
       go_wp2_with fail
       go_roundw
       case rel => exact ⟨k + 1, by omega, by rw [HTk.out]; unfold lenS; rw [HLs.out.1, HLs.out.2, ← Nat.add_assoc, HC.out]; go_num, by go_num, Lib.hid (by have HC2 := HW.out.trans (HBV.out.mono HW.out.size); exact bl)⟩
       case measure => simp [intOf]; omega
  · obtain rfl : m = k := by omega
    rw [List.take_of_length_le (by rw [HL.out]; exact Nat.le_refl _)]
    by_cases hc : lenM l ≤ 120
    · have d := decide_eq_true (show ((lenM l : Nat) : Int) ≤ 120 by omega)
      have hc2 : ((lenM l : Nat) : Int) ≤ 120 := by omega
      have HV := Lib.hid (show lightB x = true by rw [HE.out]; exact decide_eq_true hc)
      go_wp2_with fail
      go_ret
      exact ⟨by rw [HV.out]; rfl, HB.out⟩
    · have d := decide_eq_false (show ¬ ((lenM l : Nat) : Int) ≤ 120 by omega)
      have hc2 : (120 : Int) < ((lenM l : Nat) : Int) := by omega
      have HV := Lib.hid (show lightB x = false by rw [HE.out]; exact decide_eq_false hc)
      go_wp2_with fail
      go_ret
      exact ⟨by rw [HV.out]; rfl, HB.out⟩
end Go.Proofs.YtaaffmbnhjaebaaGreat.Md
namespace Go.Proofs.YtaaffmbnhjaebaaGreat.Md
open Go.RowKit Go.Maps
open Go.Proofs.YtaaffmbnhjaebaaGreat.Sm (orE_right orE_assoc orL)
open Go.Proofs.YtaaffmbnhjaebaaGreat.Ex (Lo)
set_option maxHeartbeats 8000000
set_option linter.unusedVariables false
structure ZSte (x : Ste) : Prop where
 va : ∀ y ∈ x.va, y.nm.size ≤ 9223372036854775807
 rs : ∀ y ∈ x.rs, y.nm.size ≤ 9223372036854775807
 st : ∀ y ∈ x.st, y.nm.size ≤ 9223372036854775807
 be : ∀ y ∈ x.be, y.nm.size ≤ 9223372036854775807
 qu : ∀ y ∈ x.qu, y.size ≤ 9223372036854775807
 sm : ∀ y ∈ x.sm, y.size ≤ 9223372036854775807
 ta : ∀ y ∈ x.ta, y.size ≤ 9223372036854775807
 le : ∀ y ∈ x.le, y.size ≤ 9223372036854775807
 co : ∀ y ∈ x.co, y.size ≤ 9223372036854775807
 ro : ∀ y ∈ x.ro, ZRou y
 la : ∀ y ∈ x.la, y.nm.size ≤ 9223372036854775807
 nm : x.nm.size ≤ 9223372036854775807
def KS (b B1 B2 : Nat) (c : Array Value) (V : World) : Prop := V.cell? ⟨B1, 0, none⟩ = some (.map (some b)) ∧ Box V B2 42 c
theorem KS.stb {b B1 B2 : Nat} {c : Array Value} (h1 : B1 ≠ b) (h2 : B2 ≠ b) : Stb b (KS b B1 B2 c) := fun V V2 h hbt => ⟨cell_but hbt h.1 h1, h.2.but hbt h2⟩
theorem Sco.at {w0 : World} {b : Nat} {K : World → Prop} (hb : w0.heap.size ≤ b) (hK : Stb b K) {acc : List ByteArray} {W W2 : World} (h : Sco w0 b K acc W) (hW : Below W.heap.size W W2) : Sco w0 b K acc W2 := (Sco.fine hb hK).on acc W W2 h hW
theorem ORes.below {B : Nat} {w w2 : World} (hb : Below B w w2) {x : Res} {P : PRes} (h : ORes (Lo B) w x P) : ORes (Lo B) w2 x P := h.map hb.size fun b g _ => ⟨g, hb.block b g⟩
theorem ORes.up {B : Nat} {w : World} (hs : B ≤ w.heap.size) {x : Res} {P : PRes} (h : ORes (Lo B) w x P) : ORes (Lo w.heap.size) w x P := h.map (Nat.le_refl _) fun b g _ => ⟨Nat.lt_of_lt_of_le g hs, rfl⟩
theorem ORou.below {B : Nat} {w w2 : World} (hb : Below B w w2) {x : Rou} {P : PRou} (h : ORou (Lo B) w x P) : ORou (Lo B) w2 x P := h.map hb.size fun b g _ => ⟨g, hb.block b g⟩
theorem ORou.up {B : Nat} {w : World} (hs : B ≤ w.heap.size) {x : Rou} {P : PRou} (h : ORou (Lo B) w x P) : ORou (Lo w.heap.size) w x P := h.map (Nat.le_refl _) fun b g _ => ⟨Nat.lt_of_lt_of_le g hs, rfl⟩
theorem but_below {w0 V V2 : World} {b : Nat} (hV : Below w0.heap.size w0 V) (hbt : But b V V2) (hb : w0.heap.size ≤ b) : Below w0.heap.size V V2 := ⟨hbt.os, hbt.tape, hbt.output, hbt.size, fun k hk => hbt.block k (Nat.lt_of_lt_of_le hk hV.size) (by omega)⟩
section
variable {w0 : World} {b B1 B2 : Nat} {x : Ste} {P : PSte} (hx : OSte (Lo w0.heap.size) w0 x P) (hz : ZSte x) (hb : w0.heap.size ≤ b) (h1 : B1 ≠ b) (h2 : B2 ≠ b)
include hx hz hb h1 h2
theorem each_rs {s0 : List ByteArray} (h0 : s0.length ≤ 50000) (W : World) (hW : Sco w0 b (KS b B1 B2 (cSte x P)) s0 W) :
 Calls Tryz.prog 99 #[.slice P.rsp P.rsm P.rsc, .int .i64 ((32 : Nat) : Int), .func (.func 100) #[] #[.pointer (some ⟨B1, 0, none⟩), .pointer (some ⟨B2, 0, none⟩)]] W (Does (Sco w0 b (KS b B1 B2 (cSte x P))) (eachE stepN 32 (x.rs.map (resP x.sm)) s0)) := by
 have hSt := KS.stb (c := cSte x P) h1 h2
 rw [eachE_map]
 refine each_Res (Lib.hid hx.rs) #[] #[.pointer (some ⟨B1, 0, none⟩), .pointer (some ⟨B2, 0, none⟩)] _ (Lib.hid (Sco.fine hb hSt)) (fun a l => stepN a (resP x.sm l)) 32 (by omega) s0 (Lib.hid fun k s l c V hxk hm hg hR hI => ?_) W (Lib.hid hW)
 rw [arg1b]
 obtain ⟨Q, rfl, hQ⟩ := hR
 have hsh := go_short hm hg
 refine (clo_Res l Q b B1 s V hI.scp (by omega) (hz.rs l (List.mem_of_getElem? hxk)) hI.k.1 h1 B2 P.smp P.smm P.smc (hI.k.2.get (cSte6 x P)) h2 (resT x.sm l) (Lib.hid fun V2 hbt => ?_)).mono fun e W2 h => hI.step hb hSt h
 have hb2 : Below w0.heap.size w0 V2 := But.below hI.below hbt hb hI.below.size
 exact checkResource_any l Q x.sm P.smp P.smm P.smc V2 ((hQ.below (but_below hI.below hbt hb)).up hb2.size) (Rw.strs (hx.sm.below RTxt.map hb2))
theorem each_st {s0 : List ByteArray} (h0 : s0.length ≤ 50000) (W : World) (hW : Sco w0 b (KS b B1 B2 (cSte x P)) s0 W) :
 Calls Tryz.prog 102 #[.slice P.stp P.stm P.stc, .int .i64 ((32 : Nat) : Int), .func (.func 103) #[] #[.pointer (some ⟨B1, 0, none⟩)]] W (Does (Sco w0 b (KS b B1 B2 (cSte x P))) (eachE stepN 32 (x.st.map stoP) s0)) := by
 have hSt := KS.stb (c := cSte x P) h1 h2
 rw [eachE_map]
 refine each_Sto (Lib.hid hx.st) #[] #[.pointer (some ⟨B1, 0, none⟩)] _ (Lib.hid (Sco.fine hb hSt)) (fun a l => stepN a (stoP l)) 32 (by omega) s0 (Lib.hid fun k s l c V hxk hm hg hR hI => ?_) W (Lib.hid hW)
 rw [arg1, show c = cSto l from hR]
 have hsh := go_short hm hg
 exact (clo_Sto l b B1 s V hI.scp (by omega) (hz.st l (List.mem_of_getElem? hxk)) hI.k.1 h1 (stoT l) (Lib.hid fun V2 hbt => checkStore_any l V2)).mono fun e W2 h => hI.step hb hSt h
theorem each_be {s0 : List ByteArray} (h0 : s0.length ≤ 50000) (W : World) (hW : Sco w0 b (KS b B1 B2 (cSte x P)) s0 W) :
 Calls Tryz.prog 105 #[.slice P.bep P.bem P.bec, .int .i64 ((32 : Nat) : Int), .func (.func 106) #[] #[.pointer (some ⟨B1, 0, none⟩)]] W (Does (Sco w0 b (KS b B1 B2 (cSte x P))) (eachE stepN 32 (x.be.map bltP) s0)) := by
 have hSt := KS.stb (c := cSte x P) h1 h2
 rw [eachE_map]
 refine each_Blt (Lib.hid hx.be) #[] #[.pointer (some ⟨B1, 0, none⟩)] _ (Lib.hid (Sco.fine hb hSt)) (fun a l => stepN a (bltP l)) 32 (by omega) s0 (Lib.hid fun k s l c V hxk hm hg hR hI => ?_) W (Lib.hid hW)
 rw [arg1, show c = cBlt l from hR]
 have hsh := go_short hm hg
 exact (clo_Blt l b B1 s V hI.scp (by omega) (hz.be l (List.mem_of_getElem? hxk)) hI.k.1 h1 (bltT l) (Lib.hid fun V2 hbt => checkBelt_any l V2)).mono fun e W2 h => hI.step hb hSt h
theorem each_ro {s0 : List ByteArray} (h0 : s0.length ≤ 50000) (W : World) (hW : Sco w0 b (KS b B1 B2 (cSte x P)) s0 W) :
 Calls Tryz.prog 109 #[.slice P.rop P.rom P.roc, .int .i64 ((16 : Nat) : Int), .func (.func 110) #[] #[.pointer (some ⟨B1, 0, none⟩)]] W (Does (Sco w0 b (KS b B1 B2 (cSte x P))) (eachE stepN 16 (x.ro.map rouP) s0)) := by
 have hSt := KS.stb (c := cSte x P) h1 h2
 rw [eachE_map]
 refine each_Rou (Lib.hid hx.ro) #[] #[.pointer (some ⟨B1, 0, none⟩)] _ (Lib.hid (Sco.fine hb hSt)) (fun a l => stepN a (rouP l)) 16 (by omega) s0 (Lib.hid fun k s l c V hxk hm hg hR hI => ?_) W (Lib.hid hW)
 rw [arg1]
 obtain ⟨Q, rfl, hQ⟩ := hR
 have hsh := go_short hm hg
 have hzr := hz.ro l (List.mem_of_getElem? hxk)
 refine (clo_Rou l Q b B1 s V hI.scp (by omega) hzr.nm hI.k.1 h1 (rouT l) (Lib.hid fun V2 hbt => ?_)).mono fun e W2 h => hI.step hb hSt h
 have hb2 : Below w0.heap.size w0 V2 := But.below hI.below hbt hb hI.below.size
 exact checkRoutine_any l Q V2 ((hQ.below (but_below hI.below hbt hb)).up hb2.size) hzr
end
theorem cells12 (w : World) (t : TypeId) (r0 r1 r2 r3 r4 r5 r6 r7 r8 r9 r10 r11 : Int) : ∀ i, (h : i < [r0, r1, r2, r3, r4, r5, r6, r7, r8, r9, r10, r11].length) → (w.alloc (.cells #[.int .i64 r0, .int .i64 r1, .int .i64 r2, .int .i64 r3, .int .i64 r4, .int .i64 r5, .int .i64 r6, .int .i64 r7, .int .i64 r8, .int .i64 r9, .int .i64 r10, .int .i64 r11] t)).cell? ⟨w.heap.size, i, none⟩ = some (.int .i64 [r0, r1, r2, r3, r4, r5, r6, r7, r8, r9, r10, r11][i]) := by
 intro i h
 rw [World.cell?_alloc_mark]
 match i, h with
 | 0, _ => rfl
 | 1, _ => rfl
 | 2, _ => rfl
 | 3, _ => rfl
 | 4, _ => rfl
 | 5, _ => rfl
 | 6, _ => rfl
 | 7, _ => rfl
 | 8, _ => rfl
 | 9, _ => rfl
 | 10, _ => rfl
 | 11, _ => rfl
structure SiS (w : World) (P : PSte) (x : Ste) (n13 : Nat) (W : World) : Prop where
 f1 : W.cell? ⟨w.heap.size, 1, none⟩ = some (.slice P.vap P.vam P.vac)
 f2 : W.cell? ⟨w.heap.size, 2, none⟩ = some (.slice P.rsp P.rsm P.rsc)
 f3 : W.cell? ⟨w.heap.size, 3, none⟩ = some (.slice P.stp P.stm P.stc)
 f4 : W.cell? ⟨w.heap.size, 4, none⟩ = some (.slice P.bep P.bem P.bec)
 f5 : W.cell? ⟨w.heap.size, 5, none⟩ = some (.slice P.qup P.qum P.quc)
 f6 : W.cell? ⟨w.heap.size, 6, none⟩ = some (.slice P.smp P.smm P.smc)
 f7 : W.cell? ⟨w.heap.size, 7, none⟩ = some (.slice P.tap P.tam P.tac)
 f8 : W.cell? ⟨w.heap.size, 8, none⟩ = some (.slice P.lep P.lem P.lec)
 f9 : W.cell? ⟨w.heap.size, 9, none⟩ = some (.slice P.cop P.com P.coc)
 f10 : W.cell? ⟨w.heap.size, 10, none⟩ = some (.slice P.rop P.rom P.roc)
 f11 : W.cell? ⟨w.heap.size, 11, none⟩ = some (.slice P.ssp P.ssm P.ssc)
 f12 : W.cell? ⟨w.heap.size + 1 + 1, 0, none⟩ = some (.map (some (w.heap.size + 1)))
 f13 : (loadCellsFrom ⟨w.heap.size, 0, none⟩ 0 n13 #[]).run Tryz.prog W = .ok (cSte x P) W
def ScI (w : World) (x : Ste) (P : PSte) (acc : List ByteArray) (W : World) : Prop := Sco w (w.heap.size + 1) (KS (w.heap.size + 1) (w.heap.size + 1 + 1) w.heap.size (cSte x P)) acc W
theorem ScI.at {w : World} {x : Ste} {P : PSte} {acc : List ByteArray} {V W : World} (h : ScI w x P acc V) (hW : Below V.heap.size V W) : ScI w x P acc W := Sco.at (by omega) (KS.stb (by omega) (by omega)) h hW
structure SitC (w : World) (x : Ste) (P : PSte) (n13 : Nat) (e1 e2 e3 e4 e5 e6 e7 e8 e9 e10 e11 e12 : Int) (a1 a2 a3 a4 a5 a6 a7 a8 a9 a10 : List ByteArray) : Prop where
 c1 : ∀ W, ScI w x P [] W → Calls Tryz.prog 28 #[.slice P.vap P.vam P.vac, .int .i64 32, .func (.func 29) #[.map (some (w.heap.size + 1))] #[]] W (fun e W2 => e = .returned (.int .i64 e1) ∧ ScI w x P a1 W2)
 c2 : ∀ W, ScI w x P a1 W → Calls Tryz.prog 99 #[.slice P.rsp P.rsm P.rsc, .int .i64 32, .func (.func 100) #[] #[.pointer (some ⟨w.heap.size + 1 + 1, 0, none⟩), .pointer (some ⟨w.heap.size, 0, none⟩)]] W (fun e W2 => e = .returned (.int .i64 e2) ∧ ScI w x P a2 W2)
 c3 : ∀ W, ScI w x P a2 W → Calls Tryz.prog 102 #[.slice P.stp P.stm P.stc, .int .i64 32, .func (.func 103) #[] #[.pointer (some ⟨w.heap.size + 1 + 1, 0, none⟩)]] W (fun e W2 => e = .returned (.int .i64 e3) ∧ ScI w x P a3 W2)
 c4 : ∀ W, ScI w x P a3 W → Calls Tryz.prog 105 #[.slice P.bep P.bem P.bec, .int .i64 32, .func (.func 106) #[] #[.pointer (some ⟨w.heap.size + 1 + 1, 0, none⟩)]] W (fun e W2 => e = .returned (.int .i64 e4) ∧ ScI w x P a4 W2)
 c5 : ∀ W, ScI w x P a4 W → Calls Tryz.prog 108 #[.slice P.qup P.qum P.quc, .int .i64 32, .func (.func 54) #[.map (some (w.heap.size + 1))] #[]] W (fun e W2 => e = .returned (.int .i64 e5) ∧ ScI w x P a5 W2)
 c6 : ∀ W, ScI w x P a5 W → Calls Tryz.prog 108 #[.slice P.smp P.smm P.smc, .int .i64 32, .func (.func 54) #[.map (some (w.heap.size + 1))] #[]] W (fun e W2 => e = .returned (.int .i64 e6) ∧ ScI w x P a6 W2)
 c7 : ∀ W, ScI w x P a6 W → Calls Tryz.prog 108 #[.slice P.tap P.tam P.tac, .int .i64 32, .func (.func 54) #[.map (some (w.heap.size + 1))] #[]] W (fun e W2 => e = .returned (.int .i64 e7) ∧ ScI w x P a7 W2)
 c8 : ∀ W, ScI w x P a7 W → Calls Tryz.prog 108 #[.slice P.lep P.lem P.lec, .int .i64 32, .func (.func 54) #[.map (some (w.heap.size + 1))] #[]] W (fun e W2 => e = .returned (.int .i64 e8) ∧ ScI w x P a8 W2)
 c9 : ∀ W, ScI w x P a8 W → Calls Tryz.prog 108 #[.slice P.cop P.com P.coc, .int .i64 32, .func (.func 54) #[.map (some (w.heap.size + 1))] #[]] W (fun e W2 => e = .returned (.int .i64 e9) ∧ ScI w x P a9 W2)
 c10 : ∀ W, ScI w x P a9 W → Calls Tryz.prog 109 #[.slice P.rop P.rom P.roc, .int .i64 16, .func (.func 110) #[] #[.pointer (some ⟨w.heap.size + 1 + 1, 0, none⟩)]] W (fun e W2 => e = .returned (.int .i64 e10) ∧ ScI w x P a10 W2)
 c11 : ∀ W, ScI w x P a10 W → Calls Tryz.prog 112 #[.slice P.ssp P.ssm P.ssc, .int .i64 32, .func (.func 113) #[] #[.pointer (some ⟨w.heap.size, 0, none⟩)]] W (fun e W2 => e = .returned (.int .i64 e11) ∧ ScI w x P a10 W2)
 c12 : ∀ W, ScI w x P a10 W → Calls Tryz.prog 115 #[.agg (cSte x P)] W (fun e W2 => e = .returned (.int .i64 e12) ∧ ScI w x P a10 W2)
 fs : ∀ (acc : List ByteArray) (V W : World), ScI w x P acc V → Below V.heap.size V W → SiS w P x n13 W
 hi : ScI w x P [] (((w.alloc (.cells (cSte x P) 42)).alloc (.map #[] 0)).alloc (.cells #[.map (some (w.heap.size + 1))] 66))
theorem sitC_any (hK : KindC) (x : Ste) (P : PSte) (w : World) (hx : OSte (Lo w.heap.size) w x P) (hz : ZSte x) (n13 : Nat) (hn13 : 13 = n13) : ∃ (e1 e2 e3 e4 e5 e6 e7 e8 e9 e10 e11 e12 : Int) (a1 a2 a3 a4 a5 a6 a7 a8 a9 a10 : List ByteArray), SitC w x P n13 e1 e2 e3 e4 e5 e6 e7 e8 e9 e10 e11 e12 a1 a2 a3 a4 a5 a6 a7 a8 a9 a10 ∧ siteT x = orL [e1, e2, e3, e4, e5, e6, e7, e8, e9, e10, e11, e12] := by
 have FX := far (w := w) 42 (cSte x P)
 have hb : w.heap.size ≤ w.heap.size + 1 := by omega
 have hSt := KS.stb (c := cSte x P) (show w.heap.size + 1 + 1 ≠ w.heap.size + 1 by omega) (show w.heap.size ≠ w.heap.size + 1 by omega)
 obtain ⟨⟨e1, a1⟩, h1⟩ : ∃ r, eachE stepN 32 (x.va.map valP) [] = r := ⟨_, rfl⟩
 obtain ⟨⟨e2, a2⟩, h2⟩ : ∃ r, eachE stepN 32 (x.rs.map (resP x.sm)) a1 = r := ⟨_, rfl⟩
 obtain ⟨⟨e3, a3⟩, h3⟩ : ∃ r, eachE stepN 32 (x.st.map stoP) a2 = r := ⟨_, rfl⟩
 obtain ⟨⟨e4, a4⟩, h4⟩ : ∃ r, eachE stepN 32 (x.be.map bltP) a3 = r := ⟨_, rfl⟩
 obtain ⟨⟨e5, a5⟩, h5⟩ : ∃ r, eachE stepN 32 (x.qu.map txtP) a4 = r := ⟨_, rfl⟩
 obtain ⟨⟨e6, a6⟩, h6⟩ : ∃ r, eachE stepN 32 (x.sm.map txtP) a5 = r := ⟨_, rfl⟩
 obtain ⟨⟨e7, a7⟩, h7⟩ : ∃ r, eachE stepN 32 (x.ta.map txtP) a6 = r := ⟨_, rfl⟩
 obtain ⟨⟨e8, a8⟩, h8⟩ : ∃ r, eachE stepN 32 (x.le.map txtP) a7 = r := ⟨_, rfl⟩
 obtain ⟨⟨e9, a9⟩, h9⟩ : ∃ r, eachE stepN 32 (x.co.map txtP) a8 = r := ⟨_, rfl⟩
 obtain ⟨⟨e10, a10⟩, h10⟩ : ∃ r, eachE stepN 16 (x.ro.map rouP) a9 = r := ⟨_, rfl⟩
 obtain ⟨e11, h11⟩ : ∃ r, lstE (staE x.ro) 32 x.ss = r := ⟨_, rfl⟩
 obtain ⟨e12, h12⟩ : ∃ r, lawsE x = r := ⟨_, rfl⟩
 have HT : siteT x = orL [e1, e2, e3, e4, e5, e6, e7, e8, e9, e10, e11, e12] := by
  unfold siteT kinds
  simp only [thr, h1, h2, h3, h4, h5, h6, h7, h8, h9, h10, h11, h12, frE, idE, orL, orE_right, orE_assoc]
 have l0 : ([] : List ByteArray).length ≤ 0 := Nat.le_refl _
 have l1 : a1.length ≤ 32 := by
  have q := eachN_len (g := fun y => valP y) (most := 32) (l := x.va) (s := [])
  rw [← eachE_map (f := stepN), h1] at q
  have q2 : a1.length ≤ ([] : List ByteArray).length + 32 := q
  omega
 have l2 : a2.length ≤ 64 := by
  have q := eachN_len (g := fun y => (resP x.sm) y) (most := 32) (l := x.rs) (s := a1)
  rw [← eachE_map (f := stepN), h2] at q
  have q2 : a2.length ≤ (a1 : List ByteArray).length + 32 := q
  omega
 have l3 : a3.length ≤ 96 := by
  have q := eachN_len (g := fun y => stoP y) (most := 32) (l := x.st) (s := a2)
  rw [← eachE_map (f := stepN), h3] at q
  have q2 : a3.length ≤ (a2 : List ByteArray).length + 32 := q
  omega
 have l4 : a4.length ≤ 128 := by
  have q := eachN_len (g := fun y => bltP y) (most := 32) (l := x.be) (s := a3)
  rw [← eachE_map (f := stepN), h4] at q
  have q2 : a4.length ≤ (a3 : List ByteArray).length + 32 := q
  omega
 have l5 : a5.length ≤ 160 := by
  have q := eachN_len (g := fun y => txtP y) (most := 32) (l := x.qu) (s := a4)
  rw [← eachE_map (f := stepN), h5] at q
  have q2 : a5.length ≤ (a4 : List ByteArray).length + 32 := q
  omega
 have l6 : a6.length ≤ 192 := by
  have q := eachN_len (g := fun y => txtP y) (most := 32) (l := x.sm) (s := a5)
  rw [← eachE_map (f := stepN), h6] at q
  have q2 : a6.length ≤ (a5 : List ByteArray).length + 32 := q
  omega
 have l7 : a7.length ≤ 224 := by
  have q := eachN_len (g := fun y => txtP y) (most := 32) (l := x.ta) (s := a6)
  rw [← eachE_map (f := stepN), h7] at q
  have q2 : a7.length ≤ (a6 : List ByteArray).length + 32 := q
  omega
 have l8 : a8.length ≤ 256 := by
  have q := eachN_len (g := fun y => txtP y) (most := 32) (l := x.le) (s := a7)
  rw [← eachE_map (f := stepN), h8] at q
  have q2 : a8.length ≤ (a7 : List ByteArray).length + 32 := q
  omega
 have l9 : a9.length ≤ 288 := by
  have q := eachN_len (g := fun y => txtP y) (most := 32) (l := x.co) (s := a8)
  rw [← eachE_map (f := stepN), h9] at q
  have q2 : a9.length ≤ (a8 : List ByteArray).length + 32 := q
  omega
 have l10 : a10.length ≤ 304 := by
  have q := eachN_len (g := fun y => rouP y) (most := 16) (l := x.ro) (s := a9)
  rw [← eachE_map (f := stepN), h10] at q
  have q2 : a10.length ≤ (a9 : List ByteArray).length + 16 := q
  omega
 have C1 : ∀ W, ScI w x P [] W → Calls Tryz.prog 28 #[.slice P.vap P.vam P.vac, .int .i64 32, .func (.func 29) #[.map (some (w.heap.size + 1))] #[]] W (fun e W2 => e = .returned (.int .i64 e1) ∧ ScI w x P a1 W2) := fun W hW => by
  have q := each_vals (c := P.vac) hb hSt hx.va hz.va 32 (by omega) [] (by simp) W hW
  rw [h1] at q
  exact q
 have C2 : ∀ W, ScI w x P a1 W → Calls Tryz.prog 99 #[.slice P.rsp P.rsm P.rsc, .int .i64 32, .func (.func 100) #[] #[.pointer (some ⟨w.heap.size + 1 + 1, 0, none⟩), .pointer (some ⟨w.heap.size, 0, none⟩)]] W (fun e W2 => e = .returned (.int .i64 e2) ∧ ScI w x P a2 W2) := fun W hW => by
  have q := each_rs hx hz hb (show w.heap.size + 1 + 1 ≠ w.heap.size + 1 by omega) (show w.heap.size ≠ w.heap.size + 1 by omega) (by omega) W hW
  rw [h2] at q
  exact q
 have C3 : ∀ W, ScI w x P a2 W → Calls Tryz.prog 102 #[.slice P.stp P.stm P.stc, .int .i64 32, .func (.func 103) #[] #[.pointer (some ⟨w.heap.size + 1 + 1, 0, none⟩)]] W (fun e W2 => e = .returned (.int .i64 e3) ∧ ScI w x P a3 W2) := fun W hW => by
  have q := each_st hx hz hb (show w.heap.size + 1 + 1 ≠ w.heap.size + 1 by omega) (show w.heap.size ≠ w.heap.size + 1 by omega) (by omega) W hW
  rw [h3] at q
  exact q
 have C4 : ∀ W, ScI w x P a3 W → Calls Tryz.prog 105 #[.slice P.bep P.bem P.bec, .int .i64 32, .func (.func 106) #[] #[.pointer (some ⟨w.heap.size + 1 + 1, 0, none⟩)]] W (fun e W2 => e = .returned (.int .i64 e4) ∧ ScI w x P a4 W2) := fun W hW => by
  have q := each_be hx hz hb (show w.heap.size + 1 + 1 ≠ w.heap.size + 1 by omega) (show w.heap.size ≠ w.heap.size + 1 by omega) (by omega) W hW
  rw [h4] at q
  exact q
 have C5 : ∀ W, ScI w x P a4 W → Calls Tryz.prog 108 #[.slice P.qup P.qum P.quc, .int .i64 32, .func (.func 54) #[.map (some (w.heap.size + 1))] #[]] W (fun e W2 => e = .returned (.int .i64 e5) ∧ ScI w x P a5 W2) := fun W hW => by
  have q := each_txts (c := P.quc) hb hSt hx.qu hz.qu 32 (by omega) a4 (by omega) W hW
  rw [h5] at q
  exact q
 have C6 : ∀ W, ScI w x P a5 W → Calls Tryz.prog 108 #[.slice P.smp P.smm P.smc, .int .i64 32, .func (.func 54) #[.map (some (w.heap.size + 1))] #[]] W (fun e W2 => e = .returned (.int .i64 e6) ∧ ScI w x P a6 W2) := fun W hW => by
  have q := each_txts (c := P.smc) hb hSt hx.sm hz.sm 32 (by omega) a5 (by omega) W hW
  rw [h6] at q
  exact q
 have C7 : ∀ W, ScI w x P a6 W → Calls Tryz.prog 108 #[.slice P.tap P.tam P.tac, .int .i64 32, .func (.func 54) #[.map (some (w.heap.size + 1))] #[]] W (fun e W2 => e = .returned (.int .i64 e7) ∧ ScI w x P a7 W2) := fun W hW => by
  have q := each_txts (c := P.tac) hb hSt hx.ta hz.ta 32 (by omega) a6 (by omega) W hW
  rw [h7] at q
  exact q
 have C8 : ∀ W, ScI w x P a7 W → Calls Tryz.prog 108 #[.slice P.lep P.lem P.lec, .int .i64 32, .func (.func 54) #[.map (some (w.heap.size + 1))] #[]] W (fun e W2 => e = .returned (.int .i64 e8) ∧ ScI w x P a8 W2) := fun W hW => by
  have q := each_txts (c := P.lec) hb hSt hx.le hz.le 32 (by omega) a7 (by omega) W hW
  rw [h8] at q
  exact q
 have C9 : ∀ W, ScI w x P a8 W → Calls Tryz.prog 108 #[.slice P.cop P.com P.coc, .int .i64 32, .func (.func 54) #[.map (some (w.heap.size + 1))] #[]] W (fun e W2 => e = .returned (.int .i64 e9) ∧ ScI w x P a9 W2) := fun W hW => by
  have q := each_txts (c := P.coc) hb hSt hx.co hz.co 32 (by omega) a8 (by omega) W hW
  rw [h9] at q
  exact q
 have C10 : ∀ W, ScI w x P a9 W → Calls Tryz.prog 109 #[.slice P.rop P.rom P.roc, .int .i64 16, .func (.func 110) #[] #[.pointer (some ⟨w.heap.size + 1 + 1, 0, none⟩)]] W (fun e W2 => e = .returned (.int .i64 e10) ∧ ScI w x P a10 W2) := fun W hW => by
  have q := each_ro hx hz hb (show w.heap.size + 1 + 1 ≠ w.heap.size + 1 by omega) (show w.heap.size ≠ w.heap.size + 1 by omega) (by omega) W hW
  rw [h10] at q
  exact q
 have C11 : ∀ W, ScI w x P a10 W → Calls Tryz.prog 112 #[.slice P.ssp P.ssm P.ssc, .int .i64 32, .func (.func 113) #[] #[.pointer (some ⟨w.heap.size, 0, none⟩)]] W (fun e W2 => e = .returned (.int .i64 e11) ∧ ScI w x P a10 W2) := fun W hW => by
  rw [← h11]
  exact (starts_any x P w hx w.heap.size W hW.below hW.k.2).mono fun e W2 h => ⟨h.1, hW.at h.2⟩
 have C12 : ∀ W, ScI w x P a10 W → Calls Tryz.prog 115 #[.agg (cSte x P)] W (fun e W2 => e = .returned (.int .i64 e12) ∧ ScI w x P a10 W2) := fun W hW => by
  rw [← h12]
  exact (checkLaws_any hK x P W ((hx.below hW.below).up hW.below.size) hz.la).mono fun e W2 h => ⟨h.1, hW.at h.2⟩
 have FS : ∀ (acc : List ByteArray) (V W : World), ScI w x P acc V → Below V.heap.size V W → SiS w P x n13 W := fun acc V W h hW => by
  have g := h.at hW
  have q := g.k.2
  exact ⟨q.get (cSte1 x P), q.get (cSte2 x P), q.get (cSte3 x P), q.get (cSte4 x P), q.get (cSte5 x P), q.get (cSte6 x P), q.get (cSte7 x P), q.get (cSte8 x P), q.get (cSte9 x P), q.get (cSte10 x P), q.get (cSte11 x P), g.k.1, q.cell.ldN hn13⟩
 have HI0 : ScI w x P [] (((w.alloc (.cells (cSte x P) 42)).alloc (.map #[] 0)).alloc (.cells #[.map (some (w.heap.size + 1))] 66)) := ⟨bl, (scp_made (w := w.alloc (.cells (cSte x P) 42)) (n := w.heap.size + 1) (by simp)).on bl, by go_simp, FX.out _ bl⟩
 exact ⟨e1, e2, e3, e4, e5, e6, e7, e8, e9, e10, e11, e12, a1, a2, a3, a4, a5, a6, a7, a8, a9, a10, ⟨C1, C2, C3, C4, C5, C6, C7, C8, C9, C10, C11, C12, FS, HI0⟩, HT⟩
end Go.Proofs.YtaaffmbnhjaebaaGreat.Md
