/-
  Parts of this proof: The contracts of the closures that look for a name, of Site, Routine and Link.
-/
import Derived.Test.YtaaffmbnhjaebaaGreatZQIdx
namespace Go.Proofs.YtaaffmbnhjaebaaGreat.Md
open Go.RowKit
open Go.Proofs.YtaaffmbnhjaebaaGreat.Na (bs_inj fst)
open Go.Proofs.YtaaffmbnhjaebaaGreat.Ex (Lo Gives block_lt)
attribute [local go_sem] cVal0 cRes0 cSto0 cBlt0 cRou0 cSte0 cMdl0 cMdl1 cMdl2 cMdl3 cSte10
set_option maxHeartbeats 2000000
set_option linter.unusedVariables false
theorem cl_Val (x : Val) (s : ByteArray) (B : Nat) (w : World) (hB : w.cell? ⟨B, 0, none⟩ = some (.string s)) : Calls Tryz.prog 72 #[.agg (cVal x), .pointer (some ⟨B, 0, none⟩)] w (Gives (.bool (txB x.nm s)) w) := by
 have hl := block_lt hB
 have hne : B ≠ w.heap.size := by have : B < w.heap.size := hl; omega
 have u1 : (x.nm.toList == s.toList) = txB x.nm s := tx_is _ _
 obtain ⟨r, hr⟩ : ∃ r, txB x.nm s = r := ⟨_, rfl⟩
 rw [hr] at u1 ⊢
 clear hr
 cases r
 · go_enter Tryz.func72, Tryz.ntmps72
   go_wp2_with fail
   go_ret
   exact ⟨rfl, bl⟩
 · go_enter Tryz.func72, Tryz.ntmps72
   go_wp2_with fail
   go_ret
   exact ⟨rfl, bl⟩
theorem cl_Res (x : Res) (P : PRes) (s : ByteArray) (B : Nat) (w : World) (hB : w.cell? ⟨B, 0, none⟩ = some (.string s)) : Calls Tryz.prog 74 #[.agg (cRes x P), .pointer (some ⟨B, 0, none⟩)] w (Gives (.bool (txB x.nm s)) w) := by
 have hl := block_lt hB
 have hne : B ≠ w.heap.size := by have : B < w.heap.size := hl; omega
 have u1 : (x.nm.toList == s.toList) = txB x.nm s := tx_is _ _
 obtain ⟨r, hr⟩ : ∃ r, txB x.nm s = r := ⟨_, rfl⟩
 rw [hr] at u1 ⊢
 clear hr
 cases r
 · go_enter Tryz.func74, Tryz.ntmps74
   go_wp2_with fail
   go_ret
   exact ⟨rfl, bl⟩
 · go_enter Tryz.func74, Tryz.ntmps74
   go_wp2_with fail
   go_ret
   exact ⟨rfl, bl⟩
theorem cl_Sto (x : Sto) (s : ByteArray) (B : Nat) (w : World) (hB : w.cell? ⟨B, 0, none⟩ = some (.string s)) : Calls Tryz.prog 76 #[.agg (cSto x), .pointer (some ⟨B, 0, none⟩)] w (Gives (.bool (txB x.nm s)) w) := by
 have hl := block_lt hB
 have hne : B ≠ w.heap.size := by have : B < w.heap.size := hl; omega
 have u1 : (x.nm.toList == s.toList) = txB x.nm s := tx_is _ _
 obtain ⟨r, hr⟩ : ∃ r, txB x.nm s = r := ⟨_, rfl⟩
 rw [hr] at u1 ⊢
 clear hr
 cases r
 · go_enter Tryz.func76, Tryz.ntmps76
   go_wp2_with fail
   go_ret
   exact ⟨rfl, bl⟩
 · go_enter Tryz.func76, Tryz.ntmps76
   go_wp2_with fail
   go_ret
   exact ⟨rfl, bl⟩
theorem cl_Blt (x : Blt) (s : ByteArray) (B : Nat) (w : World) (hB : w.cell? ⟨B, 0, none⟩ = some (.string s)) : Calls Tryz.prog 78 #[.agg (cBlt x), .pointer (some ⟨B, 0, none⟩)] w (Gives (.bool (txB x.nm s)) w) := by
 have hl := block_lt hB
 have hne : B ≠ w.heap.size := by have : B < w.heap.size := hl; omega
 have u1 : (x.nm.toList == s.toList) = txB x.nm s := tx_is _ _
 obtain ⟨r, hr⟩ : ∃ r, txB x.nm s = r := ⟨_, rfl⟩
 rw [hr] at u1 ⊢
 clear hr
 cases r
 · go_enter Tryz.func78, Tryz.ntmps78
   go_wp2_with fail
   go_ret
   exact ⟨rfl, bl⟩
 · go_enter Tryz.func78, Tryz.ntmps78
   go_wp2_with fail
   go_ret
   exact ⟨rfl, bl⟩
theorem cl_Rou (x : Rou) (P : PRou) (s : ByteArray) (B : Nat) (w : World) (hB : w.cell? ⟨B, 0, none⟩ = some (.string s)) : Calls Tryz.prog 42 #[.agg (cRou x P), .pointer (some ⟨B, 0, none⟩)] w (Gives (.bool (txB x.nm s)) w) := by
 have hl := block_lt hB
 have hne : B ≠ w.heap.size := by have : B < w.heap.size := hl; omega
 have u1 : (x.nm.toList == s.toList) = txB x.nm s := tx_is _ _
 obtain ⟨r, hr⟩ : ∃ r, txB x.nm s = r := ⟨_, rfl⟩
 rw [hr] at u1 ⊢
 clear hr
 cases r
 · go_enter Tryz.func42, Tryz.ntmps42
   go_wp2_with fail
   go_ret
   exact ⟨rfl, bl⟩
 · go_enter Tryz.func42, Tryz.ntmps42
   go_wp2_with fail
   go_ret
   exact ⟨rfl, bl⟩
theorem cl_Ste (x : Ste) (P : PSte) (s : ByteArray) (B : Nat) (w : World) (hB : w.cell? ⟨B, 0, none⟩ = some (.string s)) : Calls Tryz.prog 40 #[.agg (cSte x P), .pointer (some ⟨B, 0, none⟩)] w (Gives (.bool (txB x.nm s)) w) := by
 have hl := block_lt hB
 have hne : B ≠ w.heap.size := by have : B < w.heap.size := hl; omega
 have u1 : (x.nm.toList == s.toList) = txB x.nm s := tx_is _ _
 obtain ⟨r, hr⟩ : ∃ r, txB x.nm s = r := ⟨_, rfl⟩
 rw [hr] at u1 ⊢
 clear hr
 cases r
 · go_enter Tryz.func40, Tryz.ntmps40
   go_wp2_with fail
   go_ret
   exact ⟨rfl, bl⟩
 · go_enter Tryz.func40, Tryz.ntmps40
   go_wp2_with fail
   go_ret
   exact ⟨rfl, bl⟩
theorem arg1' (c a : Value) : ((#[] : Array Value).push c ++ #[a]) = #[c, a] := rfl
theorem find_Val {l : List Val} {p : Option Addr} {m c : Nat} {w : World} (s : ByteArray) (B : Nat) (hl : Rw 3 RVal (Lo w.heap.size) w l p m) (hB : w.cell? ⟨B, 0, none⟩ = some (.string s)) : Calls Tryz.prog 71 #[.slice p m c, .func (.func 72) #[] #[.pointer (some ⟨B, 0, none⟩)]] w (Gives (.int .i64 (fst (l.map (·.nm)) s)) w) := by
 rw [← idxB_fst]
 refine index_Val (Lib.hid hl) #[] #[.pointer (some ⟨B, 0, none⟩)] (fun x => txB x.nm s) (Lib.hid fun x c W hR hW => ?_)
 rw [arg1']
 rw [show c = cVal x from hR]
 exact cl_Val x s B W ((hW.cell (p := ⟨B, 0, none⟩) (block_lt hB)).trans hB)
theorem find_Res {l : List Res} {p : Option Addr} {m c : Nat} {w : World} (s : ByteArray) (B : Nat) (hl : Rw 17 RRes (Lo w.heap.size) w l p m) (hB : w.cell? ⟨B, 0, none⟩ = some (.string s)) : Calls Tryz.prog 73 #[.slice p m c, .func (.func 74) #[] #[.pointer (some ⟨B, 0, none⟩)]] w (Gives (.int .i64 (fst (l.map (·.nm)) s)) w) := by
 rw [← idxB_fst]
 refine index_Res (Lib.hid hl) #[] #[.pointer (some ⟨B, 0, none⟩)] (fun x => txB x.nm s) (Lib.hid fun x c W hR hW => ?_)
 rw [arg1']
 obtain ⟨P, rfl, -⟩ := hR
 exact cl_Res x P s B W ((hW.cell (p := ⟨B, 0, none⟩) (block_lt hB)).trans hB)
theorem find_Sto {l : List Sto} {p : Option Addr} {m c : Nat} {w : World} (s : ByteArray) (B : Nat) (hl : Rw 3 RSto (Lo w.heap.size) w l p m) (hB : w.cell? ⟨B, 0, none⟩ = some (.string s)) : Calls Tryz.prog 75 #[.slice p m c, .func (.func 76) #[] #[.pointer (some ⟨B, 0, none⟩)]] w (Gives (.int .i64 (fst (l.map (·.nm)) s)) w) := by
 rw [← idxB_fst]
 refine index_Sto (Lib.hid hl) #[] #[.pointer (some ⟨B, 0, none⟩)] (fun x => txB x.nm s) (Lib.hid fun x c W hR hW => ?_)
 rw [arg1']
 rw [show c = cSto x from hR]
 exact cl_Sto x s B W ((hW.cell (p := ⟨B, 0, none⟩) (block_lt hB)).trans hB)
theorem find_Blt {l : List Blt} {p : Option Addr} {m c : Nat} {w : World} (s : ByteArray) (B : Nat) (hl : Rw 3 RBlt (Lo w.heap.size) w l p m) (hB : w.cell? ⟨B, 0, none⟩ = some (.string s)) : Calls Tryz.prog 77 #[.slice p m c, .func (.func 78) #[] #[.pointer (some ⟨B, 0, none⟩)]] w (Gives (.int .i64 (fst (l.map (·.nm)) s)) w) := by
 rw [← idxB_fst]
 refine index_Blt (Lib.hid hl) #[] #[.pointer (some ⟨B, 0, none⟩)] (fun x => txB x.nm s) (Lib.hid fun x c W hR hW => ?_)
 rw [arg1']
 rw [show c = cBlt x from hR]
 exact cl_Blt x s B W ((hW.cell (p := ⟨B, 0, none⟩) (block_lt hB)).trans hB)
theorem find_Rou {l : List Rou} {p : Option Addr} {m c : Nat} {w : World} (s : ByteArray) (B : Nat) (hl : Rw 4 RRou (Lo w.heap.size) w l p m) (hB : w.cell? ⟨B, 0, none⟩ = some (.string s)) : Calls Tryz.prog 41 #[.slice p m c, .func (.func 42) #[] #[.pointer (some ⟨B, 0, none⟩)]] w (Gives (.int .i64 (fst (l.map (·.nm)) s)) w) := by
 rw [← idxB_fst]
 refine index_Rou (Lib.hid hl) #[] #[.pointer (some ⟨B, 0, none⟩)] (fun x => txB x.nm s) (Lib.hid fun x c W hR hW => ?_)
 rw [arg1']
 obtain ⟨P, rfl, -⟩ := hR
 exact cl_Rou x P s B W ((hW.cell (p := ⟨B, 0, none⟩) (block_lt hB)).trans hB)
theorem find_Ste {l : List Ste} {p : Option Addr} {m c : Nat} {w : World} (s : ByteArray) (B : Nat) (hl : Rw 13 RSte (Lo w.heap.size) w l p m) (hB : w.cell? ⟨B, 0, none⟩ = some (.string s)) : Calls Tryz.prog 39 #[.slice p m c, .func (.func 40) #[] #[.pointer (some ⟨B, 0, none⟩)]] w (Gives (.int .i64 (fst (l.map (·.nm)) s)) w) := by
 rw [← idxB_fst]
 refine index_Ste (Lib.hid hl) #[] #[.pointer (some ⟨B, 0, none⟩)] (fun x => txB x.nm s) (Lib.hid fun x c W hR hW => ?_)
 rw [arg1']
 obtain ⟨P, rfl, -⟩ := hR
 exact cl_Ste x P s B W ((hW.cell (p := ⟨B, 0, none⟩) (block_lt hB)).trans hB)
set_option maxRecDepth 100000 in
theorem routine_any (x : Ste) (P : PSte) (s : ByteArray) (w : World) (hl : Rw 4 RRou (Lo w.heap.size) w x.ro P.rop P.rom) : Calls Tryz.prog 16 #[.agg (cSte x P), .string s] w (Gives (.int .i64 (rouI x.ro s)) w) := by
 have HL := Lib.hid hl
 clear hl
 go_enter Tryz.func16, Tryz.ntmps16
 go_wp2_with fail
 refine (find_Rou (l := x.ro) s (w.heap.size + 1) (HL.out.on RRou.map bl) (by go_simp)).mono ?_
 rintro e w2 ⟨rfl, hb2⟩
 go_wp2_with fail
 go_ret
 exact ⟨rfl, bl⟩
set_option maxRecDepth 100000 in
theorem site_any (x : Mdl) (P : PMdl) (s : ByteArray) (w : World) (hl : Rw 13 RSte (Lo w.heap.size) w x.si P.sip P.sim) : Calls Tryz.prog 14 #[.agg (cMdl x P), .string s] w (Gives (.int .i64 (siteI x.si s)) w) := by
 have HL := Lib.hid hl
 clear hl
 go_enter Tryz.func14, Tryz.ntmps14
 go_wp2_with fail
 refine (find_Ste (l := x.si) s (w.heap.size + 1) (HL.out.on RSte.map bl) (by go_simp)).mono ?_
 rintro e w2 ⟨rfl, hb2⟩
 go_wp2_with fail
 go_ret
 exact ⟨rfl, bl⟩
theorem tx_eq {a b : ByteArray} : (a.toList == b.toList) = decide (a = b) := by
 rw [tx_is]
 unfold txB
 by_cases h : a = b
 · rw [decide_eq_true h, decide_eq_true (by rw [h])]
 · rw [decide_eq_false h, decide_eq_false (fun e => h (bs_inj e))]
def lnkR (r : Int × Bool) : Value := .tuple #[.int .i64 r.1, .bool r.2]
theorem zQFnd_0 {p : Prop} (h : p := by
 go_wp2_with fail
 go_roundw
 case rel => exact ⟨k + 1, by omega, by go_num, Lib.hid (by have HBB := HW.out; exact bl), HN⟩
 case measure => simp [intOf]; omega
 ) : p := h
set_option maxRecDepth 100000 in
theorem link_any (x : Mdl) (P : PMdl) (s t : ByteArray) (w : World) (hl : Rw 3 RLnk (Lo w.heap.size) w x.li P.lip P.lim) : Calls Tryz.prog 12 #[.agg (cMdl x P), .string s, .string t] w (Gives (lnkR (lnkV x.li s t)) w) := by
 have HH := Lib.hid hl
 obtain ⟨hlm, hm⟩ := hl.len
 have HL := Lib.hid hlm
 obtain ⟨l, hlx⟩ : ∃ l, x.li = l := ⟨_, rfl⟩
 obtain ⟨m, hmx⟩ : ∃ m, P.lim = m := ⟨_, rfl⟩
 rw [hlx] at HL HH ⊢
 rw [hmx] at HL HH hm
 have hc3 : (cMdl x P)[3]? = some (.slice P.lip m P.lic) := by rw [cMdl3, hmx]
 have t3 : (m : Int) ≤ 9223372036854775807 := by omega
 clear hl hlm hm hlx hmx
 go_enter Tryz.func12, Tryz.ntmps12
 go_wp2_with fail
 go_loopw [13] (fun i wr => ∃ k : Nat, k ≤ m ∧ i = .int .i64 (k : Nat) ∧ Hid (Below w.heap.size w wr) ∧ Hid ((lnkV (l.take k) s t).2 = false)) (fun i _ => m - (intOf i).toNat)
 case atStart => exact ⟨0, Nat.zero_le _, rfl, Lib.hid bl, Lib.hid rfl⟩
 case round =>
  obtain ⟨k, hk, rfl, HW, HA⟩ := hrel
  have k0 : (0 : Int) ≤ (k : Int) := by omega
  rcases Nat.lt_or_ge k m with h | h
  · have k1 : (k : Int) < (m : Int) := by omega
    have hkl : k < l.length := by rw [HL.out]; exact h
    have HX := Lib.hid (List.getElem?_eq_getElem hkl)
    obtain ⟨b, o, hp, hbG, hG, hcell⟩ := (HH.out.below RLnk.map HW.out).rows (by omega)
    rw [hp] at hc3 ⊢
    obtain ⟨d, hds, hat, hR⟩ := hcell.out k hkl
    obtain ⟨y, hy⟩ : ∃ y, l[k] = y := ⟨_, rfl⟩
    rw [hy] at HX hR
    have a0 := hat.get (r := 0) (v := .string y.fr) (by rw [hR]; rfl)
    have a1 := hat.get (r := 1) (v := .string y.tt) (by rw [hR]; rfl)
    have a2 := hat.get (r := 2) (v := .int .i64 y.de) (by rw [hR]; rfl)
    rw [show o + k * 3 + 0 = o + k * 3 by omega] at a0
    clear hcell hds hat hR hy hkl
    by_cases h1 : y.fr = s
    · have u1 : (y.fr.toList == s.toList) = true := by rw [tx_eq]; exact decide_eq_true h1
      by_cases h2 : y.tt = t
      · have u2 : (y.tt.toList == t.toList) = true := by rw [tx_eq]; exact decide_eq_true h2
        have HN := Lib.hid (lnkV_hit HX.out HA.out ⟨h1, h2⟩)
        clear h1 h2
        go_wp2_with fail
        go_ret2
        exact ⟨by rw [HN.out]; rfl, by have HBB := HW.out; exact bl⟩
      · have u2 : (y.tt.toList == t.toList) = false := by rw [tx_eq]; exact decide_eq_false h2
        have HN := Lib.hid (lnkV_take HX.out HA.out (fun e => h2 e.2))
        clear h1 h2
        exact zQFnd_0
    · have u1 : (y.fr.toList == s.toList) = false := by rw [tx_eq]; exact decide_eq_false h1
      have HN := Lib.hid (lnkV_take HX.out HA.out (fun e => h1 e.1))
      clear h1
      exact zQFnd_0
  · obtain rfl : m = k := by omega
    have HT := Lib.hid (lnkV_none (show (lnkV l s t).2 = false by have h1 := HA.out; rwa [List.take_of_length_le (by rw [HL.out]; exact Nat.le_refl _)] at h1))
    go_wp2_with fail
    go_ret2
    exact ⟨by rw [HT.out]; rfl, HW.out⟩
end Go.Proofs.YtaaffmbnhjaebaaGreat.Md
