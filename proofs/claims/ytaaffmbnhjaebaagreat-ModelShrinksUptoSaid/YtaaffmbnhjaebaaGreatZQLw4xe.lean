/-
  Parts of this proof: The law of Shrinks.
-/
import Derived.Test.YtaaffmbnhjaebaaGreatZQLw1xacde
import Derived.Test.YtaaffmbnhjaebaaGreatZQShrxe
set_option linter.unusedSimpArgs false
namespace Go.Proofs.YtaaffmbnhjaebaaGreat.Md
open Go.RowKit Go.Maps
open Go.Proofs.YtaaffmbnhjaebaaGreat.Ex (Lo Gives bl_drew bl_set block_lt take_one)
set_option maxHeartbeats 8000000
set_option linter.unusedVariables false
theorem zQLw4e_6 {p : Prop} (h : p := by have h := HR.out; exact bl) : p := h
theorem zQLw4e_1 {p : Prop} (h : p := by
 have HRW : Hid (Below w.heap.size w wr) := Lib.hid zQLw4e_6
 have HU2 : Hid (Below (w.alloc (.cells (cMdl x P) 26)).heap.size (w.alloc (.cells (cMdl x P) 26)) (wr.alloc (.cells (cMdl x P) 26))) := Lib.hid zQLw4e_6
 obtain ⟨j2, j3⟩ := FK2.out _ HU2.out
 have ldr := FM.out wr HR.out
 have st1 := fun (z : Array Value) (hz : z.size = 4) => put_C (bMdl) (cMdl_one x P) z (by rw [hz]; rfl)
 have st2 := fun (z : Array Value) (hz : z.size = 4) => put_V (bMdl) (cMdl_one x P) z (by rw [hz]; rfl)
 have st3 := fun (z : Array Value) (hz : z.size = 4) => put_A (bMdl) (cMdl_one x P) z (by rw [hz]; rfl)
 have q : Box (wr.alloc (.cells (cMdl x P) 26)) wr.heap.size 26 (cMdl x P) := Box.new
 have q2 := q.get (cMdl2 x P)
 have q4 := q.thaw (i := 2)
 have hq : (cMdl x P).setIfInBounds 2 (.slice (some ⟨b, o, none⟩) t P.sic) = cMdl { x with si := x.si.take t } { P with sim := t } := by rw [← HP.out]; rfl
 have ld6 : (loadCellsFrom ⟨wr.heap.size, 0, none⟩ 0 n4 #[]).run Tryz.prog (wr.alloc (.cells ((cMdl x P).setIfInBounds 2 (.slice (some ⟨b, o, none⟩) t P.sic)) 26)) = .ok (cMdl { x with si := x.si.take t } { P with sim := t }) (wr.alloc (.cells ((cMdl x P).setIfInBounds 2 (.slice (some ⟨b, o, none⟩) t P.sic)) 26)) := (show Box (wr.alloc (.cells ((cMdl x P).setIfInBounds 2 (.slice (some ⟨b, o, none⟩) t P.sic)) 26)) wr.heap.size 26 (cMdl { x with si := x.si.take t } { P with sim := t }) by rw [hq]; exact Box.new).cell.ldN (by rw [cMdl_size]; exact HN4.out)
 have CB := Lib.hid (fun W (hW : Below w.heap.size w W) => chkX_at HEE.out W ((HX.out.on hW).lessSi (show t ≤ P.sim by have h2 := HMS.out; have h3 := HT.out; omega)) (HF.out.lessSi t))
 have t7 : (e == e) = true := beq_self_eq_true e
 clear q hq
 go_wp2_with fail
 refine (CB.out _ zQLw4e_6).mono ?_
 rintro e2 wx ⟨rfl, hbx⟩
 have HXX : Hid (Below w.heap.size w wx) := Lib.hid (by have h := HRW.out; exact bl)
 go_wp2_with fail
 refine (awake_any _).mono ?_
 rintro e wz ⟨rfl, hbz⟩
 go_wp2_with fail
 go_ret
 exact ⟨rfl, by have h := HXX.out; exact bl⟩
 ) : p := h
theorem zQLw4e_4 {p : Prop} (h : p := by
 have HE2 : Hid ((5 : Int) = if (x.li.take (j + 1)).any (lnkN z.nm) then 5 else 0) := Lib.hid (by rw [HN.out]; simp)
 go_wp2_with fail
 try (go_quiet (fail); go_wp2_with fail)
 go_roundw
 case rel => first | exact ⟨5, j + 1, rfl, by omega, by go_num, Lib.hid zQLw4e_6, HE2⟩ | ((repeat apply Exists.intro); refine And.intro ?_ rfl; exact ⟨5, j + 1, rfl, by omega, by go_num, Lib.hid zQLw4e_6, HE2⟩)
 case measure => simp [intOf]; omega
 ) : p := h
theorem zQLw4e_2 {p : Prop} (h : p := by
 obtain ⟨e, j, rfl, hj, rfl, HR, HE⟩ := hrel
 have j0 : (0 : Int) ≤ (j : Int) := by omega
 have HRV : Hid (Below w.heap.size w wr) := Lib.hid zQLw4e_6
 obtain ⟨g2, g3⟩ := FK2.out wr HR.out
 rcases Nat.lt_or_ge j ml with h | h
 · have j1 : (j : Int) < (ml : Int) := by omega
   have hjl : j < x.li.length := by rw [HJL.out]; exact h
   obtain ⟨b3, o3, hp, hbG, hG, hcell⟩ := (HJ.out.on RLnk.map HRV.out).rows (by omega)
   obtain ⟨d, hds, hat, hR⟩ := hcell.out j hjl
   obtain ⟨l, hl⟩ : ∃ l, x.li[j] = l := ⟨_, rfl⟩
   have HLL := Lib.hid (show x.li[j]? = some l by rw [← hl]; exact List.getElem?_eq_getElem hjl)
   rw [hl] at hR
   obtain rfl : d = cLnk l := hR
   rw [hp] at g3
   have a0 := (hat.at HKL.out).get (r := 0) (v := .string l.fr) (cLnk0 l)
   have a1 := (hat.at HKL.out).get (r := 1) (v := .string l.tt) (cLnk1 l)
   rw [Nat.add_zero] at a0
   have b0 := FB.out wr HRV.out
   obtain ⟨r1, h1⟩ : ∃ r, (l.fr.toList == z.nm.toList) = r := ⟨_, rfl⟩
   obtain ⟨r2, h2⟩ : ∃ r, (l.tt.toList == z.nm.toList) = r := ⟨_, rfl⟩
   have HN := Lib.hid (show ((x.li.take (j + 1)).any (lnkN z.nm)) = ((x.li.take j).any (lnkN z.nm) || (r1 || r2)) by rw [take_one HLL.out, List.any_append, ← h1, ← h2, tx_is, tx_is]; simp [lnkN])
   clear hcell hds hat hjl hl hbG hG hp
   cases r1 with
   | true =>
    exact zQLw4e_4
   | false =>
    cases r2 with
    | true =>
     exact zQLw4e_4
    | false =>
     have HE2 : Hid (e = if (x.li.take (j + 1)).any (lnkN z.nm) then 5 else 0) := Lib.hid (by rw [HN.out, Bool.or_false, Bool.or_false]; exact HE.out)
     go_wp2_with fail
     try (go_quiet (fail); go_wp2_with fail)
     go_roundw
     case rel => first | exact ⟨e, j + 1, rfl, by omega, by go_num, Lib.hid zQLw4e_6, HE2⟩ | ((repeat apply Exists.intro); refine And.intro ?_ rfl; exact ⟨e, j + 1, rfl, by omega, by go_num, Lib.hid zQLw4e_6, HE2⟩)
     case measure => simp [intOf]; omega
 · have j1 : ¬ (j : Int) < (ml : Int) := by omega
   have HEE : Hid (mdlE { x with si := x.si.take t } = e) := Lib.hid (by rw [HEE.out, HE.out, List.take_of_length_le (by rw [HJL.out]; exact h)])
   clear hsz3 HKL
   exact zQLw4e_1
 ) : p := h
theorem zQLw4e_3 {p : Prop} (h : p := by
 intro w' hS'
 try dsimp only at hS'
 first | (go_simp; done) | (go_simp; with_reducible rfl)
 ) : p := h
theorem zQLw4e_5 {p : Prop} (h : p := by
 obtain ⟨e, j, rfl, hj, rfl, HR, HE⟩ := hrel
 have HEE : Hid (mdlE { x with si := x.si.take t } = e) := Lib.hid (by rw [HEE.out, HE.out])
 have j0 : (0 : Int) ≤ (j : Int) := by omega
 obtain ⟨g2, g3⟩ := FK2.out wr HR.out
 rcases Nat.lt_or_ge j ml with h | h
 · have j1 : (j : Int) < (ml : Int) := by omega
   exact zQLw4e_1
 · have j1 : ¬ (j : Int) < (ml : Int) := by omega
   exact zQLw4e_1
 ) : p := h
theorem zQLw4e_0 {p : Prop} (h : p := by
 clear g2 g3
 obtain ⟨g2, g3⟩ := FK2.out wc HC.out
 have HCW : Hid (Below w.heap.size w wc) := Lib.hid (by have h := HC.out; exact bl)
 have e12 := FA.out wc HCW.out
 rcases Nat.eq_zero_or_pos la with hl | hl
 rotate_left 1
 · obtain ⟨n, hn⟩ : ∃ n, la = n + 1 := ⟨la - 1, by omega⟩
   have y0 : decide (0 < (la : Int)) = true := decide_eq_true (by omega)
   have y1 : (0 : Int) < (la : Int) := by omega
   have y2 : IntKind.i64.wrap ((la : Int) - 1) = (n : Int) := by rw [IntKind.wrap_i64]; omega
   have y3 : (0 : Int) ≤ (n : Int) := by omega
   have y4 : (n : Int) ≤ (Q.lac : Int) := by omega
   have hnl : n ≤ Q.lam := by have h2 := HLA.out; omega
   have st1 := fun (z : Array Value) (hz : z.size = 4) => put_C (bMdl) (cMdl_one x P) z (by rw [hz]; rfl)
   have st2 := fun (z : Array Value) (hz : z.size = 4) => put_V (bMdl) (cMdl_one x P) z (by rw [hz]; rfl)
   have st3 := fun (z : Array Value) (hz : z.size = 4) => put_A (bMdl) (cMdl_one x P) z (by rw [hz]; rfl)
   have ldc := FM.out wc HC.out
   have hI : Rw 13 RSte (Lo wc.heap.size) wc x.si (some ⟨b, o, none⟩) ms := by have h := HI.out.on RSte.map HCW.out; rwa [HP.out] at h
   have hm16 : ms ≤ 16 := hms1
   obtain ⟨b2, c2, w3, hrun, hb2, hbw3, hbox, hown⟩ := copy_sites hI (c := P.sic) (by omega) (by omega) (cMdl x P) 26
   have HU2 : Hid (Below (w.alloc (.cells (cMdl x P) 26)).heap.size (w.alloc (.cells (cMdl x P) 26)) ((wc.alloc (.cells (cMdl x P) 26)).alloc (.cells #[] 42))) := Lib.hid (by have h := HC.out; exact bl)
   obtain ⟨k2, k3⟩ := FK2.out _ HU2.out
   have q2 := hbox.get (cMdl2 x P)
   have q4 := hbox.thaw (i := 2)
   have HBX := Lib.hid hbox
   have HOW := Lib.hid hown
   have HB3 : Hid (Below wc.heap.size wc w3) := Lib.hid hbw3
   have HB2' := Lib.hid hb2
   clear hI hm16 hbox hown hbw3 hb2 hn
   go_upto_region 12 with fail
   go_wp2_with (at_builtin; refine Lib.wpList_append_run _ rfl _ _ _ _ rfl _ _ rfl rfl _ _ hrun ?_)
   obtain ⟨w4, hw4⟩ : ∃ u, w3.setCell ⟨wc.heap.size, 2, none⟩ (.slice (some ⟨b2, 0, none⟩) ms c2) = u := ⟨_, rfl⟩
   have HX4 : Hid (Box w4 wc.heap.size 26 (cMdl x { P with sip := some ⟨b2, 0, none⟩, sim := ms, sic := c2 })) := Lib.hid (by rw [← hw4]; exact HBX.out.set 2 _)
   have HO4 : Hid (OwnL 42 13 RSte wc.heap.size w4 (.slice (some ⟨b2, 0, none⟩) ms c2) x.si) := Lib.hid (by rw [← hw4]; exact HOW.out.slotG RSte.map (Nat.le_refl _) (by have h := HB2'.out; simp [Value.ownBlock]; omega))
   have HB4 : Hid (Below wc.heap.size wc w4) := Lib.hid (by rw [← hw4]; exact bl_set HB3.out (Nat.le_refl _) _)
   rw [hw4]
   have HOd : Hid (OwnL 42 13 RSte wc.heap.size w4.drew (.slice (some ⟨b2, 0, none⟩) ms c2) x.si) := Lib.hid (HO4.out.on RSte.map (bl_drew (Below.refl _ _)) HB4.out.size)
   have hil : i < x.si.length := by have h := HIL.out; omega
   obtain ⟨b2', c2', he, -, hb2s, hfz, hsome, hset⟩ := HOd.out.setRow RSte.map sSte (by have h := HIL.out; have h2 := HMX16.out; omega) (by omega)
   obtain rfl : b2 = b2' := by injection he with h1 _ _; injection h1 with h1; injection h1
   obtain ⟨u0, hu0⟩ := Option.isSome_iff_exists.1 (hsome i 12 hil (by omega))
   have hk13 : i * 13 + 12 = i * kk + 12 := by rw [HKK.out]
   rw [hk13] at hu0
   have hf0 : w4.drew.frozen? ⟨b2, i * kk + 12, none⟩ = false := hfz _
   have hQla : Rw 3 RLw (Lo wc.heap.size) w4.drew y.la Q.lap Q.lam := (HQ.out.la.below RLw.map (show Below w.heap.size w w4.drew by have h := HCW.out; have h2 := HB4.out; exact bl)).mono RLw.map fun g hg _ => Nat.lt_of_lt_of_le hg HCW.out.size
   have hrow := hset i 12 (.slice Q.lap n Q.lac) { y with la := y.la.take n } hil (by omega) (by
    have hyi : x.si[i] = y := by have h := HY.out; rw [List.getElem?_eq_getElem hil] at h; exact Option.some.inj h
    rw [hyi]
    rintro C ⟨Q', rfl, hO⟩
    exact ⟨{ Q' with lap := Q.lap, lam := n, lac := Q.lac }, rfl, ⟨hO.va, hO.rs, hO.st, hO.be, hO.qu, hO.sm, hO.ta, hO.le, hO.co, hO.ro, hO.ss, hQla.take hnl⟩⟩)
   rw [hk13, HIL.out] at hrow
   obtain ⟨w5, hw5⟩ : ∃ u, (w4.setCell ⟨b2, i * kk + 12, none⟩ (.slice Q.lap n Q.lac)).drew = u := ⟨_, rfl⟩
   have hrow2 : Rw 13 RSte (Lo w4.heap.size) w5 (x.si.set i { y with la := y.la.take n }) (some ⟨b2, 0, none⟩) ms := by rw [← hw5]; exact hrow
   have hne : wc.heap.size ≠ b2 := by have h := HB2'.out; omega
   have HX5 : Hid (Box w5 wc.heap.size 26 (cMdl { x with si := x.si.set i { y with la := y.la.take n } } { P with sip := some ⟨b2, 0, none⟩, sim := ms, sic := c2 })) := Lib.hid (by rw [← hw5]; exact (Box.far (w := w4.drew) HX4.out hne))
   have HB5 : Hid (Below wc.heap.size wc w5) := Lib.hid (by rw [← hw5]; exact bl_drew (bl_set HB4.out (by have h := HB2'.out; show wc.heap.size ≤ b2; omega) _))
   have HW5 : Hid (Below w.heap.size w w5) := Lib.hid (by have h := HCW.out; have h2 := HB5.out; exact bl)
   have CC : Hid (Calls Tryz.prog 10 #[.agg (cMdl { x with si := x.si.set i { y with la := y.la.take n } } { P with sip := some ⟨b2, 0, none⟩, sim := ms, sic := c2 })] w5 (Gives (.int .i64 0) w5)) := Lib.hid (chkX_at (less_laws HV.out HY.out n) w5 ⟨(HX.out.on HW5.out).pa, hrow2.all RSte.map, (HX.out.on HW5.out).li⟩ (HF.out.lessLa HMy.out i n))
   have hS4 : (fun (W : World) => W.cell? ⟨wc.heap.size, 2, none⟩ = some (.slice (some ⟨b2, 0, none⟩) ms c2) ∧ W.cell? ⟨w.heap.size, 2, none⟩ = some (.slice (some ⟨b, o, none⟩) ms P.sic) ∧ W.cell? ⟨b, o + i * kk + 12, none⟩ = some (.slice Q.lap la Q.lac)) w4.drew := by
    refine ⟨HX4.out.get (r := 2) rfl, ?_, ?_⟩
    · exact (FK2.out w4 (by have h := HC.out; have h2 := HB4.out; exact bl)).1
    · exact FA.out w4 (by have h := HCW.out; have h2 := HB4.out; exact bl)
   have hS5 : (fun (W : World) => W.cell? ⟨wc.heap.size, 2, none⟩ = some (.slice (some ⟨b2, 0, none⟩) ms c2) ∧ W.cell? ⟨w.heap.size, 2, none⟩ = some (.slice (some ⟨b, o, none⟩) ms P.sic) ∧ W.cell? ⟨b, o + i * kk + 12, none⟩ = some (.slice Q.lap la Q.lac)) w5 := by
    refine ⟨HX5.out.get (r := 2) rfl, ?_, ?_⟩
    · exact (FK2.out w5 (by have h := HC.out; have h2 := HB5.out; exact bl)).1
    · exact FA.out w5 HW5.out
   have HS5 := Lib.hid hS5
   have HW5e := Lib.hid hw5
   have ld5 := HX5.out.cell.ldN (n := n4) (by rw [cMdl_size]; exact HN4.out)
   clear hrow hrow2 hQla hset hsome hfz hil hk13 hb2s he hw4 hw5 hrun q2 q4 k2 k3 st1 st2 st3 ldc g2 g3 e12 hS5 y0
   have zi : (0 : Nat) + i * kk = i * kk := Nat.zero_add _
   refine wp_region_held_drew (S := (fun (W : World) => W.cell? ⟨wc.heap.size, 2, none⟩ = some (.slice (some ⟨b2, 0, none⟩) ms c2) ∧ W.cell? ⟨w.heap.size, 2, none⟩ = some (.slice (some ⟨b, o, none⟩) ms P.sic) ∧ W.cell? ⟨b, o + i * kk + 12, none⟩ = some (.slice Q.lap la Q.lac))) (by kernel_rfl) (show ((fun (W : World) => W.cell? ⟨wc.heap.size, 2, none⟩ = some (.slice (some ⟨b2, 0, none⟩) ms c2) ∧ W.cell? ⟨w.heap.size, 2, none⟩ = some (.slice (some ⟨b, o, none⟩) ms P.sic) ∧ W.cell? ⟨b, o + i * kk + 12, none⟩ = some (.slice Q.lap la Q.lac))) _ from hS4) (fun hHeld => ?_)
   refine htake 0 ?_ (hy := ?_) (h := ?_)
   rotate_left 1
   · exact zQLw4e_3
   try simp only [Act.put, sA, sB, sC]
   refine htake 1 ?_ (hy := ?_) (h := ?_)
   rotate_left 1
   · exact zQLw4e_3
   try simp only [Act.put, sA, sB, sC]
   refine htake 2 ?_ (hy := ?_) (h := ?_)
   rotate_left 1
   · exact zQLw4e_3
   try simp only [Act.put, sA, sB, sC]
   refine htake 3 ?_ (hy := ?_) (h := ?_)
   rotate_left 1
   · exact zQLw4e_3
   try simp only [Act.put, sA, sB, sC]
   refine htake 4 ?_ (hy := ?_) (h := ?_)
   rotate_left 1
   · exact zQLw4e_3
   try simp only [Act.put, sA, sB, sC]
   refine htake 5 ?_ (hy := ?_) (h := ?_)
   rotate_left 1
   · exact zQLw4e_3
   try simp only [Act.put, sA, sB, sC]
   refine htake 6 ?_ (hy := ?_) (h := ?_)
   rotate_left 1
   · exact zQLw4e_3
   try simp only [Act.put, sA, sB, sC]
   refine htake 7 ?_ (hy := ?_) (h := ?_)
   rotate_left 1
   · exact zQLw4e_3
   try simp only [Act.put, sA, sB, sC]
   refine htake 8 ?_ (hy := ?_) (h := ?_)
   rotate_left 1
   · exact zQLw4e_3
   try simp only [Act.put, sA, sB, sC]
   refine htake 9 ?_ (hy := ?_) (h := ?_)
   rotate_left 1
   · exact zQLw4e_3
   try simp only [Act.put, sA, sB, sC]
   refine htake 10 ?_ (hy := ?_) (h := ?_)
   rotate_left 1
   · exact zQLw4e_3
   try simp only [Act.put, sA, sB, sC]
   refine htake 11 ?_ (hy := ?_) (h := ?_)
   rotate_left 1
   · exact zQLw4e_3
   try simp only [Act.put, sA, sB, sC]
   refine htake 12 ?_ (hy := ?_) (h := ?_)
   rotate_left 1
   · exact zQLw4e_3
   try simp only [Act.put, sA, sB, sC]
   refine htake 13 ?_ (hy := ?_) (h := ?_)
   rotate_left 1
   · exact zQLw4e_3
   try simp only [Act.put, sA, sB, sC]
   refine hcall 14 (fun K hK => ?_)
   go_simp
   clear hHeld
   rw [HW5e.out]
   refine hK.out _ _ (show ((fun (W : World) => W.cell? ⟨wc.heap.size, 2, none⟩ = some (.slice (some ⟨b2, 0, none⟩) ms c2) ∧ W.cell? ⟨w.heap.size, 2, none⟩ = some (.slice (some ⟨b, o, none⟩) ms P.sic) ∧ W.cell? ⟨b, o + i * kk + 12, none⟩ = some (.slice Q.lap la Q.lac))) _ from HS5.out) (fun hHeld => ?_)
   clear hK K
   (try simp only [Act.put, sA, sB, sC])
   refine wpAnyH_done (by kernel_rfl) ?_ _
   try (refine NoPanic.normal ?_)
   clear hHeld hS4 hu0 hf0 zi
   go_wp2_with fail
   refine CC.out.mono ?_
   rintro e wd ⟨rfl, hbd⟩
   have HD : Hid (Below (w.alloc (.cells (cMdl x P) 26)).heap.size (w.alloc (.cells (cMdl x P) 26)) wd) := Lib.hid (by have h := HC.out; have h2 := HB5.out; exact bl)
   clear hbd ld5 y1 y2 y3 y4 hnl hne
   obtain ⟨g2, g3⟩ := FK2.out wd HD.out
   rcases Nat.eq_zero_or_pos t with hz | hz
   · have x0 : ((t : Int) == 0) = true := by rw [hz]; rfl
     have x1 : decide (0 < (t : Int)) = false := decide_eq_false (by omega)
     have x2 : ¬ (0 : Int) < (t : Int) := by omega
     have HEE : Hid (mdlE { x with si := x.si.take t } = 7) := Lib.hid (by rw [HLS.out, if_pos hz])
     clear hz
     go_wp2_with fail
     go_loopw [10, 11] (fun v i wr => ∃ (e : Int) (j : Nat), v = .int .i64 e ∧ j ≤ ml ∧ i = .int .i64 (j : Nat) ∧ Hid (Below (w.alloc (.cells (cMdl x P) 26)).heap.size (w.alloc (.cells (cMdl x P) 26)) wr) ∧ Hid (e = 7)) (fun _ i _ => ml - (intOf i).toNat)
     case atStart => exact ⟨7, 0, rfl, Nat.zero_le _, rfl, HD, Lib.hid rfl⟩
     case round =>
      exact zQLw4e_5
   · have x0 : ((t : Int) == 0) = false := beq_eq_false_iff_ne.2 (by omega)
     have x1 : decide (0 < (t : Int)) = true := decide_eq_true (by omega)
     have x2 : (0 : Int) < (t : Int) := by omega
     have HEE : Hid (mdlE { x with si := x.si.take t } = if x.li.any (lnkN z.nm) then 5 else 0) := Lib.hid (by rw [HLS.out, if_neg (by omega)])
     obtain ⟨kl, hkl⟩ : ∃ n : Nat, 3 = n := ⟨_, rfl⟩
     have hsz3 : ∀ w, (sizeOf 49).run Tryz.prog w = .ok kl w := fun w => by rw [Tryz.sizeOf49, hkl]
     have HKL := Lib.hid hkl
     clear hz hkl
     go_wp2_with fail
     go_loopw [10, 11] (fun v i wr => ∃ (e : Int) (j : Nat), v = .int .i64 e ∧ j ≤ ml ∧ i = .int .i64 (j : Nat) ∧ Hid (Below (w.alloc (.cells (cMdl x P) 26)).heap.size (w.alloc (.cells (cMdl x P) 26)) wr) ∧ Hid (e = if (x.li.take j).any (lnkN z.nm) then 5 else 0)) (fun _ i _ => ml - (intOf i).toNat)
     case atStart => exact ⟨0, 0, rfl, Nat.zero_le _, rfl, HD, Lib.hid rfl⟩
     case round =>
      exact zQLw4e_2
 · have y0 : decide (0 < (la : Int)) = false := decide_eq_false (by omega)
   have y1 : ¬ (0 : Int) < (la : Int) := by omega
   rcases Nat.eq_zero_or_pos t with hz | hz
   · have x0 : ((t : Int) == 0) = true := by rw [hz]; rfl
     have x1 : decide (0 < (t : Int)) = false := decide_eq_false (by omega)
     have x2 : ¬ (0 : Int) < (t : Int) := by omega
     have HEE : Hid (mdlE { x with si := x.si.take t } = 7) := Lib.hid (by rw [HLS.out, if_pos hz])
     clear hz
     go_wp2_with fail
     go_loopw [10, 11] (fun v i wr => ∃ (e : Int) (j : Nat), v = .int .i64 e ∧ j ≤ ml ∧ i = .int .i64 (j : Nat) ∧ Hid (Below (w.alloc (.cells (cMdl x P) 26)).heap.size (w.alloc (.cells (cMdl x P) 26)) wr) ∧ Hid (e = 7)) (fun _ i _ => ml - (intOf i).toNat)
     case atStart => exact ⟨7, 0, rfl, Nat.zero_le _, rfl, HC, Lib.hid rfl⟩
     case round =>
      exact zQLw4e_5
   · have x0 : ((t : Int) == 0) = false := beq_eq_false_iff_ne.2 (by omega)
     have x1 : decide (0 < (t : Int)) = true := decide_eq_true (by omega)
     have x2 : (0 : Int) < (t : Int) := by omega
     have HEE : Hid (mdlE { x with si := x.si.take t } = if x.li.any (lnkN z.nm) then 5 else 0) := Lib.hid (by rw [HLS.out, if_neg (by omega)])
     obtain ⟨kl, hkl⟩ : ∃ n : Nat, 3 = n := ⟨_, rfl⟩
     have hsz3 : ∀ w, (sizeOf 49).run Tryz.prog w = .ok kl w := fun w => by rw [Tryz.sizeOf49, hkl]
     have HKL := Lib.hid hkl
     clear hz hkl
     go_wp2_with fail
     go_loopw [10, 11] (fun v i wr => ∃ (e : Int) (j : Nat), v = .int .i64 e ∧ j ≤ ml ∧ i = .int .i64 (j : Nat) ∧ Hid (Below (w.alloc (.cells (cMdl x P) 26)).heap.size (w.alloc (.cells (cMdl x P) 26)) wr) ∧ Hid (e = if (x.li.take j).any (lnkN z.nm) then 5 else 0)) (fun _ i _ => ml - (intOf i).toNat)
     case atStart => exact ⟨0, 0, rfl, Nat.zero_le _, rfl, HC, Lib.hid rfl⟩
     case round =>
      exact zQLw4e_2
 ) : p := h
set_option maxRecDepth 100000 in
theorem modelShrinks_walk (x : Mdl) (P : PMdl) (k : Int) (hk : 0 ≤ k ∧ k ≤ 255) (w : World) (hx : OMdl (Lo w.heap.size) w x P) (hf : Fit x) (hc : Caps w P) : Calls Tryz.prog 7 #[.agg (cMdl x P), .int .u8 k] w (Gives (.bool true) w) := by
 have HX := Lib.hid hx
 have HI := Lib.hid hx.si
 have HJ := Lib.hid hx.li
 obtain ⟨hil, him⟩ := hx.si.len
 obtain ⟨hjl, hjm⟩ := hx.li.len
 have HNw := Lib.hid hf.n
 have FX := far (w := w) 26 (cMdl x P)
 obtain ⟨n4, hn4⟩ : ∃ n : Nat, 4 = n := ⟨_, rfl⟩
 have hsz4 : ∀ w, (sizeOf 26).run Tryz.prog w = .ok n4 w := fun w => by rw [Tryz.sizeOf26, hn4]
 have HN4 := Lib.hid hn4
 obtain ⟨ms, hms⟩ : ∃ n, P.sim = n := ⟨_, rfl⟩
 obtain ⟨ml, hml⟩ : ∃ n, P.lim = n := ⟨_, rfl⟩
 have FM : Hid (∀ W, Below (w.alloc (.cells (cMdl x P) 26)).heap.size (w.alloc (.cells (cMdl x P) 26)) W → (loadCellsFrom ⟨w.heap.size, 0, none⟩ 0 n4 #[]).run Tryz.prog W = .ok (cMdl x P) W) := Lib.hid fun W hb => (FX.out W hb).cell.ldN (by rw [cMdl_size]; exact hn4)
 have FK : Hid (∀ W, Below (w.alloc (.cells (cMdl x P) 26)).heap.size (w.alloc (.cells (cMdl x P) 26)) W → W.cell? ⟨w.heap.size, 2, none⟩ = some (.slice P.sip ms P.sic) ∧ W.cell? ⟨w.heap.size, 3, none⟩ = some (.slice P.lip ml P.lic)) := Lib.hid fun W hb => ⟨by rw [← hms]; exact (FX.out W hb).get (cMdl2 x P), by rw [← hml]; exact (FX.out W hb).get (cMdl3 x P)⟩
 rw [hms] at hil him HI
 rw [hml] at hjl hjm HJ
 have HIL := Lib.hid hil
 have HJL := Lib.hid hjl
 have ld0 := FM.out (w.alloc (.cells (cMdl x P) 26)) (Below.refl _ _)
 obtain ⟨lb, hlb⟩ : ∃ b, lightB x = b := ⟨_, rfl⟩
 obtain ⟨v, hv⟩ : ∃ v, mdlE x = v := ⟨_, rfl⟩
 have CL := Lib.hid (fun W (hW : Below w.heap.size w W) => light_at hlb W (HX.out.on hW) hf)
 have C1 := Lib.hid (fun W (hW : Below w.heap.size w W) => chkX_at hv W (HX.out.on hW) hf)
 have HML := Lib.hid hml
 have HMS := Lib.hid hms
 have t3 : (ms : Int) ≤ 9223372036854775807 := by omega
 have t4 : (ml : Int) ≤ 9223372036854775807 := by omega
 have HV := Lib.hid hv
 have HF := Lib.hid hf
 have HCP := Lib.hid hc
 clear hx hf hc hn4 hlb hv hil him hjl hjm hms hml
 cases lb with
 | false =>
  go_enter Tryz.func7, Tryz.ntmps7
  go_wp2_with fail
  refine (CL.out _ bl).mono ?_
  rintro e w1 ⟨rfl, hb1⟩
  have HB1 : Hid (Below (w.alloc (.cells (cMdl x P) 26)).heap.size (w.alloc (.cells (cMdl x P) 26)) w1) := Lib.hid bl
  go_wp2_with fail
  refine (awake_any _).mono ?_
  rintro e wz ⟨rfl, hbz⟩
  go_wp2_with fail
  go_ret
  exact ⟨rfl, by have h := HB1.out; exact bl⟩
 | true =>
  go_enter Tryz.func7, Tryz.ntmps7
  go_wp2_with fail
  refine (CL.out _ bl).mono ?_
  rintro e w1 ⟨rfl, hb1⟩
  have HB1 : Hid (Below (w.alloc (.cells (cMdl x P) 26)).heap.size (w.alloc (.cells (cMdl x P) 26)) w1) := Lib.hid bl
  have ld1 := FM.out w1 HB1.out
  clear ld0 hb1
  by_cases hv0 : v = 0
  rotate_left 1
  · have t1 : (v != 0) = true := bne_iff_ne.2 hv0
    go_wp2_with fail
    refine (C1.out _ (by have h := HB1.out; exact bl)).mono ?_
    rintro e w2 ⟨rfl, hb2⟩
    have HB2 : Hid (Below (w.alloc (.cells (cMdl x P) 26)).heap.size (w.alloc (.cells (cMdl x P) 26)) w2) := Lib.hid (by have h := HB1.out; exact bl)
    go_wp2_with fail
    refine (awake_any _).mono ?_
    rintro e wz ⟨rfl, hbz⟩
    go_wp2_with fail
    go_ret
    exact ⟨rfl, by have h := HB2.out; exact bl⟩
  subst hv0
  have HM := Lib.hid (mdlE_zero.1 HV.out)
  obtain ⟨hms0, hms1, -, -⟩ := sites_ok HM.out.2.2.1
  rw [HIL.out] at hms0 hms1
  have HMX16 := Lib.hid hms1
  have z0 : ((ms : Int) == 0) = false := beq_eq_false_iff_ne.2 (by omega)
  have z1 : ¬ (ms : Int) = 0 := by omega
  obtain ⟨i, hi⟩ : ∃ i : Nat, k.toNat % ms = i := ⟨_, rfl⟩
  have hims : i < ms := by rw [← hi]; exact Nat.mod_lt _ (by omega)
  have hrem : Int.tmod k (ms : Int) = (i : Int) := by
   rw [← hi]
   obtain ⟨q, rfl⟩ : ∃ q : Nat, k = (q : Int) := ⟨k.toNat, by omega⟩
   rfl
  have hkw : IntKind.i64.wrap k = k := by rw [IntKind.wrap_i64]; omega
  have i0 : (0 : Int) ≤ (i : Int) := by omega
  have i1 : (i : Int) < (ms : Int) := by omega
  clear hi
  go_wp2_with fail
  refine (C1.out _ (by have h := HB1.out; exact bl)).mono ?_
  rintro e w2 ⟨rfl, hb2⟩
  have HB2 : Hid (Below (w.alloc (.cells (cMdl x P) 26)).heap.size (w.alloc (.cells (cMdl x P) 26)) w2) := Lib.hid (by have h := HB1.out; exact bl)
  have ld2 := FM.out w2 HB2.out
  obtain ⟨g2, g3⟩ := FK.out w2 HB2.out
  clear ld1 hb2
  obtain ⟨kk, hkk⟩ : ∃ n : Nat, 13 = n := ⟨_, rfl⟩
  have hsz13 : ∀ w, (sizeOf 42).run Tryz.prog w = .ok kk w := fun w => by rw [Tryz.sizeOf42, hkk]
  have HKK := Lib.hid hkk
  clear hkk
  obtain ⟨b, o, hp, hbG, hG, hcell⟩ := HI.out.rows (by omega)
  have hil : i < x.si.length := by rw [HIL.out]; exact hims
  obtain ⟨d, hds, hat, hR⟩ := hcell.out i hil
  obtain ⟨y, hy⟩ : ∃ y, x.si[i] = y := ⟨_, rfl⟩
  have HY := Lib.hid (show x.si[i]? = some y by rw [← hy]; exact List.getElem?_eq_getElem hil)
  have HMy := Lib.hid (show y ∈ x.si by rw [← hy]; exact List.getElem_mem hil)
  rw [hy] at hR
  obtain ⟨Q, rfl, hQ⟩ := hR
  have HQ := Lib.hid hQ
  have HBL := Lib.hid hG
  have a12 := (hat.at HKK.out).get (r := 12) (v := .slice Q.lap Q.lam Q.lac) (cSte12 y Q)
  obtain ⟨la, hla⟩ : ∃ n, Q.lam = n := ⟨_, rfl⟩
  have HLA := Lib.hid hla
  have hlc : la ≤ Q.lac := by
   have h := HCP.out.la ⟨b, o, none⟩ hp i (by have := HMS.out; omega) Q.lap Q.lam Q.lac (by rw [Ex.add_off, Ex.add_off]; exact hat.get (r := 12) (v := .slice Q.lap Q.lam Q.lac) (cSte12 y Q))
   omega
  have hlb : (la : Int) ≤ 9223372036854775807 := by have := hQ.la.len.2; omega
  rw [hla] at a12
  have FA : Hid (∀ W, Below w.heap.size w W → W.cell? ⟨b, o + i * kk + 12, none⟩ = some (.slice Q.lap la Q.lac)) := Lib.hid fun W hW => (hW.cell (p := ⟨b, o + i * kk + 12, none⟩) (block_lt a12)).trans a12
  obtain ⟨t, ht⟩ : ∃ t, ms = t + 1 := ⟨ms - 1, by omega⟩
  have htl : t < x.si.length := by rw [HIL.out]; omega
  obtain ⟨d2, hds2, hat2, hR2⟩ := hcell.out t htl
  obtain ⟨z, hz⟩ : ∃ z, x.si[t] = z := ⟨_, rfl⟩
  have HZ := Lib.hid (show x.si[t]? = some z by rw [← hz]; exact List.getElem?_eq_getElem htl)
  rw [hz] at hR2
  obtain ⟨R2, rfl, hQ2⟩ := hR2
  have b0 := (hat2.at HKK.out).get (r := 0) (v := .string z.nm) (cSte0 z R2)
  rw [Nat.add_zero] at b0
  have FB : Hid (∀ W, Below w.heap.size w W → W.cell? ⟨b, o + t * kk, none⟩ = some (.string z.nm)) := Lib.hid fun W hW => (hW.cell (p := ⟨b, o + t * kk, none⟩) (block_lt b0)).trans b0
  have HLS := Lib.hid (less_site HV.out HZ.out (by rw [HIL.out]; exact ht))
  have HT := Lib.hid ht
  have FK2 : Hid (∀ W, Below (w.alloc (.cells (cMdl x P) 26)).heap.size (w.alloc (.cells (cMdl x P) 26)) W → W.cell? ⟨w.heap.size, 2, none⟩ = some (.slice (some ⟨b, o, none⟩) ms P.sic) ∧ W.cell? ⟨w.heap.size, 3, none⟩ = some (.slice P.lip ml P.lic)) := Lib.hid fun W hW => by have h := FK.out W hW; rw [hp] at h; exact h
  have HP := Lib.hid hp
  have u1 : IntKind.i64.wrap ((ms : Int) - 1) = (t : Int) := by rw [IntKind.wrap_i64]; omega
  have u2 : (0 : Int) ≤ (t : Int) := by omega
  have u3 : (t : Int) < (ms : Int) := by omega
  have u4 : (t : Int) ≤ (P.sic : Int) := by have h := HCP.out.si; have h2 := HMS.out; omega
  clear hcell hds hat hy hil hQ hbG hG hp a12 hla ht htl hds2 hat2 hz hQ2 b0 g2
  have g2 := (FK2.out w2 HB2.out).1
  rcases Nat.eq_zero_or_pos ml with hl | hl
  rotate_left 1
  · obtain ⟨n, hn⟩ : ∃ n, ml = n + 1 := ⟨ml - 1, by omega⟩
    have y0 : decide (0 < (ml : Int)) = true := decide_eq_true (by omega)
    have y1 : (0 : Int) < (ml : Int) := by omega
    have y2 : IntKind.i64.wrap ((ml : Int) - 1) = (n : Int) := by rw [IntKind.wrap_i64]; omega
    have y3 : (0 : Int) ≤ (n : Int) := by omega
    have y4 : (n : Int) ≤ (P.lic : Int) := by have h := HCP.out.li; have h2 := HML.out; omega
    have hnl : n ≤ P.lim := by have h2 := HML.out; omega
    have st1 := fun (z : Array Value) (hz : z.size = 4) => put_C (bMdl) (cMdl_one x P) z (by rw [hz]; rfl)
    have st2 := fun (z : Array Value) (hz : z.size = 4) => put_V (bMdl) (cMdl_one x P) z (by rw [hz]; rfl)
    have st3 := fun (z : Array Value) (hz : z.size = 4) => put_A (bMdl) (cMdl_one x P) z (by rw [hz]; rfl)
    have HU : Hid (Below (w.alloc (.cells (cMdl x P) 26)).heap.size (w.alloc (.cells (cMdl x P) 26)) (w2.alloc (.cells (cMdl x P) 26))) := Lib.hid (by have h := HB2.out; exact bl)
    obtain ⟨j2, j3⟩ := FK2.out _ HU.out
    have q : Box (w2.alloc (.cells (cMdl x P) 26)) w2.heap.size 26 (cMdl x P) := Box.new
    have q3 := q.get (cMdl3 x P)
    have q4 := q.thaw (i := 3)
    have ld5 : (loadCellsFrom ⟨w2.heap.size, 0, none⟩ 0 n4 #[]).run Tryz.prog (w2.alloc (.cells ((cMdl x P).setIfInBounds 3 (.slice P.lip n P.lic)) 26)) = .ok (cMdl { x with li := x.li.take n } { P with lim := n }) (w2.alloc (.cells ((cMdl x P).setIfInBounds 3 (.slice P.lip n P.lic)) 26)) := (show Box (w2.alloc (.cells ((cMdl x P).setIfInBounds 3 (.slice P.lip n P.lic)) 26)) w2.heap.size 26 (cMdl { x with li := x.li.take n } { P with lim := n }) from Box.new).cell.ldN (by rw [cMdl_size]; exact HN4.out)
    have CA := Lib.hid (fun W (hW : Below w.heap.size w W) => chkX_at (less_links HV.out n) W ((HX.out.on hW).lessLi hnl) (HF.out.lessLi n))
    clear q hn hnl
    go_wp2_with fail
    refine (CA.out _ (by have h := HB2.out; exact bl)).mono ?_
    rintro e wc ⟨rfl, hb3⟩
    have HC : Hid (Below (w.alloc (.cells (cMdl x P) 26)).heap.size (w.alloc (.cells (cMdl x P) 26)) wc) := Lib.hid (by have h := HU.out; have h2 := HB2.out; exact bl)
    clear hb3 ld5 q3 q4 st1 st2 st3 y0 y1 y2 y3 y4 j2 j3 g2 g3 ld2
    clear hl
    obtain ⟨g2, g3⟩ := FK2.out wc HC.out
    exact zQLw4e_0
  · have y0 : decide (0 < (ml : Int)) = false := decide_eq_false (by omega)
    have y1 : ¬ (0 : Int) < (ml : Int) := by omega
    obtain ⟨wc, rfl⟩ : ∃ u, u = w2 := ⟨_, rfl⟩
    have HC := HB2
    go_upto_region 8 with fail
    clear hl y0 y1 ld2
    exact zQLw4e_0
end Go.Proofs.YtaaffmbnhjaebaaGreat.Md
