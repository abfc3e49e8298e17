/-
  The contracts of Distinct, of the library and of the reference.
-/
import Derived.Test.YtgepgdndhnoanaaNmFind
import Derived.Test.YtgepgdndhnoanaaNmRCheck
namespace Go.Proofs.Ytgepgdndhnoanaa.Na
open Go.RowKit Go.Maps
set_option maxHeartbeats 2000000
theorem dcheck_at {s : ByteArray} {x : Int} (h : chk (bs s) = x) (hs : s.size ≤ 9223372036854775807) (w : World) : Calls Try.prog 11 #[.string s] w (Gives (.int .i64 x) w) := by rw [← h]; exact check_any s w hs
theorem drcheck_at {s : ByteArray} {x : Int} (h : chk (bs s) = x) (hs : s.size ≤ 9223372036854775807) (w : World) : Calls Try.prog 12 #[.string s] w (Gives (.int .i64 x) w) := by rw [← h]; exact rcheck_any s w hs
theorem chk_cases' (l : List UInt8) : chk l = 0 ∨ chk l = 3 := by unfold chk; split <;> simp
/-- Of the first k places each holds a valid name that stands nowhere before. -/
def AllOk (l : List ByteArray) (k : Nat) : Prop := ∀ j, j < k → okB l j = true
theorem allok_zero {l : List ByteArray} : AllOk l 0 := fun _ hj => absurd hj (Nat.not_lt_zero _)
theorem allok_step {l : List ByteArray} {k : Nat} (hk : k < l.length) (h : AllOk l k) (h1 : nameB (bs l[k]) = true) (h2 : fst l l[k] = (k : Int)) : AllOk l (k + 1) := by
  intro j hj
  rcases Nat.lt_or_ge j k with h3 | h3
  · exact h j h3
  · obtain rfl : j = k := by omega
    rw [okB_at hk, h1, decide_eq_true h2]; rfl
set_option maxRecDepth 100000 in
theorem rdist_any (p : Option Addr) (n c : Nat) (l : List ByteArray) (w : World) (hb : Strs w p n l) (hz : Hid (∀ x ∈ l, x.size ≤ 9223372036854775807)) : Calls Try.prog 16 #[.slice p n c] w (Gives (.int .i64 (dst l)) w) := by
  have HB := Lib.hid hb
  have HL := Lib.hid hb.1
  have hn : (n : Int) ≤ 9223372036854775807 := by have := hb.2.1; omega
  clear hb
  go_enter Try.func16, Try.ntmps16
  go_wp2_with fail
  go_loopw [3] (fun i wr => ∃ k : Nat, k ≤ n ∧ i = .int .i64 (k : Nat) ∧ Hid (AllOk l k) ∧ Hid (Below w.heap.size w wr)) (fun i _ => n - (intOf i).toNat)
  case atStart => exact ⟨0, Nat.zero_le _, rfl, Lib.hid allok_zero, Lib.hid (Below.refl _ _)⟩
  case round =>
    obtain ⟨k, hk, rfl, HA, HW⟩ := hrel
    have d1 : (0 : Int) ≤ (k : Int) := by omega
    rcases Nat.lt_or_ge k n with h | h
    · have hkl : k < l.length := by rw [HL.out]; exact h
      have HS := Lib.hid (HB.out.on HW.out)
      obtain ⟨-, -, h0 | ⟨b, o, rfl, hb, hcell⟩⟩ := HB.out.on HW.out
      · omega
      · have e1 := hcell.out k hkl
        have hx := hz.out _ (List.getElem_mem hkl)
        have d2 : (k : Int) < (n : Int) := by omega
        rcases chk_cases' (bs l[k]) with h1 | h1
        · have HY := Lib.hid (allok_step hkl HA.out (chk_ok.1 h1))
          have HT := Lib.hid (dst_twice hkl HA.out (chk_ok.1 h1))
          have HF := Lib.hid (fst_self hkl)
          obtain ⟨x, ex⟩ : ∃ x, l[k] = x := ⟨_, rfl⟩
          rw [ex] at e1 h1 hx HY HT HF
          obtain ⟨f, ef⟩ : ∃ f, fst l x = f := ⟨_, rfl⟩
          have HFe := Lib.hid ef
          rw [ef] at HY HT HF
          clear hcell ex hkl ef
          by_cases g : f < (k : Int)
          · have q : decide (f < (k : Int)) = true := decide_eq_true g
            have HR := Lib.hid (HT.out g)
            clear g HY HT
            go_wp2_with fail
            refine (drcheck_at h1 hx wr).mono ?_
            rintro e w2 ⟨rfl, hb2⟩
            have e2 := (hb2.cell (p := ⟨b, o + k, none⟩) hb).trans e1
            go_wp2_with fail
            refine (rfind_any _ n c l x w2 (HS.out.on hb2)).mono ?_
            rintro e w3 ⟨rfl, rfl⟩
            rw [HFe.out]
            go_wp2_with fail
            go_ret
            exact ⟨ret_int HR.out.symm, by have HBB := HW.out; (repeat (first | (with_reducible exact Below.refl _ _) | (with_reducible assumption) | (with_reducible apply bl_alloc) | (with_reducible apply bl_drewN) | (with_reducible apply bl_drew) | (with_reducible refine bl_set ?_ (by first | (simp; done) | (simp; omega)) _) | (with_reducible refine bl_call ?_ (by assumption))))⟩
          · have q : decide (f < (k : Int)) = false := decide_eq_false g
            have HR := Lib.hid (HY.out (by have := HF.out; omega))
            clear g HY HT
            go_wp2_with fail
            refine (drcheck_at h1 hx wr).mono ?_
            rintro e w2 ⟨rfl, hb2⟩
            have HW2 : Hid (Below w.heap.size w w2) := Lib.hid (by have HBB := HW.out; (repeat (first | (with_reducible exact Below.refl _ _) | (with_reducible assumption) | (with_reducible apply bl_alloc) | (with_reducible apply bl_drewN) | (with_reducible apply bl_drew) | (with_reducible refine bl_set ?_ (by first | (simp; done) | (simp; omega)) _) | (with_reducible refine bl_call ?_ (by assumption)))))
            have e2 := (hb2.cell (p := ⟨b, o + k, none⟩) hb).trans e1
            go_wp2_with fail
            refine (rfind_any _ n c l x w2 (HS.out.on hb2)).mono ?_
            rintro e w3 ⟨rfl, rfl⟩
            rw [HFe.out]
            go_wp2_with fail
            go_roundw
            case rel => exact ⟨k + 1, by omega, by go_num, HR, HW2⟩
            case measure => simp [intOf]; omega
        · have HR := Lib.hid (dst_name hkl HA.out (by rw [← Bool.not_eq_true, ← chk_ok, h1]; decide))
          obtain ⟨x, ex⟩ : ∃ x, l[k] = x := ⟨_, rfl⟩
          rw [ex] at e1 h1 hx
          clear hcell ex hkl
          go_wp2_with fail
          refine (drcheck_at h1 hx wr).mono ?_
          rintro e w2 ⟨rfl, hb2⟩
          go_wp2_with fail
          go_ret
          exact ⟨ret_int HR.out.symm, by have HBB := HW.out; (repeat (first | (with_reducible exact Below.refl _ _) | (with_reducible assumption) | (with_reducible apply bl_alloc) | (with_reducible apply bl_drewN) | (with_reducible apply bl_drew) | (with_reducible refine bl_set ?_ (by first | (simp; done) | (simp; omega)) _) | (with_reducible refine bl_call ?_ (by assumption))))⟩
    · obtain rfl : n = k := by omega
      have HR := Lib.hid (dst_ok (fun j hj => HA.out j (by rw [HL.out] at hj; exact hj)))
      go_wp2_with fail
      go_ret
      exact ⟨ret_int HR.out.symm, HW.out⟩
theorem law : Keyed Try.prog 9 := string_keyed Try.underlying9
theorem zero_bool (w : World) : (zeroValue 4).run Try.prog w = .ok (.bool false) w := by kernel_rfl
theorem plain_bool {H : Type} {v : Value} {z : DataW H × List MemPlace} (h : plainElem Try.prog 4 v = some z) : ∃ c, v = .bool c ∧ z = (.lit (.bool c), []) := by
  unfold plainElem at h
  rw [Try.underlying4] at h
  cases v <;> simp at h
  exact ⟨_, rfl, h.symm⟩
theorem look_bool {w : World} {b n : Nat} {D : DataW Unit} {x : ByteArray} {kl : Lit} (h : w.ownsMap Try.prog 9 (plainElem Try.prog 4) b n D) (hkey : keyOf Try.prog 9 (.string x) = some kl) :
    ∃ c, (Instr.lookup 39 (.map (some b)) (.string x) false).run Try.prog w = .ok (.bool c) w ∧ D.atKey kl (.lit (.bool false)) = .lit (.bool c) := by
  obtain ⟨v, ps, hrun, hv⟩ := h.lookup law Try.underlying39 (zero_bool w) (plainElem_bool Try.underlying4 false) hkey
  obtain ⟨c, rfl, hc⟩ := plain_bool hv
  simp only [Prod.mk.injEq] at hc
  exact ⟨c, hrun, hc.1⟩
theorem fold_in {u z : DataW Unit} {k : Lit} : ∀ {acc : List Lit} {m : DataW Unit}, IsMap m → (∀ x ∈ acc, WideAt.IsKeyLit x) → k ∈ acc → (acc.foldl (fun m x => m.put x u) m).atKey k z = u
  | [], m, _, _, h => by simp at h
  | x :: t, m, hm, ha, h => by
    rw [List.foldl_cons]
    by_cases g : k ∈ t
    · exact fold_in (hm.put x u) (fun y hy => ha y (by simp [hy])) g
    · obtain rfl : k = x := by rcases List.mem_cons.1 h with h | h; exact h; exact absurd h g
      have hk := ha k (by simp)
      have ha' : ∀ y ∈ t, WideAt.IsKeyLit y := fun y hy => ha y (by simp [hy])
      have out : ∀ {acc : List Lit} {m : DataW Unit}, k ∉ acc → (acc.foldl (fun m x => m.put x u) m).atKey k z = m.atKey k z := by
        intro acc
        induction acc with
        | nil => intro m _; rfl
        | cons y r ih => intro m hn; rw [List.foldl_cons, ih (fun hh => hn (by simp [hh])), atKey_put_other (fun e => hn (by simp [e]))]
      rw [out g, atKey_put_same hm hk]
theorem fold_out {u z : DataW Unit} {k : Lit} : ∀ {acc : List Lit} {m : DataW Unit}, k ∉ acc → (acc.foldl (fun m x => m.put x u) m).atKey k z = m.atKey k z := by
  intro acc
  induction acc with
  | nil => intro m _; rfl
  | cons y r ih => intro m hn; rw [List.foldl_cons, ih (fun hh => hn (by simp [hh])), atKey_put_other (fun e => hn (by simp [e]))]
def keyL (x : ByteArray) : Lit := .string (bs x)
theorem key_lit (x : ByteArray) : WideAt.IsKeyLit (keyL x) := by unfold keyL; simp [WideAt.IsKeyLit]
theorem key_name {x : ByteArray} (h : nameB (bs x) = true) : keyOf Try.prog 9 (.string x) = some (keyL x) := by
  refine Go.WideMaps.keyOf_string_mk Try.underlying9 ?_
  have := (name_iff.1 h).2.1
  rw [bs_len] at this
  unfold maxLen
  omega
/-- The map behind k rounds. -/
def Dk (l : List ByteArray) (k : Nat) : DataW Unit := setOf (.lit (.bool true)) ((l.take k).map keyL)
theorem Dk_step {l : List ByteArray} {k : Nat} (hk : k < l.length) : (Dk l k).put (keyL l[k]) (.lit (.bool true)) = Dk l (k + 1) := by
  unfold Dk
  rw [List.take_succ_eq_append_getElem hk, List.map_append, List.map_cons, List.map_nil, setOf_snoc]
theorem Dk_yes {l : List ByteArray} {k : Nat} (hk : k < l.length) (h : (Dk l k).atKey (keyL l[k]) (.lit (.bool false)) = .lit (.bool true)) : fst l l[k] < (k : Int) := by
  by_cases g : keyL l[k] ∈ (l.take k).map keyL
  · obtain ⟨y, hy, e⟩ := List.mem_map.1 g
    obtain ⟨j, hj, rfl⟩ := List.getElem_of_mem hy
    rw [List.length_take] at hj
    rw [List.getElem_take] at e
    have e2 : bs (l[j]'(by omega)) = bs l[k] := by unfold keyL at e; exact Lit.string.inj e
    exact fst_earlier (by omega) hk e2
  · unfold Dk setOf at h
    rw [fold_out g] at h
    cases h
theorem Dk_no {l : List ByteArray} {k : Nat} (hk : k < l.length) (h : (Dk l k).atKey (keyL l[k]) (.lit (.bool false)) = .lit (.bool false)) : fst l l[k] = (k : Int) := by
  apply fst_own hk
  intro j hj e
  have g : keyL l[k] ∈ (l.take k).map keyL := List.mem_map.2 ⟨l[j]'(by omega), by
    rw [List.mem_iff_getElem]
    exact ⟨j, by rw [List.length_take]; omega, by rw [List.getElem_take]⟩, by unfold keyL; rw [e]⟩
  unfold Dk setOf at h
  rw [fold_in isMap_empty (fun x hx => by obtain ⟨y, -, rfl⟩ := List.mem_map.1 hx; exact key_lit y) g] at h
  cases h
theorem own_kept {w w2 : World} {b n : Nat} {D : DataW Unit} (h : w.ownsMap Try.prog 9 (plainElem Try.prog 4) b n D) (hb : Below w.heap.size w w2) : w2.ownsMap Try.prog 9 (plainElem Try.prog 4) b n D :=
  h.kept (row := none) ⟨hb.os, hb.tape, hb.output, hb.size, fun k hk _ => hb.block k hk⟩ (by simp)
set_option maxRecDepth 100000 in
theorem dist_any (p : Option Addr) (n c : Nat) (l : List ByteArray) (w : World) (hb : Strs w p n l) (hz : Hid (∀ x ∈ l, x.size ≤ 9223372036854775807)) (hm : n ≤ 1000) : Calls Try.prog 15 #[.slice p n c] w (Gives (.int .i64 (dst l)) w) := by
  have HB := Lib.hid hb
  have HL := Lib.hid hb.1
  have hn : (n : Int) ≤ 1000 := by omega
  have hmm := @run_makeMap Try.prog
  clear hb
  go_enter Try.func15, Try.ntmps15
  go_wp2_with fail
  go_loopw [10] (fun i wr => ∃ k : Nat, k ≤ n ∧ i = .int .i64 (k : Nat) ∧ Hid (AllOk l k) ∧ Hid (Below w.heap.size w wr) ∧ Hid (wr.ownsMap Try.prog 9 (plainElem Try.prog 4) w.heap.size k (Dk l k))) (fun i _ => n - (intOf i).toNat)
  case atStart => exact ⟨0, Nat.zero_le _, rfl, Lib.hid allok_zero, Lib.hid (bl_alloc (Below.refl _ _)), Lib.hid (World.ownsMap_made _ _ _ _)⟩
  case round =>
    obtain ⟨k, hk, rfl, HA, HW, HO⟩ := hrel
    have d1 : (0 : Int) ≤ (k : Int) := by omega
    rcases Nat.lt_or_ge k n with h | h
    · have hkl : k < l.length := by rw [HL.out]; exact h
      obtain ⟨-, -, h0 | ⟨b, o, rfl, hb, hcell⟩⟩ := HB.out.on HW.out
      · omega
      · have e1 := hcell.out k hkl
        have hx := hz.out _ (List.getElem_mem hkl)
        have d2 : (k : Int) < (n : Int) := by omega
        rcases chk_cases' (bs l[k]) with h1 | h1
        · have HY := Lib.hid (fun h => allok_step hkl HA.out (chk_ok.1 h1) (Dk_no hkl h))
          have HT := Lib.hid (fun h => dst_twice hkl HA.out (chk_ok.1 h1) (Dk_yes hkl h))
          have HS := Lib.hid (Dk_step hkl)
          have hkey := key_name (chk_ok.1 h1)
          obtain ⟨x, ex⟩ : ∃ x, l[k] = x := ⟨_, rfl⟩
          rw [ex] at e1 h1 hx HY HT HS hkey
          clear hcell ex hkl
          go_wp2_with fail
          refine (dcheck_at h1 hx wr).mono ?_
          rintro e w2 ⟨rfl, hb2⟩
          have HO2 := Lib.hid (own_kept HO.out hb2)
          have HW2 : Hid (Below w.heap.size w w2) := Lib.hid (by have HBB := HW.out; (repeat (first | (with_reducible exact Below.refl _ _) | (with_reducible assumption) | (with_reducible apply bl_alloc) | (with_reducible apply bl_drewN) | (with_reducible apply bl_drew) | (with_reducible refine bl_set ?_ (by first | (simp; done) | (simp; omega)) _) | (with_reducible refine bl_call ?_ (by assumption)))))
          obtain ⟨v, hrun, hat⟩ := look_bool HO2.out hkey
          have HAT := Lib.hid hat
          clear hat hb2
          cases v with
          | true =>
            have HR := Lib.hid (HT.out HAT.out)
            clear HY HT HAT
            go_wp2_with fail
            go_ret
            exact ⟨ret_int HR.out.symm, HW2.out⟩
          | false =>
            have HR := Lib.hid (HY.out HAT.out)
            clear HY HT HAT
            go_wp2_with (at_mapUpdate; refine wpList_mapUpdate_own _ rfl _ _ _ 39 rfl 9 4 law Try.underlying39 _ w.heap.size k _ rfl HO2.out (by unfold maxLen; omega) _ _ _ rfl rfl hkey _ [] (plainElem_bool Try.underlying4 true) ?_)
            intro w3 hown3 hgrow3
            have HO3 := Lib.hid hown3
            rw [HS.out] at HO3
            have HW3 := Lib.hid (HW2.out.grown hgrow3 HW2.out.size (fun j hj => by cases hj; exact Nat.le_refl _))
            clear hown3 hgrow3 hrun
            go_wp2_with fail
            go_roundw
            case rel => exact ⟨k + 1, by omega, by go_num, HR, HW3, HO3⟩
            case measure => simp [intOf]; omega
        · have HR := Lib.hid (dst_name hkl HA.out (by rw [← Bool.not_eq_true, ← chk_ok, h1]; decide))
          obtain ⟨x, ex⟩ : ∃ x, l[k] = x := ⟨_, rfl⟩
          rw [ex] at e1 h1 hx
          clear hcell ex hkl
          go_wp2_with fail
          refine (dcheck_at h1 hx wr).mono ?_
          rintro e w2 ⟨rfl, hb2⟩
          go_wp2_with fail
          go_ret
          exact ⟨ret_int HR.out.symm, by have HBB := HW.out; (repeat (first | (with_reducible exact Below.refl _ _) | (with_reducible assumption) | (with_reducible apply bl_alloc) | (with_reducible apply bl_drewN) | (with_reducible apply bl_drew) | (with_reducible refine bl_set ?_ (by first | (simp; done) | (simp; omega)) _) | (with_reducible refine bl_call ?_ (by assumption))))⟩
    · obtain rfl : n = k := by omega
      have HR := Lib.hid (dst_ok (fun j hj => HA.out j (by rw [HL.out] at hj; exact hj)))
      go_wp2_with fail
      go_ret
      exact ⟨ret_int HR.out.symm, HW.out⟩
end Go.Proofs.Ytgepgdndhnoanaa.Na
