/-
  The law of the names, walked.
-/
import Derived.Test.YtfkenbdfakjeoaaELaw7
import Derived.Test.YtfkenbdfakjeoaaEMent
namespace Go.Proofs.Ytfkenbdfakjeoaa.Ex
open Go.RowKit
open Go.Proofs.Ytfkenbdfakjeoaa.Na (bs bs_inj chk)
set_option maxHeartbeats 4000000
set_option linter.unusedVariables false
set_option linter.unusedSimpArgs false
theorem names_mem {e : Ex} (h : chkE false e = 0) {s : Nm} : s ∈ namesE e ↔ s ∈ says (pre e) := by
  unfold namesE
  rw [if_pos h]
  exact (srt_inc _).2 s
theorem names_chk {e : Ex} {s : Nm} (hm : s ∈ namesE e) : chkE false e = 0 := by
  unfold namesE at hm
  by_cases h : chkE false e = 0
  · exact h
  · rw [if_neg h] at hm; cases hm
theorem names_inc (e : Ex) : Inc (namesE e) := by
  unfold namesE
  split
  · exact (srt_inc _).1
  · exact inc_nil
theorem names_len (e : Ex) : (namesE e).length ≤ cnt e := by
  unfold namesE
  split
  · rw [srt_ins]
    have h1 := insA_len (says (pre e)) []
    have h2 := says_len (pre e)
    rw [pre_len] at h2
    simp only [List.length_nil] at h1
    omega
  · simp
theorem nd_chk {x : Ex} (h : ndE false x = 0) (hs : ¬ bs x.s = []) : chk (bs x.s) = 0 := by
  have hn := (nd_named h).2 hs
  unfold ndE nd at h
  split at h
  · cases h
  · split at h
    · cases h
    · first | exact h | rwa [if_pos hn] at h
theorem names_ok {e : Ex} (hs : Sz e) {s : Nm} (hm : s ∈ namesE e) : chkE false (wdE (tb s)) = 0 ∧ (tb s).size ≤ 140737488355328 := by
  have hc := names_chk hm
  obtain ⟨u, hu, rfl, hn⟩ := mem_says.1 ((names_mem hc).1 hm)
  have h1 := nd_chk ((chk_ok hc).2.2 u hu) hn
  rw [tb_bs]
  refine ⟨?_, hs u hu⟩
  clear hu hn hm
  generalize u.s = q at *
  unfold wdE
  rw [chk_leaf]
  have e1 : badF false 3 (bs q) 0 0 = false := by unfold badF; simp [known, named, numbered, counted, ari, obj]
  have e2 : badR false 3 0 = false := by decide
  have e3 : named false 3 = true := by decide
  show nd false 3 (bs q) 0 0 = 0
  unfold nd
  rw [if_neg (by rw [e1]; decide), if_neg (by rw [e2]; decide), if_pos e3]
  exact h1
theorem cnt_wd2 (s : ByteArray) : cnt (wdE s) ≤ 1000000 := by
  unfold wdE
  rw [cnt_one, cntL]
  omega
set_option maxRecDepth 100000 in
theorem exprNames_walk (HA : ∀ w, Calls Try.prog 11 #[] w (Gives (.bool true) w)) (e : Ex) (p : Option Addr) (m c : Nat) (w : World) (h : In w e p m) (hs : Sz e) : Calls Try.prog 6 #[.agg #[.int .i64 e.o, .string e.s, .int .i64 e.n, .slice p m c]] w (Gives (.bool true) w) := by
  have HH := Lib.hid h
  cases hf : fewE e with
  | false =>
    have HF := Lib.hid (fun W hi => few_gives hf p m c W hi)
    obtain ⟨o, s, nn, kl⟩ := e
    simp only [Ex.o, Ex.s, Ex.n] at HF ⊢
    clear h hs hf
    go_enter Try.func6, Try.ntmps6
    go_wp2_with fail
    refine (HF.out _ (HH.out.on (by (repeat (first | (with_reducible exact Below.refl _ _) | (with_reducible assumption) | (with_reducible apply bl_alloc) | (with_reducible apply bl_drewN) | (with_reducible apply bl_drew) | (with_reducible refine bl_set ?_ (by first | (simp; done) | (simp; omega)) _) | (with_reducible refine bl_call ?_ (by assumption))))))).mono ?_
    rintro e w1 ⟨rfl, hb1⟩
    have B1 : Below w.heap.size w w1 := by (repeat (first | (with_reducible exact Below.refl _ _) | (with_reducible assumption) | (with_reducible apply bl_alloc) | (with_reducible apply bl_drewN) | (with_reducible apply bl_drew) | (with_reducible refine bl_set ?_ (by first | (simp; done) | (simp; omega)) _) | (with_reducible refine bl_call ?_ (by assumption))))
    go_wp2_with fail
    refine (HA _).mono ?_
    rintro e w2 ⟨rfl, hb2⟩
    go_wp2_with fail
    go_ret
    exact ⟨rfl, by (repeat (first | (with_reducible exact Below.refl _ _) | (with_reducible assumption) | (with_reducible apply bl_alloc) | (with_reducible apply bl_drewN) | (with_reducible apply bl_drew) | (with_reducible refine bl_set ?_ (by first | (simp; done) | (simp; omega)) _) | (with_reducible refine bl_call ?_ (by assumption))))⟩
  | true =>
    have hc := (few_cap hf).1
    have HC : Hid (cnt e ≤ 1000000) := Lib.hid (by omega)
    have HF := Lib.hid (fun W hi => few_gives hf p m c W hi)
    have hlen := names_len e
    have HOK := Lib.hid (fun s hm => names_ok hs (s := s) hm)
    have HINC := Lib.hid (names_inc e)
    have HS := Lib.hid hs
    obtain ⟨L, hL⟩ : ∃ L, namesE e = L := ⟨_, rfl⟩
    have HL := Lib.hid hL
    rw [hL] at hlen HOK HINC
    have hN : L.length ≤ 200 := by omega
    have F1 := (var_new (c := c) h).far
    have HB : Hid (Below w.heap.size w (w.alloc (.cells #[.int .i64 e.o, .string e.s, .int .i64 e.n, .slice p m c] 25))) := Lib.hid (by (repeat (first | (with_reducible exact Below.refl _ _) | (with_reducible assumption) | (with_reducible apply bl_alloc) | (with_reducible apply bl_drewN) | (with_reducible apply bl_drew) | (with_reducible refine bl_set ?_ (by first | (simp; done) | (simp; omega)) _) | (with_reducible refine bl_call ?_ (by assumption)))))
    clear hL hc hf hs h hlen HH
    go_enter Try.func6, Try.ntmps6
    go_wp2_with fail
    refine (HF.out _ (F1.out _ (Below.refl _ _)).2).mono ?_
    rintro e1 w1 ⟨rfl, hb1⟩
    obtain ⟨x0, x1, x2, x3⟩ := (F1.out _ hb1).1
    go_wp2_with fail
    refine (names_at HL.out HS.out HC.out (F1.out _ hb1).2).mono ?_
    rintro e2 w2 ⟨p1, n1, c1, rfl, ht1, hb2⟩
    obtain ⟨hn1, hm1, hh1⟩ := ht1
    have HH1 := Lib.hid hh1
    have HN := Lib.hid hn1
    rw [hn1] at hN
    have hb3 : Below (w.alloc (.cells #[.int .i64 e.o, .string e.s, .int .i64 e.n, .slice p m c] 25)).heap.size (w.alloc (.cells #[.int .i64 e.o, .string e.s, .int .i64 e.n, .slice p m c] 25)) w2 := by (repeat (first | (with_reducible exact Below.refl _ _) | (with_reducible assumption) | (with_reducible apply bl_alloc) | (with_reducible apply bl_drewN) | (with_reducible apply bl_drew) | (with_reducible refine bl_set ?_ (by first | (simp; done) | (simp; omega)) _) | (with_reducible refine bl_call ?_ (by assumption))))
    replace F1 := (F1.out _ hb3).far
    replace HB : Hid (Below w.heap.size w w2) := Lib.hid (by have HBB := HB.out; (repeat (first | (with_reducible exact Below.refl _ _) | (with_reducible assumption) | (with_reducible apply bl_alloc) | (with_reducible apply bl_drewN) | (with_reducible apply bl_drew) | (with_reducible refine bl_set ?_ (by first | (simp; done) | (simp; omega)) _) | (with_reducible refine bl_call ?_ (by assumption)))))
    clear hb1 hb2 hb3 x0 x1 x2 x3 hh1 hn1 HF
    go_wp2_with fail
    go_loopw [4] (fun i wr => ∃ k : Nat, k ≤ n1 ∧ i = .int .i64 (k : Nat) ∧ Hid (Below w2.heap.size w2 wr)) (fun i _ => n1 - (intOf i).toNat)
    case atStart => exact ⟨0, Nat.zero_le _, rfl, Lib.hid (Below.refl _ _)⟩
    case round =>
      obtain ⟨k, hk, rfl, HW⟩ := hrel
      have k0 : (0 : Int) ≤ (k : Int) := by omega
      rcases Nat.lt_or_ge k n1 with h | h
      · have k1 : (k : Int) < (n1 : Int) := by omega
        obtain ⟨b, o1, rfl, hb, hcl⟩ := HH1.out.resolve_left (by omega)
        have hkl : k < L.length := by rw [HN.out]; omega
        have e1 := (HW.out.cell (p := ⟨b, o1 + k, none⟩) hb).trans (hcl.out k hkl)
        obtain ⟨x, hx⟩ : ∃ x, L[k] = x := ⟨_, rfl⟩
        have hxm : x ∈ L := by rw [← hx]; exact List.getElem_mem hkl
        obtain ⟨ok1, ok2⟩ := HOK.out x hxm
        have HO := Lib.hid ok1
        have hbr : b < wr.heap.size := Nat.lt_of_lt_of_le hb HW.out.size
        rw [hx] at e1
        by_cases h0 : k = 0
        · have q0 : decide ((0 : Int) < (k : Int)) = false := decide_eq_false (by omega)
          have q1 : decide (0 < k) = false := decide_eq_false (by omega)
          have FE := Lib.hid (fun W (hbW : Below wr.heap.size wr W) => (hbW.cell (p := ⟨b, o1 + k, none⟩) hbr).trans e1)
          clear hx hxm hkl hcl ok1 h0 HH1
          go_wp2_with fail
          refine wp_region_held_drew (S := (fun (w' : World) => w'.cell? ⟨b, o1 + k, none⟩ = some (.string (tb x)))) (by kernel_rfl) (show ((fun (w' : World) => w'.cell? ⟨b, o1 + k, none⟩ = some (.string (tb x)))) _ from (FE.out _ (by (repeat (first | (with_reducible exact Below.refl _ _) | (with_reducible assumption) | (with_reducible apply bl_alloc) | (with_reducible apply bl_drewN) | (with_reducible apply bl_drew) | (with_reducible refine bl_set ?_ (by first | (simp; done) | (simp; omega)) _) | (with_reducible refine bl_call ?_ (by assumption))))))) (fun hHeld => ?_)
          refine wpAnyH_take (i := 0) (oi := { dst := some 17, op := Op.move (Operand.tmp 4), type := 3, pos := "law.go:94", after := #[], guard := none }) (v := ?_) rfl (by kernel_rfl) (by kernel_rfl) (by kernel_rfl) (fun _ _ _ h => h) (Or.inl ⟨by rfl, ?_⟩) (by assumption) ?_
          rotate_left 1
          · intro w' hS'
            try dsimp only at hS'
            first | (go_simp; done) | (go_simp; with_reducible rfl)
          try simp only [Act.put, List.setIfInBounds_toArray, List.set_cons_zero, List.set_cons_succ]
          refine wpAnyH_take (i := 1) (oi := { dst := some 18, op := Op.binOp BinOp.gtr 3 (Operand.tmp 17) (Operand.const (Value.int IntKind.i64 0)) 3, type := 4, pos := "law.go:94", after := #[{ on := 0, ground := Ground.data }], guard := none }) (v := ?_) rfl (by kernel_rfl) (by kernel_rfl) (by kernel_rfl) (fun _ _ _ h => h) (Or.inl ⟨by rfl, ?_⟩) (by assumption) ?_
          rotate_left 1
          · intro w' hS'
            try dsimp only at hS'
            first | (go_simp; done) | (go_simp; with_reducible rfl)
          try simp only [Act.put, List.setIfInBounds_toArray, List.set_cons_zero, List.set_cons_succ]
          refine wpAnyH_take (i := 2) (oi := { dst := some 19, op := Op.move (Operand.tmp 18), type := 4, pos := "law.go:94", after := #[{ on := 1, ground := Ground.data }], guard := none }) (v := ?_) rfl (by kernel_rfl) (by kernel_rfl) (by kernel_rfl) (fun _ _ _ h => h) (Or.inl ⟨by rfl, ?_⟩) (by assumption) ?_
          rotate_left 1
          · intro w' hS'
            try dsimp only at hS'
            first | (go_simp; done) | (go_simp; with_reducible rfl)
          try simp only [Act.put, List.setIfInBounds_toArray, List.set_cons_zero, List.set_cons_succ]
          refine wpAnyH_take (i := 3) (oi := { dst := some 20, op := Op.move (Operand.tmp 3), type := 33, pos := "law.go:94", after := #[{ on := 2, ground := Ground.guard }], guard := some (2, true) }) (v := undef) rfl (by kernel_rfl) (by kernel_rfl) (by kernel_rfl) (fun _ _ _ h => h) (Or.inr ⟨by kernel_rfl, rfl⟩) (by assumption) ?_
          try simp only [Act.put, List.setIfInBounds_toArray, List.set_cons_zero, List.set_cons_succ]
          refine wpAnyH_take (i := 4) (oi := { dst := some 21, op := Op.move (Operand.tmp 4), type := 3, pos := "law.go:94", after := #[{ on := 2, ground := Ground.guard }], guard := some (2, true) }) (v := undef) rfl (by kernel_rfl) (by kernel_rfl) (by kernel_rfl) (fun _ _ _ h => h) (Or.inr ⟨by kernel_rfl, rfl⟩) (by assumption) ?_
          try simp only [Act.put, List.setIfInBounds_toArray, List.set_cons_zero, List.set_cons_succ]
          refine wpAnyH_take (i := 5) (oi := { dst := some 22, op := Op.binOp BinOp.sub 3 (Operand.tmp 21) (Operand.const (Value.int IntKind.i64 1)) 3, type := 3, pos := "law.go:94", after := #[{ on := 4, ground := Ground.data }, { on := 2, ground := Ground.guard }], guard := some (2, true) }) (v := undef) rfl (by kernel_rfl) (by kernel_rfl) (by kernel_rfl) (fun _ _ _ h => h) (Or.inr ⟨by kernel_rfl, rfl⟩) (by assumption) ?_
          try simp only [Act.put, List.setIfInBounds_toArray, List.set_cons_zero, List.set_cons_succ]
          refine wpAnyH_take (i := 6) (oi := { dst := some 23, op := Op.indexAddr 33 (Operand.tmp 20) (Operand.tmp 22), type := 0, pos := "law.go:94", after := #[{ on := 3, ground := Ground.data }, { on := 5, ground := Ground.data }, { on := 2, ground := Ground.guard }], guard := some (2, true) }) (v := undef) rfl (by kernel_rfl) (by kernel_rfl) (by kernel_rfl) (fun _ _ _ h => h) (Or.inr ⟨by kernel_rfl, rfl⟩) (by assumption) ?_
          try simp only [Act.put, List.setIfInBounds_toArray, List.set_cons_zero, List.set_cons_succ]
          refine wpAnyH_take (i := 7) (oi := { dst := some 24, op := Op.load 9 (Operand.tmp 23), type := 9, pos := "law.go:94", after := #[{ on := 6, ground := Ground.data }, { on := 2, ground := Ground.guard }], guard := some (2, true) }) (v := undef) rfl (by kernel_rfl) (by kernel_rfl) (by kernel_rfl) (fun _ _ _ h => h) (Or.inr ⟨by kernel_rfl, rfl⟩) (by assumption) ?_
          try simp only [Act.put, List.setIfInBounds_toArray, List.set_cons_zero, List.set_cons_succ]
          refine wpAnyH_take (i := 8) (oi := { dst := some 25, op := Op.move (Operand.tmp 3), type := 33, pos := "law.go:94", after := #[{ on := 2, ground := Ground.guard }], guard := some (2, true) }) (v := undef) rfl (by kernel_rfl) (by kernel_rfl) (by kernel_rfl) (fun _ _ _ h => h) (Or.inr ⟨by kernel_rfl, rfl⟩) (by assumption) ?_
          try simp only [Act.put, List.setIfInBounds_toArray, List.set_cons_zero, List.set_cons_succ]
          refine wpAnyH_take (i := 9) (oi := { dst := some 26, op := Op.move (Operand.tmp 4), type := 3, pos := "law.go:94", after := #[{ on := 2, ground := Ground.guard }], guard := some (2, true) }) (v := undef) rfl (by kernel_rfl) (by kernel_rfl) (by kernel_rfl) (fun _ _ _ h => h) (Or.inr ⟨by kernel_rfl, rfl⟩) (by assumption) ?_
          try simp only [Act.put, List.setIfInBounds_toArray, List.set_cons_zero, List.set_cons_succ]
          refine wpAnyH_take (i := 10) (oi := { dst := some 27, op := Op.indexAddr 33 (Operand.tmp 25) (Operand.tmp 26), type := 0, pos := "law.go:94", after := #[{ on := 8, ground := Ground.data }, { on := 9, ground := Ground.data }, { on := 2, ground := Ground.guard }], guard := some (2, true) }) (v := undef) rfl (by kernel_rfl) (by kernel_rfl) (by kernel_rfl) (fun _ _ _ h => h) (Or.inr ⟨by kernel_rfl, rfl⟩) (by assumption) ?_
          try simp only [Act.put, List.setIfInBounds_toArray, List.set_cons_zero, List.set_cons_succ]
          refine wpAnyH_take (i := 11) (oi := { dst := some 28, op := Op.load 9 (Operand.tmp 27), type := 9, pos := "law.go:94", after := #[{ on := 10, ground := Ground.data }, { on := 2, ground := Ground.guard }], guard := some (2, true) }) (v := undef) rfl (by kernel_rfl) (by kernel_rfl) (by kernel_rfl) (fun _ _ _ h => h) (Or.inr ⟨by kernel_rfl, rfl⟩) (by assumption) ?_
          try simp only [Act.put, List.setIfInBounds_toArray, List.set_cons_zero, List.set_cons_succ]
          refine wpAnyH_take (i := 12) (oi := { dst := some 29, op := Op.binOp BinOp.geq 9 (Operand.tmp 24) (Operand.tmp 28) 9, type := 4, pos := "law.go:94", after := #[{ on := 7, ground := Ground.data }, { on := 11, ground := Ground.data }, { on := 2, ground := Ground.guard }], guard := some (2, true) }) (v := undef) rfl (by kernel_rfl) (by kernel_rfl) (by kernel_rfl) (fun _ _ _ h => h) (Or.inr ⟨by kernel_rfl, rfl⟩) (by assumption) ?_
          try simp only [Act.put, List.setIfInBounds_toArray, List.set_cons_zero, List.set_cons_succ]
          refine wpAnyH_take (i := 13) (oi := { dst := some 30, op := Op.pick (Operand.tmp 19) (Operand.tmp 29) (Operand.const (Value.bool false)), type := 4, pos := "law.go:94", after := #[{ on := 2, ground := Ground.data }, { on := 12, ground := Ground.data }], guard := none }) (v := ?_) rfl (by kernel_rfl) (by kernel_rfl) (by kernel_rfl) (fun _ _ _ h => h) (Or.inl ⟨by rfl, ?_⟩) (by assumption) ?_
          rotate_left 1
          · intro w' hS'
            try dsimp only at hS'
            first | (go_simp; done) | (go_simp; with_reducible rfl)
          try simp only [Act.put, List.setIfInBounds_toArray, List.set_cons_zero, List.set_cons_succ]
          refine wpAnyH_take (i := 14) (oi := { dst := some 31, op := Op.move (Operand.tmp 30), type := 4, pos := "law.go:94", after := #[{ on := 13, ground := Ground.data }, { on := 2, ground := Ground.chain }], guard := none }) (v := ?_) rfl (by kernel_rfl) (by kernel_rfl) (by kernel_rfl) (fun _ _ _ h => h) (Or.inl ⟨by rfl, ?_⟩) (by assumption) ?_
          rotate_left 1
          · intro w' hS'
            try dsimp only at hS'
            first | (go_simp; done) | (go_simp; with_reducible rfl)
          try simp only [Act.put, List.setIfInBounds_toArray, List.set_cons_zero, List.set_cons_succ]
          refine wpAnyH_take (i := 15) (oi := { dst := some 32, op := Op.move (Operand.tmp 3), type := 33, pos := "law.go:94", after := #[{ on := 14, ground := Ground.guard }], guard := some (14, false) }) (v := ?_) rfl (by kernel_rfl) (by kernel_rfl) (by kernel_rfl) (fun _ _ _ h => h) (Or.inl ⟨by rfl, ?_⟩) (by assumption) ?_
          rotate_left 1
          · intro w' hS'
            try dsimp only at hS'
            first | (go_simp; done) | (go_simp; with_reducible rfl)
          try simp only [Act.put, List.setIfInBounds_toArray, List.set_cons_zero, List.set_cons_succ]
          refine wpAnyH_take (i := 16) (oi := { dst := some 33, op := Op.move (Operand.tmp 4), type := 3, pos := "law.go:94", after := #[{ on := 14, ground := Ground.guard }], guard := some (14, false) }) (v := ?_) rfl (by kernel_rfl) (by kernel_rfl) (by kernel_rfl) (fun _ _ _ h => h) (Or.inl ⟨by rfl, ?_⟩) (by assumption) ?_
          rotate_left 1
          · intro w' hS'
            try dsimp only at hS'
            first | (go_simp; done) | (go_simp; with_reducible rfl)
          try simp only [Act.put, List.setIfInBounds_toArray, List.set_cons_zero, List.set_cons_succ]
          refine wpAnyH_take (i := 17) (oi := { dst := some 34, op := Op.indexAddr 33 (Operand.tmp 32) (Operand.tmp 33), type := 0, pos := "law.go:94", after := #[{ on := 15, ground := Ground.data }, { on := 16, ground := Ground.data }, { on := 14, ground := Ground.guard }], guard := some (14, false) }) (v := ?_) rfl (by kernel_rfl) (by kernel_rfl) (by kernel_rfl) (fun _ _ _ h => h) (Or.inl ⟨by rfl, ?_⟩) (by assumption) ?_
          rotate_left 1
          · intro w' hS'
            try dsimp only at hS'
            first | (go_simp; done) | (go_simp; with_reducible rfl)
          try simp only [Act.put, List.setIfInBounds_toArray, List.set_cons_zero, List.set_cons_succ]
          refine wpAnyH_take (i := 18) (oi := { dst := some 35, op := Op.load 9 (Operand.tmp 34), type := 9, pos := "law.go:94", after := #[{ on := 17, ground := Ground.data }, { on := 14, ground := Ground.guard }], guard := some (14, false) }) (v := ?_) rfl (by kernel_rfl) (by kernel_rfl) (by kernel_rfl) (fun _ _ _ h => h) (Or.inl ⟨by rfl, ?_⟩) (by assumption) ?_
          rotate_left 1
          · intro w' hS'
            try dsimp only at hS'
            first | (go_simp; done) | (go_simp; with_reducible rfl)
          try simp only [Act.put, List.setIfInBounds_toArray, List.set_cons_zero, List.set_cons_succ]
          refine wpAnyH_ready (rs := [19]) (by kernel_rfl) (by simp) ?_
          refine AllReadyH.cons (o := { dst := some 36, op := Op.call { callee := Callee.value (Operand.func 24), args := #[Operand.tmp 35], argTypes := #[9] }, type := 25, pos := "law.go:94", after := #[{ on := 18, ground := Ground.data }, { on := 14, ground := Ground.chain }, { on := 14, ground := Ground.guard }], guard := some (14, false) }) rfl (fun K hK => ?_) ?_
          rotate_left 1
          · exact AllReadyH.nil
          go_simp
          refine (word_at (tb x) _).mono ?_
          rintro e3 r1 ⟨p3, m3, c3, rfl, hi3, hr1⟩
          clear hHeld
          refine hK.out _ _ (show ((fun (w' : World) => w'.cell? ⟨b, o1 + k, none⟩ = some (.string (tb x)))) _ from (FE.out _ (by (repeat (first | (with_reducible exact Below.refl _ _) | (with_reducible assumption) | (with_reducible apply bl_alloc) | (with_reducible apply bl_drewN) | (with_reducible apply bl_drew) | (with_reducible refine bl_set ?_ (by first | (simp; done) | (simp; omega)) _) | (with_reducible refine bl_call ?_ (by assumption))))))) (fun hHeld => ?_)
          clear hK K
          (try simp only [Act.put, List.setIfInBounds_toArray, List.set_cons_zero, List.set_cons_succ])
          refine wpAnyH_ready (rs := [20]) (by kernel_rfl) (by simp) ?_
          refine AllReadyH.cons (o := { dst := some 37, op := Op.call { callee := Callee.value (Operand.func 12), args := #[Operand.tmp 36], argTypes := #[25] }, type := 28, pos := "law.go:94", after := #[{ on := 19, ground := Ground.data }, { on := 19, ground := Ground.chain }, { on := 14, ground := Ground.guard }], guard := some (14, false) }) rfl (fun K hK => ?_) ?_
          rotate_left 1
          · exact AllReadyH.nil
          go_simp
          refine (check_at HO.out (sz_leaf ok2) (cnt_wd2 _) (hi3.on (by (repeat (first | (with_reducible exact Below.refl _ _) | (with_reducible assumption) | (with_reducible apply bl_alloc) | (with_reducible apply bl_drewN) | (with_reducible apply bl_drew) | (with_reducible refine bl_set ?_ (by first | (simp; done) | (simp; omega)) _) | (with_reducible refine bl_call ?_ (by assumption))))))).mono ?_
          rintro e4 r2 ⟨rfl, hr2⟩
          clear hHeld
          refine hK.out _ _ (show ((fun (w' : World) => w'.cell? ⟨b, o1 + k, none⟩ = some (.string (tb x)))) _ from (FE.out _ (by (repeat (first | (with_reducible exact Below.refl _ _) | (with_reducible assumption) | (with_reducible apply bl_alloc) | (with_reducible apply bl_drewN) | (with_reducible apply bl_drew) | (with_reducible refine bl_set ?_ (by first | (simp; done) | (simp; omega)) _) | (with_reducible refine bl_call ?_ (by assumption))))))) (fun hHeld => ?_)
          clear hK K
          (try simp only [Act.put, List.setIfInBounds_toArray, List.set_cons_zero, List.set_cons_succ])
          refine wpAnyH_take (i := 21) (oi := { dst := some 38, op := Op.binOp BinOp.neq 28 (Operand.tmp 37) (Operand.const (Value.int IntKind.i64 0)) 28, type := 4, pos := "law.go:94", after := #[{ on := 20, ground := Ground.data }, { on := 14, ground := Ground.guard }], guard := some (14, false) }) (v := ?_) rfl (by kernel_rfl) (by kernel_rfl) (by kernel_rfl) (fun _ _ _ h => h) (Or.inl ⟨by rfl, ?_⟩) (by assumption) ?_
          rotate_left 1
          · intro w' hS'
            try dsimp only at hS'
            first | (go_simp; done) | (go_simp; with_reducible rfl)
          try simp only [Act.put, List.setIfInBounds_toArray, List.set_cons_zero, List.set_cons_succ]
          refine wpAnyH_take (i := 22) (oi := { dst := some 39, op := Op.pick (Operand.tmp 31) (Operand.const (Value.bool true)) (Operand.tmp 38), type := 4, pos := "law.go:94", after := #[{ on := 14, ground := Ground.data }, { on := 21, ground := Ground.data }], guard := none }) (v := ?_) rfl (by kernel_rfl) (by kernel_rfl) (by kernel_rfl) (fun _ _ _ h => h) (Or.inl ⟨by rfl, ?_⟩) (by assumption) ?_
          rotate_left 1
          · intro w' hS'
            try dsimp only at hS'
            first | (go_simp; done) | (go_simp; with_reducible rfl)
          try simp only [Act.put, List.setIfInBounds_toArray, List.set_cons_zero, List.set_cons_succ]
          refine wpAnyH_done (by kernel_rfl) ?_ _
          clear hHeld
          have HW2 : Hid (Below w2.heap.size w2 r2) := Lib.hid (by have HBB := HW.out; (repeat (first | (with_reducible exact Below.refl _ _) | (with_reducible assumption) | (with_reducible apply bl_alloc) | (with_reducible apply bl_drewN) | (with_reducible apply bl_drew) | (with_reducible refine bl_set ?_ (by first | (simp; done) | (simp; omega)) _) | (with_reducible refine bl_call ?_ (by assumption)))))
          go_wp2_with fail
          go_roundw
          case rel => exact ⟨k + 1, by omega, by go_num, HW2⟩
          case measure => simp [intOf]; omega
        · obtain ⟨j, hj⟩ : ∃ j, j + 1 = k := ⟨k - 1, by omega⟩
          have q0 : decide ((0 : Int) < (k : Int)) = true := decide_eq_true (by omega)
          have q1 : decide (0 < k) = true := decide_eq_true (by omega)
          have hjl : j < L.length := by rw [HN.out]; omega
          have e2 := (HW.out.cell (p := ⟨b, o1 + j, none⟩) hb).trans (hcl.out j hjl)
          obtain ⟨y, hy⟩ : ∃ y, L[j] = y := ⟨_, rfl⟩
          have hlt : y < x := by
            rw [← hx, ← hy]
            exact List.pairwise_iff_getElem.1 HINC.out j k hjl hkl (by omega)
          rw [hy] at e2
          have l1 : Op.bytesLess (tb y).toList (tb x).toList = true := (less_is _ _).trans (decide_eq_true (by rw [bs_tb, bs_tb]; exact hlt))
          have j0 : (0 : Int) ≤ (j : Int) := by omega
          have j1 : (j : Int) < (n1 : Int) := by omega
          have j2 : (k : Int) - 1 = (j : Int) := by omega
          have j3 : IntKind.i64.wrap (j : Int) = (j : Int) := by rw [IntKind.wrap_i64]; omega
          have HJ := Lib.hid hj
          have FE := Lib.hid (fun W (hbW : Below wr.heap.size wr W) => And.intro ((hbW.cell (p := ⟨b, o1 + j, none⟩) hbr).trans e2) ((hbW.cell (p := ⟨b, o1 + k, none⟩) hbr).trans e1))
          clear hx hy hxm hkl hjl hcl ok1 h0 HH1 hj hlt
          go_wp2_with fail
          go_region_held3 (fun (w' : World) => w'.cell? ⟨b, o1 + j, none⟩ = some (.string (tb y)) ∧ w'.cell? ⟨b, o1 + k, none⟩ = some (.string (tb x))) (first | (refine FE.out _ ?_; (repeat (first | (with_reducible exact Below.refl _ _) | (with_reducible assumption) | (with_reducible apply bl_alloc) | (with_reducible apply bl_drewN) | (with_reducible apply bl_drew) | (with_reducible refine bl_set ?_ (by first | (simp; done) | (simp; omega)) _) | (with_reducible refine bl_call ?_ (by assumption)))); done) | (go_keep; done)) (first
            | (go_at_call 24; refine (word_at (tb x) _).mono ?_; rintro e3 r1 ⟨p3, m3, c3, rfl, hi3, hr1⟩)
            | (go_at_call 12; refine (check_at HO.out (sz_leaf ok2) (cnt_wd2 _) (hi3.on (by (repeat (first | (with_reducible exact Below.refl _ _) | (with_reducible assumption) | (with_reducible apply bl_alloc) | (with_reducible apply bl_drewN) | (with_reducible apply bl_drew) | (with_reducible refine bl_set ?_ (by first | (simp; done) | (simp; omega)) _) | (with_reducible refine bl_call ?_ (by assumption))))))).mono ?_; rintro e4 r2 ⟨rfl, hr2⟩))
          all_goals
            have HW2 : Hid (Below w2.heap.size w2 r2) := Lib.hid (by have HBB := HW.out; (repeat (first | (with_reducible exact Below.refl _ _) | (with_reducible assumption) | (with_reducible apply bl_alloc) | (with_reducible apply bl_drewN) | (with_reducible apply bl_drew) | (with_reducible refine bl_set ?_ (by first | (simp; done) | (simp; omega)) _) | (with_reducible refine bl_call ?_ (by assumption)))))
            go_wp2_with fail
            go_roundw
            case rel => exact ⟨k + 1, by omega, by go_num, HW2⟩
            case measure => simp [intOf]; omega
      · obtain rfl : n1 = k := by omega
        replace F1 := (F1.out _ HW.out).far
        replace HB : Hid (Below w.heap.size w wr) := Lib.hid (by have HBB := HB.out; exact HBB.trans (HW.out.mono HBB.size))
        have HT : Hid (Txs wr p1 n1 L) := Lib.hid (Txs.on HW.out ⟨HN.out, hm1, HH1.out⟩)
        obtain ⟨x0, x1, x2, x3⟩ := (F1.out _ (Below.refl _ _)).1
        go_wp2_with fail
        refine (rnames_at HL.out HS.out HC.out (F1.out _ (Below.refl _ _)).2).mono ?_
        rintro e3 w3 ⟨p3, n3, c3, rfl, ht3, hb3⟩
        go_wp2_with fail
        refine (texts_at (b := true) (decide_eq_true rfl) (HT.out.on hb3) ht3).mono ?_
        rintro e4 w4 ⟨rfl, hb4⟩
        go_wp2_with fail
        refine (HA _).mono ?_
        rintro e5 w5 ⟨rfl, hb5⟩
        go_wp2_with fail
        go_ret
        exact ⟨rfl, by have HBB := HB.out; (repeat (first | (with_reducible exact Below.refl _ _) | (with_reducible assumption) | (with_reducible apply bl_alloc) | (with_reducible apply bl_drewN) | (with_reducible apply bl_drew) | (with_reducible refine bl_set ?_ (by first | (simp; done) | (simp; omega)) _) | (with_reducible refine bl_call ?_ (by assumption))))⟩
end Go.Proofs.Ytfkenbdfakjeoaa.Ex
