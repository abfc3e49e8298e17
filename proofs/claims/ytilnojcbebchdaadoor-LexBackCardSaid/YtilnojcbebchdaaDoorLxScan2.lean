/-
  The contract of scan: the tokens of a text from the left.
-/
import Derived.Test.YtilnojcbebchdaaDoorLxScan
import Derived.WalkMore
namespace Go.Proofs.YtilnojcbebchdaaDoor.Lx
open Go.RowKit
set_option maxHeartbeats 4000000
set_option linter.unusedVariables false
theorem ltr_low {c : UInt8} (h : ltrC c = true) : c.toNat < 128 := by
  unfold ltrC ltrI at h
  simp only [Bool.and_eq_true, decide_eq_true_eq] at h
  omega
theorem dig_low {c : UInt8} (h : digC c = true) : c.toNat < 128 := by have := dig_nat h; omega
theorem wrd_low {c : UInt8} (h : wrdC c = true) : c.toNat < 128 := by
  unfold wrdC wrdI ltrI digI at h
  simp only [Bool.or_eq_true, Bool.and_eq_true, decide_eq_true_eq] at h
  omega
theorem sg_low {l : List UInt8} (h : isSg l = true) : ∀ c ∈ l, c.toNat < 128 := by
  unfold isSg sgl at h
  simp only [List.contains_eq_mem, List.mem_cons, List.not_mem_nil, or_false, decide_eq_true_eq] at h
  rcases h with rfl | rfl | rfl | rfl | rfl | rfl | rfl | rfl | rfl | rfl | rfl | rfl | rfl | rfl | rfl | rfl <;> decide
theorem inl_no {c : UInt8} (h : inlC c = false) : c.toNat = 10 := by
  unfold inlC inlI at h
  by_cases h7 : ((c.toNat : Nat) : Int) = 10
  · omega
  · rw [decide_eq_false h7] at h; cases h
/-- A token's bytes are ASCII. -/
theorem fst_low {l : List UInt8} {x : Tk} {k : Nat} (h : fstO l = some (x, k)) : ∀ c ∈ l.take k, c.toNat < 128 := by
  unfold fstO at h
  by_cases h1 : spn ltrC l = 0
  · rw [if_pos h1] at h
    by_cases h2 : spn digC l = 0
    · rw [if_pos h2] at h
      by_cases h3 : 2 ≤ l.length ∧ isSg (l.take 2) = true
      · rw [if_pos h3] at h; cases h; exact sg_low h3.2
      · rw [if_neg h3] at h
        by_cases h4 : isSg (l.take 1) = true
        · rw [if_pos h4] at h; cases h; exact sg_low h4
        · rw [if_neg h4] at h; cases h
    · rw [if_neg h2] at h
      split at h
      · cases h; exact fun c hc => dig_low (spn_take c hc)
      · cases h
  · rw [if_neg h1] at h
    cases h
    exact fun c hc => wrd_low (spn_take c hc)
theorem fst_high {c : UInt8} {t : List UInt8} (h : 128 ≤ c.toNat) : fstO (c :: t) = none := by
  cases e : fstO (c :: t) with
  | none => rfl
  | some y =>
    obtain ⟨x, k⟩ := y
    obtain ⟨k1, -⟩ := fst_size e
    have := fst_low e c (by
      obtain ⟨j, rfl⟩ : ∃ j, k = j + 1 := ⟨k - 1, by omega⟩
      simp)
    omega
/-- From pos on the runes that begin before bh end there at the latest. -/
def Skip (s : ByteArray) (pos bh : Nat) : Prop := ∀ p, pos ≤ p → p < bh → p < s.size → p + (Utf8.decode s p).2 ≤ bh
theorem skip_ascii {s : ByteArray} {pos bh : Nat} (h : ∀ p, pos ≤ p → p < bh → (g : p < s.size) → (s[p]'g).toNat < 128) : Skip s pos bh := by
  intro p h1 h2 g
  rw [decode_ascii s p g (h p h1 h2 g)]
  exact h2
theorem skip_note {s : ByteArray} {pos bh : Nat} (hb : bh ≤ s.size) (h : (g : bh < s.size) → (s[bh]'g).toNat < 128) : Skip s pos bh := by
  intro p h1 h2 g
  obtain ⟨m1, m2, m3⟩ := dec_more s p g
  rcases Nat.lt_or_ge bh (p + (Utf8.decode s p).2) with h3 | h3
  · exfalso
    have hlt : bh < s.size := by omega
    obtain ⟨j, rfl⟩ : ∃ j, bh = p + j := ⟨bh - p, by omega⟩
    have := m3 j (by omega) (by omega) hlt
    have := h hlt
    omega
  · exact h3
/-- Where a scan stands: what is left, from q on, yields R. -/
structure ScanAt (s : ByteArray) (R : Res) (pos bh q n : Nat) (a : List Tk) : Prop where
  hpos : pos ≤ s.size
  hbh : bh ≤ s.size
  hq : (bh ≤ pos ∧ q = pos) ∨ (pos < bh ∧ q = bh)
  skip : Skip s pos bh
  rest : lexL ((bs s).drop q) a n = R
  len : a.length ≤ q
  line : n ≤ q + 1
theorem scan_start (s : ByteArray) : ScanAt s (lexL (bs s) [] 1) 0 0 0 1 [] := ⟨Nat.zero_le _, Nat.zero_le _, .inl ⟨Nat.le_refl _, rfl⟩, fun p _ h => absurd h (Nat.not_lt_zero _), by rw [List.drop_zero], Nat.le_refl _, Nat.le_refl _⟩
theorem ScanAt.q_le {s : ByteArray} {R : Res} {pos bh q n : Nat} {a : List Tk} (h : ScanAt s R pos bh q n a) : q ≤ s.size := by have := h.hq; have := h.hpos; have := h.hbh; omega
theorem scan_end {s : ByteArray} {R : Res} {pos bh q n : Nat} {a : List Tk} (h : ScanAt s R pos bh q n a) (hp : ¬ pos < s.size) : R = ⟨a, n, false⟩ := by
  have h1 := h.hq
  have h2 := h.hbh
  have hq : s.size ≤ q := by omega
  rw [← h.rest, List.drop_eq_nil_of_le (by rw [bs_len]; exact hq)]
  rfl
theorem scan_skip {s : ByteArray} {R : Res} {pos bh q n : Nat} {a : List Tk} (h : ScanAt s R pos bh q n a) (hp : pos < s.size) (hb : pos < bh) : ScanAt s R (pos + (Utf8.decode s pos).2) bh q n a := by
  obtain ⟨m1, m2, -⟩ := dec_more s pos hp
  have hs := h.skip pos (Nat.le_refl _) hb hp
  have hq := h.hq
  exact ⟨m2, h.hbh, by omega, fun p h1 h2 => h.skip p (by omega) h2, h.rest, h.len, h.line⟩
theorem drop_at {s : ByteArray} {pos : Nat} (hp : pos < s.size) : (bs s).drop pos = s[pos] :: (bs s).drop (pos + 1) := by
  rw [List.drop_eq_getElem_cons (by rw [bs_len]; exact hp)]
  rfl
/-- The place ahead: a rune of ASCII is its byte. -/
theorem rune_low {s : ByteArray} {pos r : Nat} (hp : pos < s.size) (hr : (Utf8.decode s pos).1 = r) (h : r < 128) : s[pos].toNat = r ∧ (Utf8.decode s pos).2 = 1 := by
  by_cases ha : (s[pos]'hp).toNat < 128
  · rw [decode_ascii s pos hp ha] at hr ⊢; exact ⟨hr, rfl⟩
  · have := (decode_high s pos hp (by omega)).1; omega
theorem u8_eq {c : UInt8} {n : Nat} (h : c.toNat = n) (hn : n < 256) : c = UInt8.ofNat n := by
  apply UInt8.toNat_inj.1
  rw [UInt8.toNat_ofNat', h]
  omega
theorem scan_blank {s : ByteArray} {R : Res} {pos bh q n : Nat} {a : List Tk} (h : ScanAt s R pos bh q n a) (hp : pos < s.size) (hb : ¬ pos < bh) {r : Nat} (hr : (Utf8.decode s pos).1 = r) (h2 : r = 32 ∨ r = 9) : ScanAt s R (pos + (Utf8.decode s pos).2) bh (pos + 1) n a := by
  obtain ⟨e1, e2⟩ := rune_low hp hr (by omega)
  have hq := h.hq
  obtain rfl : q = pos := by omega
  rw [e2]
  refine ⟨by omega, h.hbh, .inl ⟨by omega, rfl⟩, fun p g1 g2 => by omega, ?_, by have := h.len; omega, by have := h.line; omega⟩
  rw [← h.rest, drop_at hp, lex_blank]
  rcases h2 with rfl | rfl
  · exact .inl (u8_eq e1 (by decide))
  · exact .inr (u8_eq e1 (by decide))
theorem scan_note {s : ByteArray} {R : Res} {pos bh q n : Nat} {a : List Tk} (h : ScanAt s R pos bh q n a) (hp : pos < s.size) (hb : ¬ pos < bh) (hr : (Utf8.decode s pos).1 = 35) : ScanAt s R (pos + (Utf8.decode s pos).2) (pos + spn inlC ((bs s).drop pos)) (pos + spn inlC ((bs s).drop pos)) n a := by
  obtain ⟨e1, e2⟩ := rune_low hp hr (by omega)
  have hq := h.hq
  obtain rfl : q = pos := by omega
  have ec : s[q] = 35 := u8_eq e1 (by decide)
  have hd := drop_at hp
  rw [ec] at hd
  have h1 := spn_one (p := inlC) (t := (bs s).drop (q + 1)) inl_35
  rw [← hd] at h1
  have h3 := spn_le inlC ((bs s).drop q)
  rw [List.length_drop, bs_len] at h3
  rw [e2]
  refine ⟨by omega, by omega, ?_, ?_, ?_, by have := h.len; omega, by have := h.line; omega⟩
  · by_cases g : spn inlC ((bs s).drop q) = 1
    · rw [g]; exact .inl ⟨Nat.le_refl _, rfl⟩
    · exact .inr ⟨by omega, rfl⟩
  · refine skip_note (by omega) fun g => ?_
    have h4 := spn_at (p := inlC) (l := (bs s).drop q) (by rw [List.length_drop, bs_len]; omega)
    rw [List.getElem_drop] at h4
    have h5 : inlC (s[q + spn inlC ((bs s).drop q)]'g) = false := h4
    have h6 := inl_no h5
    omega
  · rw [← h.rest]
    have h5 : lexL ((bs s).drop q) a n = lexL (((bs s).drop q).drop (spn inlC ((bs s).drop q))) a n := by rw [hd]; exact lex_note
    rw [h5, List.drop_drop]
theorem scan_line {s : ByteArray} {R : Res} {pos bh q n : Nat} {a : List Tk} (h : ScanAt s R pos bh q n a) (hp : pos < s.size) (hb : ¬ pos < bh) (hr : (Utf8.decode s pos).1 = 10) : ScanAt s R (pos + (Utf8.decode s pos).2) bh (pos + 1) (n + 1) (endL a n) := by
  obtain ⟨e1, e2⟩ := rune_low hp hr (by omega)
  have hq := h.hq
  obtain rfl : q = pos := by omega
  have ec : s[q] = 10 := u8_eq e1 (by decide)
  rw [e2]
  refine ⟨by omega, h.hbh, .inl ⟨by omega, rfl⟩, fun p g1 g2 => by omega, ?_, by have := h.len; have := endL_len a n; omega, by have := h.line; omega⟩
  rw [← h.rest, drop_at hp, ec, lex_line]
theorem tok_at {s : ByteArray} {pos r : Nat} (hp : pos < s.size) (hr : (Utf8.decode s pos).1 = r) (h1 : ¬ r = 32) (h2 : ¬ r = 9) (h3 : ¬ r = 35) (h4 : ¬ r = 10) : tokC s[pos] := by
  have key : ∀ m : Nat, m < 128 → s[pos] = UInt8.ofNat m → r = m := by
    intro m hm e
    have e1 : s[pos].toNat = m := by rw [e, UInt8.toNat_ofNat']; omega
    rw [decode_ascii s pos hp (by omega)] at hr
    rw [← hr]; exact e1
  exact ⟨fun g => g.elim (fun e => h1 (key 32 (by omega) e)) (fun e => h2 (key 9 (by omega) e)), fun e => h3 (key 35 (by omega) e), fun e => h4 (key 10 (by omega) e)⟩
theorem scan_tok {s : ByteArray} {R : Res} {pos bh q n : Nat} {a : List Tk} (h : ScanAt s R pos bh q n a) (hp : pos < s.size) (hb : ¬ pos < bh) (ht : tokC s[pos]) {x : Tk} {k : Nat} (e : fstO ((bs s).drop pos) = some (x, k)) : pos + k ≤ s.size ∧ ScanAt s R (pos + (Utf8.decode s pos).2) (pos + k) (pos + k) n (a ++ [setL x n]) := by
  have hq := h.hq
  obtain rfl : q = pos := by omega
  obtain ⟨k1, k2⟩ := fst_size e
  have hlow := fst_low e
  rw [List.length_drop, bs_len] at k2
  have hl2 : ∀ p, q ≤ p → p < q + k → (g : p < s.size) → (s[p]'g).toNat < 128 := by
    intro p g1 g2 g
    refine hlow _ ?_
    have : (s[p]'g) = ((bs s).drop q)[p - q]'(by rw [List.length_drop, bs_len]; omega) := by
      rw [List.getElem_drop]
      have e3 : q + (p - q) = p := by omega
      simp only [e3]
      rfl
    rw [this]
    rw [List.mem_take_iff_getElem]
    exact ⟨p - q, by rw [List.length_drop, bs_len]; omega, rfl⟩
  have hd := drop_at hp
  have e2 : (Utf8.decode s q).2 = 1 := by rw [decode_ascii s q hp (hl2 q (Nat.le_refl _) (by omega) hp)]
  rw [e2]
  refine ⟨by omega, by omega, by omega, ?_, skip_ascii fun p g1 g2 g => hl2 p (by omega) g2 g, ?_, by rw [List.length_append]; have := h.len; simp; omega, by have := h.line; omega⟩
  · by_cases g : k = 1
    · subst g; exact .inl ⟨Nat.le_refl _, rfl⟩
    · exact .inr ⟨by omega, rfl⟩
  · rw [← h.rest]
    rw [hd] at e ⊢
    rw [lex_tok ht e, ← hd, List.drop_drop]
theorem scan_bad {s : ByteArray} {R : Res} {pos bh q n : Nat} {a : List Tk} (h : ScanAt s R pos bh q n a) (hp : pos < s.size) (hb : ¬ pos < bh) (ht : tokC s[pos]) (e : fstO ((bs s).drop pos) = none) : R = ⟨a, n, true⟩ := by
  have hq := h.hq
  obtain rfl : q = pos := by omega
  rw [← h.rest]
  rw [drop_at hp] at e ⊢
  exact lex_bad ht e
theorem own_iter {lo : Nat} {w : World} {v : Value} {l : List Tk} {k : Nat} {s : ByteArray} {pos : Nat} (ho : Own lo w v l) (hk : w.heap[k]? = some (.stringIter s pos)) (pos' : Nat) : Own lo (w.iterAt k s pos') v l := by
  refine World.ownsRow.kept ho (row := some k) ⟨rfl, rfl, rfl, by rw [Lib.iterAt_size]; exact Nat.le_refl _, fun j _ hj => Lib.iterAt_other w k j s pos' (fun e => hj (by rw [e]))⟩ ?_
  rcases ho.2 with ⟨rfl, h0⟩ | ⟨g, cap, cur, rfl, hgg, hcur, -⟩
  · exact .inl rfl
  · refine .inr fun e => ?_
    simp [Value.ownBlock] at e
    subst e
    rw [hk] at hcur
    cases hcur
/-- What scan leaves: the list so far, and its frame. -/
def Scanned (w : World) (R : Res) (e : Ending) (w' : World) : Prop := ∃ v, e = .returned (.tuple #[v, .int .i64 (R.n : Int), .bool R.bad]) ∧ Own w.heap.size w' v R.a ∧ Below w.heap.size w w'
theorem scanned {w w' : World} {R : Res} {a : List Tk} {n : Nat} {b : Bool} {v : Value} {e : Ending} (h : R = ⟨a, n, b⟩) (he : e = .returned (.tuple #[v, .int .i64 (n : Int), .bool b])) (ho : Own w.heap.size w' v a) (hb : Below w.heap.size w w') : Scanned w R e w' := by
  subst h; exact ⟨v, he, ho, hb⟩
/-- The worlds between two rounds. -/
structure ScanW (w : World) (s : ByteArray) (pos : Nat) (v : Value) (a : List Tk) (wr : World) : Prop where
  own : Own w.heap.size wr v a
  iter : wr.heap[w.heap.size]? = some (.stringIter s pos)
  below : Below w.heap.size w wr
theorem ScanW.next {w wr : World} {s : ByteArray} {pos : Nat} {v : Value} {a : List Tk} (h : ScanW w s pos v a wr) (pos' : Nat) : ScanW w s pos' v a (wr.iterAt w.heap.size s pos') :=
  ⟨own_iter h.own h.iter pos', Lib.iterAt_heap wr _ s pos pos' h.iter, Lib.below_iterAt h.below (Nat.le_refl _) s pos'⟩
theorem ScanW.call {w wr w2 : World} {s : ByteArray} {pos : Nat} {v : Value} {a : List Tk} (h : ScanW w s pos v a wr) (hb : Below wr.heap.size wr w2) : ScanW w s pos v a w2 :=
  ⟨own_below h.own hb, (hb.block _ (Array.getElem?_eq_some_iff.1 h.iter).1).trans h.iter, bl_call h.below hb⟩
theorem ScanW.grew {w wr w2 : World} {s : ByteArray} {pos : Nat} {v v2 : Value} {a a2 : List Tk} (h : ScanW w s pos v a wr) (ho : Own w.heap.size w2 v2 a2) (hg : wr.grownBy w2 v.ownBlock) : ScanW w s pos v2 a2 w2 :=
  ⟨ho, kept_iter h.own hg h.iter, below_grown h.below h.below.size h.own hg⟩
theorem ScanW.start (w : World) (s : ByteArray) : ScanW w s 0 (.slice none 0 0) [] (w.iter s 0) := ⟨World.ownsRow_nil _ _ _ _, World.iter_heap w s 0, bl_alloc (Below.refl _ _)⟩
set_option maxRecDepth 100000 in
theorem scan_any (s : ByteArray) (w : World) (hs : s.size ≤ 20000) (hE : Env w) : Calls Tryd.prog 23 #[.string s] w (Scanned w (lexL (bs s) [] 1)) := by
  have hs' : (s.size : Int) ≤ 20000 := by omega
  have HS0 := Lib.hid (scan_start s)
  obtain ⟨R, hR⟩ : ∃ R, lexL (bs s) [] 1 = R := ⟨_, rfl⟩
  rw [hR] at HS0
  rw [hR]
  clear hR
  have HEE : Hid (Env w) := Lib.hid hE
  clear hE
  go_enter Tryd.func23, Tryd.ntmps23
  go_wp2_with fail
  go_step3
  go_wp2_with fail
  go_step3
  go_wp2_with fail
  go_loopw [5, 6, 7, 8] (fun v ln wg bh wr => ∃ pos b q n : Nat, ∃ a : List Tk, ln = .int .i64 (n : Nat) ∧ wg = .bool false ∧ bh = .int .i64 (b : Nat) ∧ Hid (ScanAt s R pos b q n a) ∧ ScanW w s pos v a wr) (fun v ln wg bh wr => s.size - wr.iterPos w.heap.size)
  case atStart => exact ⟨0, 0, 0, 1, [], rfl, rfl, rfl, HS0, ScanW.start w s⟩
  case round =>
    obtain ⟨pos, b, q, n, a, rfl, rfl, rfl, HS, HW⟩ := hrel
    have HWW := Lib.hid HW
    have hit := HW.iter
    clear HW
    by_cases hp : pos < s.size
    · have hnx := fun ty => Lib.run_next_any_at (P := Tryd.prog) wr w.heap.size s pos ty hit hp
      have HW2 := HWW.out.next (pos + (Utf8.decode s pos).2)
      obtain ⟨r, hr⟩ : ∃ r, (Utf8.decode s pos).1 = r := ⟨_, rfl⟩
      obtain ⟨m, hm⟩ : ∃ m, (Utf8.decode s pos).2 = m := ⟨_, rfl⟩
      obtain ⟨m1, m2, -⟩ := dec_more s pos hp
      rw [hm] at m1 m2 HW2
      simp only [hr, hm] at hnx
      obtain ⟨w2, hw2⟩ : ∃ w2, wr.iterAt w.heap.size s (pos + m) = w2 := ⟨_, rfl⟩
      rw [hw2] at HW2
      simp only [hw2] at hnx
      have HX := Lib.hid HW2
      have hpi : wr.iterPos w.heap.size = pos := by simp [World.iterPos, hit]
      clear HW2 hw2
      by_cases hb : pos < b
      · have c1 : decide ((pos : Int) < (b : Int)) = true := decide_eq_true (by omega)
        have c2 : (pos : Int) < (b : Int) := by omega
        have HS2 := scan_skip HS.out hp hb
        rw [hm] at HS2
        have HS3 := Lib.hid HS2
        clear HS2 HS hr hm HWW hit
        go_wp2_with fail
        go_roundw
        case rel => exact ⟨pos + m, b, q, n, a, rfl, rfl, rfl, HS3, HX.out⟩
        case measure =>
          have h5 : w2.iterPos w.heap.size = pos + m := by simp [World.iterPos, HX.out.iter]
          rw [h5, hpi]; omega
      · have c1 : decide ((pos : Int) < (b : Int)) = false := decide_eq_false (by omega)
        have p0 : (0 : Int) ≤ (pos : Int) := by omega
        have p1 : (pos : Int) ≤ (s.size : Int) := by omega
        have hTs : (s.extract pos s.size).size ≤ 20000 := by rw [ByteArray.size_extract]; omega
        have hTb : bs (s.extract pos s.size) = (bs s).drop pos := by rw [tail_mk, bs_mk]
        have p2 : (pos : Int) ≤ 20000 := by omega
        by_cases r1 : r = 32 ∨ r = 9
        · have HS2 := scan_blank HS.out hp hb hr r1
          rw [hm] at HS2
          have HS3 := Lib.hid HS2
          have q32 : ((r : Int) == 32) = true ∨ (((r : Int) == 32) = false ∧ ((r : Int) == 9) = true) := by
            rcases r1 with rfl | rfl
            · exact .inl (by decide)
            · exact .inr ⟨by decide, by decide⟩
          clear HS2 HS hr hm HWW hit hTs hTb r1
          rcases q32 with q32 | ⟨q32, q9⟩
          · go_wp2_with fail
            go_roundw
            case rel => exact ⟨pos + m, b, pos + 1, n, a, rfl, rfl, rfl, HS3, HX.out⟩
            case measure =>
              have h5 : w2.iterPos w.heap.size = pos + m := by simp [World.iterPos, HX.out.iter]
              rw [h5, hpi]; omega
          · go_wp2_with fail
            go_roundw
            case rel => exact ⟨pos + m, b, pos + 1, n, a, rfl, rfl, rfl, HS3, HX.out⟩
            case measure =>
              have h5 : w2.iterPos w.heap.size = pos + m := by simp [World.iterPos, HX.out.iter]
              rw [h5, hpi]; omega
        have q32 : ((r : Int) == 32) = false := by rw [beq_eq_false_iff_ne]; omega
        have q9 : ((r : Int) == 9) = false := by rw [beq_eq_false_iff_ne]; omega
        by_cases r2 : r = 35
        · have HS2 := scan_note HS.out hp hb (hr.trans r2)
          rw [hm, ← hTb] at HS2
          have q35 : ((r : Int) == 35) = true := by rw [r2]; decide
          have I1 := span_inl (s.extract pos s.size) w2 (by omega)
          have hK := spn_le inlC (bs (s.extract pos s.size))
          rw [bs_len] at hK
          obtain ⟨K, eK⟩ : ∃ K, spn inlC (bs (s.extract pos s.size)) = K := ⟨_, rfl⟩
          rw [eK] at I1 HS2 hK
          have k0 : (0 : Int) ≤ (K : Int) := by omega
          have k1 : (K : Int) ≤ 20000 := by omega
          have HS3 := Lib.hid HS2
          clear HS2 HS hr hm HWW hit hTs hTb r1 r2 eK hK
          go_wp2_with fail
          refine I1.mono ?_
          rintro e w3 ⟨rfl, hb3⟩
          have HX2 := Lib.hid (HX.out.call hb3)
          go_wp2_with fail
          go_roundw
          case rel => exact ⟨pos + m, pos + K, pos + K, n, a, rfl, rfl, by go_num, HS3, HX2.out⟩
          case measure =>
            have h5 : w3.iterPos w.heap.size = pos + m := by simp [World.iterPos, HX2.out.iter]
            rw [h5, hpi]; omega
        have q35 : ((r : Int) == 35) = false := by rw [beq_eq_false_iff_ne]; omega
        have hal : a.length ≤ 20000 ∧ n ≤ 20001 := by have := HS.out.len; have := HS.out.line; have := HS.out.q_le; omega
        have n0 : (0 : Int) ≤ (n : Int) := by omega
        have n1 : (n : Int) ≤ 20001 := by omega
        by_cases r3 : r = 10
        · have HS2 := scan_line HS.out hp hb (hr.trans r3)
          rw [hm] at HS2
          have q10 : ((r : Int) == 10) = true := by rw [r3]; decide
          have HS3 := Lib.hid HS2
          have I1 := endline_any n w2 HX.out.own HX.out.below.size (by omega)
          clear HS2 HS hr hm HWW hit hTs hTb r1 r2 r3
          go_wp2_with fail
          refine I1.mono ?_
          rintro e w3 ⟨v3, rfl, ho3, hg3⟩
          have HX2 := Lib.hid (HX.out.grew ho3 hg3)
          clear ho3 hg3
          go_wp2_with fail
          go_roundw
          case rel => exact ⟨pos + m, b, pos + 1, n + 1, endL a n, by go_num, rfl, rfl, HS3, HX2.out⟩
          case measure =>
            have h5 : w3.iterPos w.heap.size = pos + m := by simp [World.iterPos, HX2.out.iter]
            rw [h5, hpi]; omega
        have q10 : ((r : Int) == 10) = false := by rw [beq_eq_false_iff_ne]; omega
        have ht := tok_at hp hr (fun e => r1 (.inl e)) (fun e => r1 (.inr e)) r2 r3
        have I1 := first_any (s.extract pos s.size) w2 (by omega) (HEE.out.below HX.out.below)
        rw [hTb] at I1
        cases hf : fstO ((bs s).drop pos) with
        | none =>
          have HR := Lib.hid (scan_bad HS.out hp hb ht hf)
          rw [hf] at I1
          clear HS hr hm HWW hit hTs hTb r1 r2 r3 ht hf hal
          go_wp2_with fail
          refine I1.mono ?_
          rintro e w3 ⟨x, k, rfl, hb3, ⟨h1, h2⟩ | ⟨-, rfl⟩⟩
          · cases h1
          have HX2 := Lib.hid (HX.out.call hb3)
          go_wp2_with fail
          go_ret3
          exact scanned HR.out rfl (own_below HX2.out.own (by (repeat (first | (with_reducible exact Below.refl _ _) | (with_reducible assumption) | (with_reducible apply bl_alloc) | (with_reducible apply bl_drewN) | (with_reducible apply bl_drew) | (with_reducible refine bl_set ?_ (by first | (simp; done) | (simp; omega)) _) | (with_reducible refine bl_call ?_ (by assumption)))))) (by have := HX2.out.below; (repeat (first | (with_reducible exact Below.refl _ _) | (with_reducible assumption) | (with_reducible apply bl_alloc) | (with_reducible apply bl_drewN) | (with_reducible apply bl_drew) | (with_reducible refine bl_set ?_ (by first | (simp; done) | (simp; omega)) _) | (with_reducible refine bl_call ?_ (by assumption)))))
        | some y =>
          obtain ⟨x, k⟩ := y
          obtain ⟨hk2, HS2⟩ := scan_tok HS.out hp hb ht hf
          rw [hm] at HS2
          have HS3 := Lib.hid HS2
          rw [hf] at I1
          obtain ⟨hk1, -⟩ := fst_size hf
          clear HS2 HS hr hm HWW hit hTs hTb r1 r2 r3 ht hf
          go_wp2_with fail
          refine I1.mono ?_
          rintro e w3 ⟨x', k', rfl, hb3, ⟨h1, h2⟩ | ⟨h1, -⟩⟩
          · simp only [Option.some.injEq, Prod.mk.injEq] at h1
            obtain ⟨rfl, rfl⟩ := h1
            have kz : ((k : Int) == 0) = false := by rw [beq_eq_false_iff_ne]; omega
            have k0 : (0 : Int) ≤ (k : Int) := by omega
            have k1 : (pos : Int) + (k : Int) ≤ 20000 := by omega
            have HX2 := Lib.hid (HX.out.call hb3)
            have hB : Below w3.heap.size w3 ((w3.alloc (.cells #[.int .i64 x.k, .string x.t, .int .i64 x.n, .int .i64 (n : Int)] 31)).alloc (.cells #[.int .i64 x.k, .string x.t, .int .i64 x.n, .int .i64 (n : Int)] 31)) := bl_alloc (bl_alloc (Below.refl _ _))
            have hn4 := new4 (w := w3.alloc (.cells #[.int .i64 x.k, .string x.t, .int .i64 x.n, .int .i64 (n : Int)] 31)) (x := setL x n) (t := 31)
            rw [show (w3.alloc (.cells #[.int .i64 x.k, .string x.t, .int .i64 x.n, .int .i64 (n : Int)] 31)).heap.size = w3.heap.size + 1 by simp] at hn4
            obtain ⟨v4, w4, hrun, ho4, hg4⟩ := append_tok (own_below HX2.out.own hB) (by simp) hn4 (by omega) (by have := hB.size; have := HX2.out.below.size; omega)
            have HX3 := Lib.hid (HX2.out.grew ho4 (grown_alloc (grown_alloc hg4)))
            clear hB hn4 ho4 hg4
            go_wp2_with (at_builtin; refine Lib.wpList_append_run _ rfl _ _ _ _ rfl _ _ rfl rfl _ _ hrun ?_)
            go_roundw
            case rel => exact ⟨pos + m, pos + k, pos + k, n, a ++ [setL x n], rfl, rfl, by go_num, HS3, HX3.out⟩
            case measure =>
              have h5 : w4.iterPos w.heap.size = pos + m := by simp [World.iterPos, HX3.out.iter]
              rw [h5, hpi]; omega
          · cases h1
    · have hnx := fun ty => Lib.run_next_end_at (P := Tryd.prog) wr w.heap.size s pos ty hit hp
      have HR := Lib.hid (scan_end HS.out hp)
      clear hit HS
      go_wp2_with fail
      go_ret3
      exact scanned HR.out rfl HWW.out.own HWW.out.below
end Go.Proofs.YtilnojcbebchdaaDoor.Lx
