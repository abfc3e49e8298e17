/-
  The law of the longest text, walked.
-/
import Derived.Test.YtilnojcbebchdaaDoorLxAwake
import Derived.Test.YtilnojcbebchdaaDoorLxBuild
import Derived.Laws.IdiomStrings
import Derived.Lib.BufferWrite
import Derived.Laws.CopyOwn
namespace Go.Proofs.YtilnojcbebchdaaDoor.Lx
open Go.RowKit
set_option maxHeartbeats 4000000
set_option linter.unusedVariables false
set_option linter.unusedSimpArgs false
/-- A text of n times the letter a: its tokens. -/
def aas (n : Nat) : List UInt8 := List.replicate n 97
theorem as_len (n : Nat) : (aas n).length = n := List.length_replicate
theorem as_at {n j : Nat} (h : j < (aas n).length) : (aas n)[j] = 97 := by unfold aas; exact List.getElem_replicate ..
theorem tok_as {n : Nat} (h0 : 0 < n) (h1 : n ≤ 20000) : tokL (aas n) = [⟨1, mkS (aas n), 0, 1⟩, ⟨4, mt, 0, 1⟩, ⟨0, mt, 0, 1⟩] ∧ tokN (aas n) = 0 ∧ tokE (aas n) = 0 := by
  have hW : spn wrdC (aas n) = n := by rw [spn_all (fun j hj => by rw [as_at hj]; decide), as_len]
  have hL : spn ltrC (aas n) = n := by rw [spn_all (fun j hj => by rw [as_at hj]; decide), as_len]
  have hF : fstO (aas n) = some (⟨1, mkS (aas n), 0, 0⟩, n) := by
    have := fst_word (l := aas n) (k := n) (by unfold wdN; rw [if_neg (by omega), hW]) h0
    rw [List.take_of_length_le (by rw [as_len]; exact Nat.le_refl _)] at this
    exact this
  have e : lexL (aas n) [] 1 = ⟨[⟨1, mkS (aas n), 0, 1⟩], 1, false⟩ := by
    obtain ⟨m, rfl⟩ : ∃ m, n = m + 1 := ⟨n - 1, by omega⟩
    obtain ⟨T, hT⟩ : ∃ T, aas (m + 1) = T := ⟨_, rfl⟩
    have hc : T = 97 :: aas m := by rw [← hT]; unfold aas; rw [List.replicate_succ]
    rw [hT] at hF ⊢
    have hl : T.length = m + 1 := by rw [← hT, as_len]
    have hd : T.drop (m + 1) = [] := List.drop_eq_nil_of_le (by omega)
    have step : lexL T [] 1 = lexL (T.drop (m + 1)) ([] ++ [setL ⟨1, mkS T, 0, 0⟩ 1]) 1 := by
      rw [hc] at hF ⊢
      exact lex_tok (by unfold tokC; decide) hF
    rw [step, hd, lexL_nil]
    rfl
  obtain ⟨e1, e2, e3⟩ := tok_good (l := aas n) (by rw [as_len]; omega) (by rw [e])
  rw [e1, e2, e3, e]
  exact ⟨rfl, rfl, rfl⟩
def bc (k n : Nat) : List UInt8 := List.replicate k 97 ++ List.replicate (n - k) 0
theorem bc_len {k n : Nat} (h : k ≤ n) : (bc k n).length = n := by unfold bc; simp only [List.length_append, List.length_replicate]; omega
theorem bc_zero (n : Nat) : bc 0 n = List.replicate n 0 := by unfold bc; simp
theorem bc_all (n : Nat) : bc n n = aas n := by unfold bc aas; simp
theorem bc_set {k n : Nat} (h : k < n) : (bc k n).set k 97 = bc (k + 1) n := by
  unfold bc
  rw [List.set_append_right _ _ (by simp), List.length_replicate, Nat.sub_self, show n - k = (n - (k + 1)) + 1 by omega, List.replicate_succ, List.set_cons_zero, List.replicate_succ', List.append_assoc]
  rfl
def bv (l : List UInt8) : List Value := l.map fun c => .int .u8 (c.toNat : Int)
theorem bv_len (l : List UInt8) : (bv l).length = l.length := by unfold bv; simp
theorem bv_set {l : List UInt8} {i : Nat} : (bv l).set i (.int .u8 97) = bv (l.set i 97) := by unfold bv; rw [List.map_set]; rfl
def zs (k : Nat) : List Value := List.replicate k (.int .u8 0)
theorem zs_len (k : Nat) : (zs k).length = k := by unfold zs; rw [List.length_replicate]
theorem zs_bv (n : Nat) : zs n = bv (List.replicate n 0) := by unfold zs bv; rw [List.map_replicate]; rfl
theorem made_u8 (M : Nat) (hM : M ≤ 140737488355328) (w : World) : (Instr.makeSlice 42 (.int .i64 (M : Int)) (.int .i64 (M : Int))).run Tryd.prog w = .ok (.slice (some ⟨w.heap.size, 0, none⟩) M M) (w.alloc (.cells (zs M).toArray 5)) := by
  obtain ⟨i0, hi, hz0, hz1, hz2⟩ := parts_of u8_info
  rw [run_make w 42 5 i0 (.int .u8 0) Tryd.underlying42 hi hz0 .i64 .i64 M M (by omega) (by omega) (by rw [hz2]; omega) (by omega), hz1]
  have : madeCells (Value.int .u8 0).cells ((M : Int).toNat * 1) = (zs M).toArray := by
    apply Array.toList_inj.1
    rw [show (Value.int .u8 0).cells = #[.int .u8 0] from rfl, toList_madeCells_one]
    rw [Nat.mul_one, Int.toNat_natCast]; rfl
  rw [this, Int.toNat_natCast]
abbrev Row (B : Nat) (g n : Nat) (l : List UInt8) (w : World) : Prop := w.ownsRow B 5 1 (.slice (some ⟨g, 0, none⟩) n n) n (bv l)
theorem row_zeros {w : World} {B n : Nat} (hB : B ≤ w.heap.size) (hn : n ≤ 140737488355328) : Row B w.heap.size n (List.replicate n 0) (w.alloc (.cells (zs n).toArray 5)) :=
  ⟨by rw [bv_len, List.length_replicate]; omega, .inr ⟨_, n, _, rfl, hB, heap_alloc_new w _, Nat.le_refl _, by unfold maxLen; omega, by rw [List.size_toArray, zs_len]; omega, by rw [zs_bv]; simp; exact List.take_of_length_le (by rw [bv_len, List.length_replicate]; exact Nat.le_refl _)⟩⟩
theorem row_there {w : World} {B g n k : Nat} (h : Row B g n (bc k n) w) (hk : k < n) : ∃ u, w.cell? ⟨g, k, none⟩ = some u := by
  have h1 := h.cellAt k (by omega)
  rw [List.getElem?_eq_getElem (by rw [bv_len, bc_len (by omega)]; exact hk)] at h1
  exact ⟨_, h1⟩
theorem row_set {w : World} {B g n k : Nat} (h : Row B g n (bc k n) w) (hk : k < n) : Row B g n (bc (k + 1) n) (w.setCell ⟨g, k, none⟩ (.int .u8 97)) := by
  have := (h.stored k (.int .u8 97)).1
  rw [bv_set, bc_set hk] at this
  exact this
theorem row_str {w : World} {B g n : Nat} (h : Row B g n (bc n n) w) (hn : n ≤ 140737488355328) : (convert 42 9 (.slice (some ⟨g, 0, none⟩) n n)).run Tryd.prog w = .ok (.string (mkS (aas n))) w := by
  rw [bc_all] at h
  have hc := run_convert_bytes_back (P := Tryd.prog) w 42 9 5 ⟨g, 0, none⟩ n (aas n) Tryd.underlying42 Tryd.underlying5 Tryd.underlying9 fun j hj => by
    rw [add_off, Nat.zero_add, h.cellAt j (by rw [as_len] at hj; omega)]
    unfold bv
    rw [List.getElem?_map, List.getElem?_eq_getElem hj]; rfl
  rw [as_len] at hc
  exact hc
set_option maxRecDepth 100000 in
theorem long_in (n : Nat) (w : World) (hE : Env w) (g0 : 19990 ≤ n) (g1 : n ≤ 20010) : Calls Tryd.prog 9 #[.int .i64 (n : Int)] w (Gives (.bool true) w) := by
  have HE := Lib.hid hE
  have hN : Hid (19990 ≤ n ∧ n ≤ 20010) := Lib.hid ⟨g0, g1⟩
  have q0 : decide ((n : Int) < 19990) = false := decide_eq_false (by omega)
  have q1 : decide ((20010 : Int) < (n : Int)) = false := decide_eq_false (by omega)
  have hmk := made_u8 n (by omega) w
  have HZ : Hid (Row w.heap.size w.heap.size n (bc 0 n) (w.alloc (.cells (zs n).toArray 5))) := Lib.hid (by rw [bc_zero]; exact row_zeros (Nat.le_refl _) (by omega))
  have HB0 : Hid (Below w.heap.size w (w.alloc (.cells (zs n).toArray 5))) := Lib.hid (bl_alloc (Below.refl _ _))
  obtain ⟨w1, hw1⟩ : ∃ w', w.alloc (.cells (zs n).toArray 5) = w' := ⟨_, rfl⟩
  obtain ⟨g, hg⟩ : ∃ g, w.heap.size = g := ⟨_, rfl⟩
  have HG : Hid (w.heap.size = g) := Lib.hid hg
  rw [hw1] at hmk HZ HB0
  have HZ2 : Hid (Row w.heap.size g n (bc 0 n) w1) := Lib.hid (by rw [← hg]; exact HZ.out)
  rw [hg] at hmk
  clear HZ hw1 hg hE g0 g1
  go_enter Tryd.func9, Tryd.ntmps9
  go_wp2_with fail
  go_loopw [4] (fun i wr => ∃ k : Nat, k ≤ n ∧ i = .int .i64 (k : Nat) ∧ Hid (Row w.heap.size g n (bc k n) wr) ∧ Hid (Below w.heap.size w wr)) (fun i _ => n - (intOf i).toNat)
  case atStart => exact ⟨0, Nat.zero_le _, rfl, HZ2, HB0⟩
  case round =>
    obtain ⟨k, hk, rfl, HR, HB⟩ := hrel
    have d1 : (0 : Int) ≤ (k : Int) := by omega
    have d3 : (n : Int) ≤ 9223372036854775807 := by have := hN.out; omega
    rcases Nat.lt_or_ge k n with h | h
    · have d2 : (k : Int) < (n : Int) := by omega
      obtain ⟨u, hu⟩ := row_there HR.out h
      have fz := HR.out.frozenAt k
      have HR2 := Lib.hid (row_set HR.out h)
      have HB2 : Hid (Below w.heap.size w (wr.setCell ⟨g, k, none⟩ (.int .u8 97))) := Lib.hid (bl_set HB.out (by rw [HG.out]; exact Nat.le_refl _) _)
      go_wp2_with fail
      go_roundw
      case rel => exact ⟨k + 1, by omega, by go_num, HR2, HB2⟩
      case measure => simp [intOf]; omega
    · obtain rfl : k = n := by omega
      have hcv := row_str HR.out (by have := hN.out; omega)
      have hsz : (mkS (aas k)).size = k := by rw [← bs_len, bs_mk, as_len]
      by_cases h2 : 20000 < k
      · have q2 : decide ((20000 : Int) < (k : Int)) = true := decide_eq_true (by omega)
        have IT := tokens_at (s := mkS (aas k)) (tok_long (by rw [bs_mk, as_len]; exact h2)) (by have := hN.out; omega) wr (HE.out.below HB.out)
        clear hsz
        go_wp2_with fail
        refine IT.mono ?_
        rintro e w5 ⟨v5, rfl, ho5, hb5⟩
        have HB5 : Hid (Below w.heap.size w w5) := Lib.hid (by have HBB := HB.out; (repeat (first | (with_reducible exact Below.refl _ _) | (with_reducible assumption) | (with_reducible apply bl_alloc) | (with_reducible apply bl_drewN) | (with_reducible apply bl_drew) | (with_reducible refine bl_set ?_ (by first | (simp; done) | (simp; omega)) _) | (with_reducible refine bl_call ?_ (by assumption)))))
        clear hb5 IT
        obtain ⟨p, c, rfl, hT, -, -⟩ := own_toks ho5
        clear ho5 hT
        rw [show ([] : List Tk).length = 0 from rfl]
        go_wp2_with fail
        refine (awake_any w5 (HE.out.below HB5.out)).mono ?_
        rintro e w9 ⟨rfl, hb9⟩
        go_wp2_with fail
        go_ret
        exact ⟨rfl, by have HBB := HB5.out; (repeat (first | (with_reducible exact Below.refl _ _) | (with_reducible assumption) | (with_reducible apply bl_alloc) | (with_reducible apply bl_drewN) | (with_reducible apply bl_drew) | (with_reducible refine bl_set ?_ (by first | (simp; done) | (simp; omega)) _) | (with_reducible refine bl_call ?_ (by assumption))))⟩
      · have q2 : decide ((20000 : Int) < (k : Int)) = false := decide_eq_false (by omega)
        have IT := tokens_at (s := mkS (aas k)) (by rw [bs_mk]; exact tok_as (by have := hN.out; omega) (by omega)) (by have := hN.out; omega) wr (HE.out.below HB.out)
        obtain ⟨T, hT0⟩ : ∃ T, mkS (aas k) = T := ⟨_, rfl⟩
        rw [hT0] at IT hcv hsz
        have t1 : ((T.size : Int) == (k : Int)) = true := by rw [hsz]; simp
        clear hsz hT0
        go_wp2_with fail
        refine IT.mono ?_
        rintro e w5 ⟨v5, rfl, ho5, hb5⟩
        have HB5 : Hid (Below w.heap.size w w5) := Lib.hid (by have HBB := HB.out; (repeat (first | (with_reducible exact Below.refl _ _) | (with_reducible assumption) | (with_reducible apply bl_alloc) | (with_reducible apply bl_drewN) | (with_reducible apply bl_drew) | (with_reducible refine bl_set ?_ (by first | (simp; done) | (simp; omega)) _) | (with_reducible refine bl_call ?_ (by assumption)))))
        clear hb5 IT
        obtain ⟨p, c, rfl, hT, -, -⟩ := own_toks ho5
        clear ho5
        rw [show [(⟨1, T, 0, 1⟩ : Tk), ⟨4, mt, 0, 1⟩, ⟨0, mt, 0, 1⟩].length = 3 from rfl] at hT ⊢
        obtain ⟨b, o, rfl, hb, hc⟩ := toks_at hT (k := 0) (by decide)
        obtain ⟨r1, r2, r3, r4⟩ := hc 0 (by simp)
        have a2 : w5.cell? ⟨b, o + 1, none⟩ = some (.string T) := r2
        clear hc r1 r2 r3 r4 hT
        go_wp2_with fail
        refine (awake_any w5 (HE.out.below HB5.out)).mono ?_
        rintro e w9 ⟨rfl, hb9⟩
        go_wp2_with fail
        go_ret
        exact ⟨rfl, by have HBB := HB5.out; (repeat (first | (with_reducible exact Below.refl _ _) | (with_reducible assumption) | (with_reducible apply bl_alloc) | (with_reducible apply bl_drewN) | (with_reducible apply bl_drew) | (with_reducible refine bl_set ?_ (by first | (simp; done) | (simp; omega)) _) | (with_reducible refine bl_call ?_ (by assumption))))⟩
set_option maxRecDepth 100000 in
theorem lexLong_walk (n : Int) (w : World) (h0 : -9223372036854775808 ≤ n) (h1 : n ≤ 9223372036854775807) (hE : Env w) : Calls Tryd.prog 9 #[.int .i64 n] w (Gives (.bool true) w) := by
  by_cases g0 : n < 19990
  · have HE := Lib.hid hE
    have q0 : decide (n < 19990) = true := decide_eq_true g0
    clear hE
    go_enter Tryd.func9, Tryd.ntmps9
    go_wp2_with fail
    refine (awake_any w (HE.out.below (Below.refl w.heap.size w))).mono ?_
    rintro e w9 ⟨rfl, hb9⟩
    go_wp2_with fail
    go_ret
    exact ⟨rfl, by have HBB := (Below.refl w.heap.size w); (repeat (first | (with_reducible exact Below.refl _ _) | (with_reducible assumption) | (with_reducible apply bl_alloc) | (with_reducible apply bl_drewN) | (with_reducible apply bl_drew) | (with_reducible refine bl_set ?_ (by first | (simp; done) | (simp; omega)) _) | (with_reducible refine bl_call ?_ (by assumption))))⟩
  · by_cases g1 : 20010 < n
    · have HE := Lib.hid hE
      have q0 : decide (n < 19990) = false := decide_eq_false g0
      have q1 : decide ((20010 : Int) < n) = true := decide_eq_true g1
      clear hE
      go_enter Tryd.func9, Tryd.ntmps9
      go_wp2_with fail
      refine (awake_any w (HE.out.below (Below.refl w.heap.size w))).mono ?_
      rintro e w9 ⟨rfl, hb9⟩
      go_wp2_with fail
      go_ret
      exact ⟨rfl, by have HBB := (Below.refl w.heap.size w); (repeat (first | (with_reducible exact Below.refl _ _) | (with_reducible assumption) | (with_reducible apply bl_alloc) | (with_reducible apply bl_drewN) | (with_reducible apply bl_drew) | (with_reducible refine bl_set ?_ (by first | (simp; done) | (simp; omega)) _) | (with_reducible refine bl_call ?_ (by assumption))))⟩
    · obtain ⟨m, rfl⟩ : ∃ m : Nat, n = (m : Int) := ⟨n.toNat, by omega⟩
      exact long_in m w hE (by omega) (by omega)
end Go.Proofs.YtilnojcbebchdaaDoor.Lx
