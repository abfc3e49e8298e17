/-
  The contracts of phrase, tableText, and of the reference's decimal numerals.
-/
import Derived.Test.YtnfddeoddjmpkabDoorDAcc
import Derived.Test.YtnfddeoddjmpkabDoorText
namespace Go.Proofs.YtnfddeoddjmpkabDoor.Di
open Go.RowKit
set_option maxHeartbeats 2000000
def sp : ByteArray := ⟨#[32]⟩
def col : ByteArray := ⟨#[58]⟩
def phr (word : ByteArray) (N : Nat → Int) : Nat → ByteArray
  | 0 => word
  | k + 1 => phr word N k ++ (sp ++ num (N k))
def wTable : ByteArray := ⟨#[116, 97, 98, 108, 101]⟩
def tbt (V W : Nat → Int) : Nat → ByteArray
  | 0 => wTable
  | k + 1 => tbt V W k ++ (sp ++ num (V k) ++ col ++ num (W k))
theorem ret_str' {a b : ByteArray} (h : a = b) : Ending.returned (.string a) = .returned (.string b) := by rw [h]
theorem size_sp (x : ByteArray) : (sp ++ x).size = 1 + x.size := by rw [ByteArray.size_append]; rfl
theorem size_item (x y : ByteArray) : (sp ++ x ++ col ++ y).size = 1 + x.size + 1 + y.size := by rw [ByteArray.size_append, ByteArray.size_append, ByteArray.size_append]; rfl
theorem phrase_any (word : ByteArray) (hwd : word.size ≤ 10) (b o m c : Nat) (N : Nat → Int) (hm : m ≤ 3) (w : World) (hE : Env w) (hb : b < w.heap.size) (hc : Hid (∀ i, i < m → w.cell? ⟨b, o + i, none⟩ = some (.int .i64 (N i)))) (hN : Hid (∀ i, i < m → -9223372036854775808 ≤ N i ∧ N i ≤ 9223372036854775807)) :
    Calls Tryd.prog 58 #[.string word, .slice (some ⟨b, o, none⟩) m c] w (Gives (.string (phr word N m)) w) := by
  go_enter Tryd.func58, Tryd.ntmps58
  go_wp2_with fail
  go_loopw [5, 11] (fun x y wr => ∃ (k : Nat) (X : ByteArray), k ≤ m ∧ x = .string X ∧ y = .int .i64 k ∧ X.size ≤ 10 + 21 * k ∧ Hid (X = phr word N k) ∧ Below w.heap.size w wr) (fun _ y _ => m - (intOf y).toNat)
  case atStart => exact ⟨0, word, Nat.zero_le _, rfl, rfl, by omega, Lib.hid rfl, Below.refl _ _⟩
  case round =>
    obtain ⟨k, X, hk, rfl, rfl, hX, HX, B⟩ := hrel
    rcases Nat.lt_or_ge k m with h | h
    · have e1 := (B.cell (p := ⟨b, o + k, none⟩) hb).trans (hc.out k h)
      obtain ⟨g0, g1⟩ := hN.out k h
      have c1 : (0 : Int) ≤ (k : Int) := by omega
      have c2 : (k : Int) < (m : Int) := by omega
      have hy := num_size20 (N k) g0 g1
      have T := Lib.hid (ntext_any (N k) g0 g1)
      have HX2 : Hid (X ++ (sp ++ num (N k)) = phr word N (k + 1)) := Lib.hid (by rw [HX.out]; rfl)
      have hz : (X ++ (sp ++ num (N k))).size ≤ 10 + 21 * (k + 1) := by rw [ByteArray.size_append, size_sp]; omega
      obtain ⟨Y, eY⟩ : ∃ Y, num (N k) = Y := ⟨_, rfl⟩
      rw [eY] at hy T HX2 hz
      clear eY
      have q1 : ¬ 9223372036854775807 < 1 + Y.size := by omega
      have q2 : ¬ 9223372036854775807 < X.size + (1 + Y.size) := by omega
      go_wp2_with fail
      refine (T.out _ (hE.below B)).mono ?_
      rintro e w1 ⟨rfl, hb1⟩
      go_wp2_with fail
      go_roundw
      case rel => exact ⟨k + 1, _, by omega, rfl, by go_num, hz, HX2, by (repeat (first | (with_reducible exact Below.refl _ _) | (with_reducible assumption) | (with_reducible apply bl_alloc) | (with_reducible apply bl_drewN) | (with_reducible apply bl_drew) | (with_reducible refine bl_set ?_ (by first | (simp; done) | (simp; omega)) _) | (with_reducible refine bl_call ?_ (by assumption))))⟩
      case measure => simp [intOf]; omega
    · obtain rfl : m = k := by omega
      go_wp2_with fail
      go_ret
      exact ⟨ret_str' HX.out, by (repeat (first | (with_reducible exact Below.refl _ _) | (with_reducible assumption) | (with_reducible apply bl_alloc) | (with_reducible apply bl_drewN) | (with_reducible apply bl_drew) | (with_reducible refine bl_set ?_ (by first | (simp; done) | (simp; omega)) _) | (with_reducible refine bl_call ?_ (by assumption))))⟩
theorem tabletext_any (p : Option Addr) (c : Nat) (q : Option Addr) (f m : Nat) (V W : Nat → Int) (w : World) (hE : Env w) (hV : Row w p m V) (hW : Row w q m W) (n1 : 1 ≤ m) (n20 : m ≤ 20) (hv : Hid (∀ i, i < m → 0 ≤ V i ∧ V i ≤ 1000000000)) (hw : Hid (∀ i, i < m → 1 ≤ W i ∧ W i ≤ 1000)) :
    Calls Tryd.prog 59 #[.slice p m c, .slice q m f] w (Gives (.string (tbt V W m)) w) := by
  obtain ⟨-, h | ⟨b, o, rfl, hb, hc⟩⟩ := hV
  · omega
  obtain ⟨-, h | ⟨b2, o2, rfl, hb2, hc2⟩⟩ := hW
  · omega
  go_enter Tryd.func59, Tryd.ntmps59
  go_wp2_with fail
  go_loopw [5, 10] (fun x y wr => ∃ (k : Nat) (X : ByteArray), k ≤ m ∧ x = .string X ∧ y = .int .i64 k ∧ X.size ≤ 10 + 42 * k ∧ Hid (X = tbt V W k) ∧ Below w.heap.size w wr) (fun _ y _ => m - (intOf y).toNat)
  case atStart => exact ⟨0, _, Nat.zero_le _, rfl, rfl, by decide, Lib.hid rfl, Below.refl _ _⟩
  case round =>
    obtain ⟨k, X, hk, rfl, rfl, hX, HX, B⟩ := hrel
    rcases Nat.lt_or_ge k m with h | h
    · have e1 := (B.cell (p := ⟨b, o + k, none⟩) hb).trans (hc.out k h)
      have e2 := (B.cell (p := ⟨b2, o2 + k, none⟩) hb2).trans (hc2.out k h)
      obtain ⟨g0, g1⟩ := hv.out k h
      obtain ⟨j0, j1⟩ := hw.out k h
      have c1 : (0 : Int) ≤ (k : Int) := by omega
      have c2 : (k : Int) < (m : Int) := by omega
      have hy := num_size20 (V k) (by omega) (by omega)
      have hy2 := num_size20 (W k) (by omega) (by omega)
      have T := Lib.hid (ntext_any (V k) (by omega) (by omega))
      have T2 := Lib.hid (ntext_any (W k) (by omega) (by omega))
      have HX2 : Hid (X ++ (sp ++ num (V k) ++ col ++ num (W k)) = tbt V W (k + 1)) := Lib.hid (by rw [HX.out]; rfl)
      have hz : (X ++ (sp ++ num (V k) ++ col ++ num (W k))).size ≤ 10 + 42 * (k + 1) := by rw [ByteArray.size_append, size_item]; omega
      obtain ⟨Y, eY⟩ : ∃ Y, num (V k) = Y := ⟨_, rfl⟩
      obtain ⟨Z, eZ⟩ : ∃ Z, num (W k) = Z := ⟨_, rfl⟩
      rw [eY] at hy T HX2 hz
      rw [eZ] at hy2 T2 HX2 hz
      obtain ⟨x, ex⟩ : ∃ x, V k = x := ⟨_, rfl⟩
      obtain ⟨z, ez⟩ : ∃ z, W k = z := ⟨_, rfl⟩
      rw [ex] at e1 T
      rw [ez] at e2 T2
      clear eY eZ ex ez g0 g1 j0 j1
      have q1 : ¬ 9223372036854775807 < 1 + Y.size := by omega
      have q2 : ¬ 9223372036854775807 < 1 + Y.size + 1 := by omega
      have q3 : ¬ 9223372036854775807 < 1 + Y.size + 1 + Z.size := by omega
      have q4 : ¬ 9223372036854775807 < X.size + (1 + Y.size + 1 + Z.size) := by omega
      go_wp2_with fail
      go_region_held3 (fun w' => w'.cell? ⟨b2, o2 + k, none⟩ = some (.int .i64 z)) (first | (with_reducible exact K2) | (with_reducible exact K1) | (with_reducible exact e2) | (go_keep; done))
        (first
          | (go_at_call_of 41 (Value.int .i64 x); refine (T.out _ (hE.below (by (repeat (first | (with_reducible exact Below.refl _ _) | (with_reducible assumption) | (with_reducible apply bl_alloc) | (with_reducible apply bl_drewN) | (with_reducible apply bl_drew) | (with_reducible refine bl_set ?_ (by first | (simp; done) | (simp; omega)) _) | (with_reducible refine bl_call ?_ (by assumption))))))).mono ?_; rintro e w1 ⟨rfl, hb1⟩; have K1 := (hb1.cell (p := ⟨b2, o2 + k, none⟩) (Nat.lt_of_lt_of_le hb2 B.size)).trans e2; have B1 : Below w.heap.size w w1 := by (repeat (first | (with_reducible exact Below.refl _ _) | (with_reducible assumption) | (with_reducible apply bl_alloc) | (with_reducible apply bl_drewN) | (with_reducible apply bl_drew) | (with_reducible refine bl_set ?_ (by first | (simp; done) | (simp; omega)) _) | (with_reducible refine bl_call ?_ (by assumption)))))
          | (go_at_call_of 41 (Value.int .i64 z); refine (T2.out _ (hE.below (by (repeat (first | (with_reducible exact Below.refl _ _) | (with_reducible assumption) | (with_reducible apply bl_alloc) | (with_reducible apply bl_drewN) | (with_reducible apply bl_drew) | (with_reducible refine bl_set ?_ (by first | (simp; done) | (simp; omega)) _) | (with_reducible refine bl_call ?_ (by assumption))))))).mono ?_; rintro e w2 ⟨rfl, hb2'⟩; have K2 := (hb2'.cell (p := ⟨b2, o2 + k, none⟩) (Nat.lt_of_lt_of_le hb2 B1.size)).trans K1))
      all_goals
        go_wp2_with fail
        go_roundw
        case rel => exact ⟨k + 1, _, by omega, rfl, by go_num, hz, HX2, by (repeat (first | (with_reducible exact Below.refl _ _) | (with_reducible assumption) | (with_reducible apply bl_alloc) | (with_reducible apply bl_drewN) | (with_reducible apply bl_drew) | (with_reducible refine bl_set ?_ (by first | (simp; done) | (simp; omega)) _) | (with_reducible refine bl_call ?_ (by assumption))))⟩
        case measure => simp [intOf]; omega
    · obtain rfl : m = k := by omega
      go_wp2_with fail
      go_ret
      exact ⟨ret_str' HX.out, by (repeat (first | (with_reducible exact Below.refl _ _) | (with_reducible assumption) | (with_reducible apply bl_alloc) | (with_reducible apply bl_drewN) | (with_reducible apply bl_drew) | (with_reducible refine bl_set ?_ (by first | (simp; done) | (simp; omega)) _) | (with_reducible refine bl_call ?_ (by assumption))))⟩
theorem num_dig (d : Nat) (h : d < 10) : num (d : Int) = ⟨#[UInt8.ofNat (48 + d)]⟩ := by
  unfold num
  rw [itoa_small (d : Int) (by omega) (by omega)]
  rfl
theorem num_join2 {a b c : Int} (h : Lib.itoa c = Lib.itoa a ++ Lib.itoa b) : num a ++ num b = num c := by
  refine WideShapes.bytes_inj ?_
  rw [num_list, h]
  show (num a ++ num b).data.toList = _
  simp [num, ByteArray.data_append]
end Go.Proofs.YtnfddeoddjmpkabDoor.Di
