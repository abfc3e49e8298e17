/-
  The contract of slices.SortStableFunc at at most 20 places, and what its result is good for.
-/
import Derived.Test.YtnfddeoddjmpkabDoorDSort
namespace Go.Proofs.YtnfddeoddjmpkabDoor.Di
open Go.RowKit Go.Sort
set_option maxHeartbeats 1000000
/-- The places in the order of their values: each once, ascending. -/
structure Ordered {m : Nat} (V : Nat → Int) (d : Array (Fin (m + 1))) : Prop where
  size : d.size = m + 1
  all : ∀ x : Fin (m + 1), x ∈ d.toList
  nodup : d.toList.Nodup
  up : ∀ i j, i < j → j < m + 1 → V d[i]!.val ≤ V d[j]!.val
def idArr (m : Nat) : Array (Fin (m + 1)) := Array.ofFn fun i => i
theorem idArr_size (m : Nat) : (idArr m).size = m + 1 := by unfold idArr; simp
theorem idArr_get (m i : Nat) (h : i < m + 1) : (idArr m)[i]! = ⟨i, h⟩ := by
  rw [getElem!_pos _ i (by rw [idArr_size]; exact h)]
  unfold idArr
  simp
theorem idArr_all (m : Nat) (x : Fin (m + 1)) : x ∈ (idArr m).toList := by
  unfold idArr
  rw [Array.mem_toList_iff]
  exact Array.mem_ofFn.2 ⟨x, rfl⟩
theorem idArr_nodup (m : Nat) : (idArr m).toList.Nodup := by
  rw [List.Nodup, List.pairwise_iff_getElem]
  intro i j hi hj hij h
  simp only [Array.getElem_toList, idArr, Array.getElem_ofFn] at h
  have := congrArg Fin.val h
  simp at this
  omega
def sort1 (V : Nat → Int) (m : Nat) : Array (Fin (m + 1)) := Sort.insertionSort (ltOf (cfV V)) (idArr m) 0 (m + 1)
def sort2 (V : Nat → Int) (m : Nat) : Array (Fin (m + 1)) := Sort.insertionSort (ltOf (cfV V)) (sort1 V m) (m + 1) (m + 1)
theorem extract_all {α : Type} (d : Array α) {n : Nat} (h : d.size = n) : (d.extract 0 n).toList = d.toList := by
  subst h; simp
theorem sort1_ok (V : Nat → Int) (m : Nat) : Ordered V (sort1 V m) := by
  obtain ⟨⟨h1, -, h3⟩, h4⟩ := insertionSort_holds (lt := ltOf (cfV V)) (cfV_swo V m) (idArr m) 0 (m + 1) (Nat.zero_le _) (by rw [idArr_size]; exact Nat.le_refl _)
  rw [idArr_size] at h1
  rw [extract_all _ (idArr_size m), extract_all _ h1] at h3
  refine ⟨h1, fun x => h3.mem_iff.2 (idArr_all m x), h3.nodup_iff.2 (idArr_nodup m), fun i j hij hj => ?_⟩
  have := h4 i j (Nat.zero_le _) hij hj
  rw [cfV_lt] at this
  have := of_decide_eq_false this
  show V (Sort.insertionSort (ltOf (cfV V)) (idArr m) 0 (m + 1))[i]!.val ≤ _
  unfold sort1
  omega
theorem sort2_eq (V : Nat → Int) (m : Nat) : sort2 V m = sort1 V m := by
  have hs := (sort1_ok V m).size
  obtain ⟨⟨h1, h2, -⟩, -⟩ := insertionSort_holds (lt := ltOf (cfV V)) (cfV_swo V m) (sort1 V m) (m + 1) (m + 1) (Nat.le_refl _) (by rw [hs]; exact Nat.le_refl _)
  refine Array.ext h1 fun i hi hi' => ?_
  have := h2 i (by omega)
  rw [getElem!_pos _ i hi, getElem!_pos _ i hi'] at this
  exact this
theorem sort1_size (V : Nat → Int) (m : Nat) : (sort1 V m).size = m + 1 := (sort1_ok V m).size
theorem putput (w : World) (blk t : Nat) {m : Nat} (d d' : Array (Fin (m + 1))) (h : d'.size = d.size) (t2 : Nat) : (putRow encF ((putRow encF w blk 0 d).drewN t) blk 0 d').drewN t2 = (putRow encF w blk 0 d').drewN (t + t2) := by
  have : putRow encF ((putRow encF w blk 0 d).drewN t) blk 0 d' = (putRow encF (putRow encF w blk 0 d) blk 0 d').drewN t := rfl
  rw [this, putRow_putRow _ _ _ _ _ _ h, World.drewN_drewN]
theorem stable_walk (n blk cap2 B : Nat) (Q : World → Prop) (hn : n < 20) (w : World) (I : Hid (Calls Tryd.prog 86 #[.slice (some ⟨blk, 0, none⟩) n cap2, .int .i64 0, .int .i64 n, .func (.func 77) #[] #[.pointer (some ⟨B, 0, none⟩)]] w fun e w' => e = .returned (.tuple #[]) ∧ Q w')) :
    Calls Tryd.prog 83 #[.slice (some ⟨blk, 0, none⟩) n cap2, .int .i64 n, .func (.func 77) #[] #[.pointer (some ⟨B, 0, none⟩)]] w fun e w' => e = .returned (.tuple #[]) ∧ Q w' := by
  have c1 : decide ((20 : Int) ≤ (n : Int)) = false := decide_eq_false (by omega)
  have c2 : decide ((20 : Int) < (n : Int)) = false := decide_eq_false (by omega)
  clear hn
  go_enter Tryd.func83, Tryd.ntmps83
  go_wp2_with fail
  go_loop [7, 8] (fun x y => x = .int .i64 0 ∧ y = .int .i64 20) (fun _ _ => 0)
  case atStart => exact ⟨rfl, rfl⟩
  case round =>
    obtain ⟨rfl, rfl⟩ := hrel
    go_wp2_with fail
    refine I.out.mono ?_
    rintro e w1 ⟨rfl, hq⟩
    go_wp2_with fail
    go_loop [6] (fun x => x = .int .i64 20) (fun _ => 0)
    case atStart => rfl
    case round =>
      obtain rfl := hrel
      go_wp2_with fail
      go_end0
      exact ⟨rfl, hq⟩
theorem stable_walk20 (blk cap2 B : Nat) (Q1 Q2 : World → Prop) (w : World) (I : Hid (Calls Tryd.prog 86 #[.slice (some ⟨blk, 0, none⟩) 20 cap2, .int .i64 0, .int .i64 20, .func (.func 77) #[] #[.pointer (some ⟨B, 0, none⟩)]] w fun e w' => e = .returned (.tuple #[]) ∧ Q1 w'))
    (J : Hid (∀ w1, Q1 w1 → Calls Tryd.prog 86 #[.slice (some ⟨blk, 0, none⟩) 20 cap2, .int .i64 20, .int .i64 20, .func (.func 77) #[] #[.pointer (some ⟨B, 0, none⟩)]] w1 fun e w' => e = .returned (.tuple #[]) ∧ Q2 w')) :
    Calls Tryd.prog 83 #[.slice (some ⟨blk, 0, none⟩) 20 cap2, .int .i64 20, .func (.func 77) #[] #[.pointer (some ⟨B, 0, none⟩)]] w fun e w' => e = .returned (.tuple #[]) ∧ Q2 w' := by
  go_enter Tryd.func83, Tryd.ntmps83
  go_wp2_with fail
  go_loopw [7, 8] (fun x y wr => (x = .int .i64 0 ∧ y = .int .i64 20 ∧ wr = w) ∨ (x = .int .i64 20 ∧ y = .int .i64 40 ∧ Q1 wr)) (fun _ y _ => 40 - (intOf y).toNat)
  case atStart => exact .inl ⟨rfl, rfl, rfl⟩
  case round =>
    rcases hrel with ⟨rfl, rfl, rfl⟩ | ⟨rfl, rfl, hq⟩
    · go_wp2_with fail
      refine I.out.mono ?_
      rintro e w1 ⟨rfl, hq⟩
      go_wp2_with fail
      go_roundw
      case rel => first | exact .inr ⟨rfl, rfl, hq⟩ | ((repeat apply Exists.intro); exact ⟨.inr ⟨rfl, rfl, hq⟩, rfl⟩)
      case measure => decide
    · go_wp2_with fail
      refine (J.out _ hq).mono ?_
      rintro e w2 ⟨rfl, hq2⟩
      go_wp2_with fail
      go_loop [6] (fun x => x = .int .i64 20) (fun _ => 0)
      case atStart => rfl
      case round =>
        obtain rfl := hrel
        go_wp2_with fail
        go_end0
        exact ⟨rfl, hq2⟩
theorem sort_walk (n blk cap2 B : Nat) (Q : World → Prop) (w : World) (I : Hid (Calls Tryd.prog 83 #[.slice (some ⟨blk, 0, none⟩) n cap2, .int .i64 n, .func (.func 77) #[] #[.pointer (some ⟨B, 0, none⟩)]] w fun e w' => e = .returned (.tuple #[]) ∧ Q w')) :
    Calls Tryd.prog 76 #[.slice (some ⟨blk, 0, none⟩) n cap2, .func (.func 77) #[] #[.pointer (some ⟨B, 0, none⟩)]] w fun e w' => e = .returned (.tuple #[]) ∧ Q w' := by
  go_enter Tryd.func76, Tryd.ntmps76
  go_wp2_with fail
  refine I.out.mono ?_
  rintro e w1 ⟨rfl, hq⟩
  go_wp2_with fail
  go_end0
  exact ⟨rfl, hq⟩
theorem sort_any (b o cap m B blk cap2 : Nat) (V : Nat → Int) (hm : m + 1 ≤ 20) (w : World) (hS : SortIn w b o cap (m + 1) B blk V) (hH : Holds encF w blk 0 (idArr m)) :
    Calls Tryd.prog 76 #[.slice (some ⟨blk, 0, none⟩) (m + 1) cap2, .func (.func 77) #[] #[.pointer (some ⟨B, 0, none⟩)]] w fun e w' => e = .returned (.tuple #[]) ∧ ∃ t, w' = (putRow encF w blk 0 (sort1 V m)).drewN t := by
  refine sort_walk (m + 1) blk cap2 B _ w (Lib.hid ?_)
  have I := ins_any b o cap m B blk cap2 V 0 (m + 1) (idArr m) (idArr_size m) w hS hH (Nat.zero_le _) (Nat.le_refl _) (by omega)
  change Calls _ _ _ _ (fun e w' => e = .returned (.tuple #[]) ∧ ∃ t, w' = (putRow encF w blk 0 (sort1 V m)).drewN t) at I
  rcases Nat.lt_or_ge (m + 1) 20 with h | h
  · exact stable_walk (m + 1) blk cap2 B _ h w (Lib.hid I)
  · obtain rfl : m = 19 := by omega
    refine stable_walk20 blk cap2 B _ _ w (Lib.hid I) (Lib.hid ?_)
    rintro w1 ⟨t, rfl⟩
    have hz : (sort1 V 19).size = (idArr 19).size := by rw [sort1_size, idArr_size]
    have hH2 : Holds encF ((putRow encF w blk 0 (sort1 V 19)).drewN t) blk 0 (sort1 V 19) := holds_putRow _ _ _ _ _ _ hH hz
    have J := ins_any b o cap 19 B blk cap2 V 20 20 (sort1 V 19) (sort1_size V 19) _ (hS.put encF (sort1 V 19) t) hH2 (Nat.le_refl _) (Nat.le_refl _) (by omega)
    refine J.mono fun e w' ⟨he, t2, hw⟩ => ⟨he, t + t2, ?_⟩
    rw [hw, putput _ _ _ _ _ (by rw [show Sort.insertionSort (ltOf (cfV V)) (sort1 V 19) 20 20 = sort2 V 19 from rfl, sort2_eq])]
    rw [show Sort.insertionSort (ltOf (cfV V)) (sort1 V 19) 20 20 = sort2 V 19 from rfl, sort2_eq]
end Go.Proofs.YtnfddeoddjmpkabDoor.Di
