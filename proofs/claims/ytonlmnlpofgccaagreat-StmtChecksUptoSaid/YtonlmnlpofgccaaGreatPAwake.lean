/-
  The contract of the law's awake: the chapter's examples.
-/
import Derived.Test.YtonlmnlpofgccaaGreatPAw1
import Derived.Test.YtonlmnlpofgccaaGreatPCheck
import Derived.Test.YtonlmnlpofgccaaGreatPTgt
import Derived.Test.YtonlmnlpofgccaaGreatPSame3
namespace Go.Proofs.YtonlmnlpofgccaaGreat.Sm
open Go.RowKit
open Go.Proofs.YtonlmnlpofgccaaGreat.Na (bs bs_inj chk)
open Go.Proofs.YtonlmnlpofgccaaGreat.Ex (Ex Nm Txs Kin In Sz Lo Gives bl_alloc bl_drewN bl_drew bl_set bl_call block_lt)
attribute [local go_sem] cs0 cs1 cs2 cs3 cs4 cs5 cs6 cs7 cs8 cs9 cs10 cs11 cs12 cs13 cs14 cs15 cs16 cs17 cs18 cs19 cs20
set_option maxHeartbeats 4000000
set_option linter.unusedVariables false
/-- Where the chapter's lists lie, behind the last block that is made for them. -/
theorem ex_far (w4 : World) {b1 g3 : Nat} (F1 : ∀ U, Below w4.heap.size w4 U → In U (dur 5) (some ⟨b1, 0, none⟩) 1) (F2 : ∀ U, Below w4.heap.size w4 U → box21 U g3 sOdd (PE b1)) (W : World)
    (hb : Below (((((w4.alloc (.cells #[.int .i64 1, .string ⟨#[]⟩, .int .i64 2, .slice none 0 0] 32)).alloc (.cells (cs sSend (PE w4.heap.size)) 39)).alloc (.cells (cs sSeize P0 ++ cs sHold (PE b1)) 39)).alloc (.cells (cs sSend (PE w4.heap.size)) 39)).alloc (.cells (cs sIn (PI (w4.heap.size + 1 + 1) (w4.heap.size + 1 + 1 + 1))) 39)).heap.size (((((w4.alloc (.cells #[.int .i64 1, .string ⟨#[]⟩, .int .i64 2, .slice none 0 0] 32)).alloc (.cells (cs sSend (PE w4.heap.size)) 39)).alloc (.cells (cs sSeize P0 ++ cs sHold (PE b1)) 39)).alloc (.cells (cs sSend (PE w4.heap.size)) 39)).alloc (.cells (cs sIn (PI (w4.heap.size + 1 + 1) (w4.heap.size + 1 + 1 + 1))) 39)) W) :
    LIn W [sSeize, sHold] (some ⟨w4.heap.size + 1 + 1, 0, none⟩) 2 ∧ LIn W [sIn] (some ⟨w4.heap.size + 1 + 1 + 1 + 1, 0, none⟩) 1 ∧ box21 W g3 sOdd (PE b1) ∧ In W (dur 5) (some ⟨b1, 0, none⟩) 1 := by
  obtain ⟨u1, hu1⟩ : ∃ u, w4.alloc (.cells #[.int .i64 1, .string ⟨#[]⟩, .int .i64 2, .slice none 0 0] 32) = u := ⟨_, rfl⟩
  have z1 : u1.heap.size = w4.heap.size + 1 := by rw [← hu1]; simp
  have o1 : u1.heap[w4.heap.size]? = some (.cells #[.int .i64 1, .string ⟨#[]⟩, .int .i64 2, .slice none 0 0] 32 (0, 0)) := by rw [← hu1]; exact World.alloc_heap_new _ _
  have b0 : Below w4.heap.size w4 u1 := by rw [← hu1]; (repeat (first | (with_reducible exact Below.refl _ _) | (with_reducible assumption) | (with_reducible apply bl_alloc) | (with_reducible apply bl_drewN) | (with_reducible apply bl_drew) | (with_reducible refine bl_set ?_ (by first | (simp; done) | (simp; omega)) _) | (with_reducible refine bl_call ?_ (by assumption))))
  rw [hu1] at hb
  obtain ⟨u2, hu2⟩ : ∃ u, u1.alloc (.cells (cs sSend (PE w4.heap.size)) 39) = u := ⟨_, rfl⟩
  have z2 : u2.heap.size = w4.heap.size + 1 + 1 := by rw [← hu2]; simp [z1]
  have b2 : Below u1.heap.size u1 u2 := by rw [← hu2]; (repeat (first | (with_reducible exact Below.refl _ _) | (with_reducible assumption) | (with_reducible apply bl_alloc) | (with_reducible apply bl_drewN) | (with_reducible apply bl_drew) | (with_reducible refine bl_set ?_ (by first | (simp; done) | (simp; omega)) _) | (with_reducible refine bl_call ?_ (by assumption))))
  rw [hu2] at hb
  obtain ⟨u3, hu3⟩ : ∃ u, u2.alloc (.cells (cs sSeize P0 ++ cs sHold (PE b1)) 39) = u := ⟨_, rfl⟩
  have z3 : u3.heap.size = w4.heap.size + 1 + 1 + 1 := by rw [← hu3]; simp [z2]
  have o3 : u3.heap[w4.heap.size + 1 + 1]? = some (.cells (cs sSeize P0 ++ cs sHold (PE b1)) 39 (0, 0)) := by rw [← hu3, ← z2]; exact World.alloc_heap_new _ _
  have b3 : Below u2.heap.size u2 u3 := by rw [← hu3]; (repeat (first | (with_reducible exact Below.refl _ _) | (with_reducible assumption) | (with_reducible apply bl_alloc) | (with_reducible apply bl_drewN) | (with_reducible apply bl_drew) | (with_reducible refine bl_set ?_ (by first | (simp; done) | (simp; omega)) _) | (with_reducible refine bl_call ?_ (by assumption))))
  rw [hu3] at hb
  obtain ⟨u4, hu4⟩ : ∃ u, u3.alloc (.cells (cs sSend (PE w4.heap.size)) 39) = u := ⟨_, rfl⟩
  have z4 : u4.heap.size = w4.heap.size + 1 + 1 + 1 + 1 := by rw [← hu4]; simp [z3]
  have o4 : u4.heap[w4.heap.size + 1 + 1 + 1]? = some (.cells (cs sSend (PE w4.heap.size)) 39 (0, 0)) := by rw [← hu4, ← z3]; exact World.alloc_heap_new _ _
  have b4 : Below u3.heap.size u3 u4 := by rw [← hu4]; (repeat (first | (with_reducible exact Below.refl _ _) | (with_reducible assumption) | (with_reducible apply bl_alloc) | (with_reducible apply bl_drewN) | (with_reducible apply bl_drew) | (with_reducible refine bl_set ?_ (by first | (simp; done) | (simp; omega)) _) | (with_reducible refine bl_call ?_ (by assumption))))
  rw [hu4] at hb
  obtain ⟨u5, hu5⟩ : ∃ u, u4.alloc (.cells (cs sIn (PI (w4.heap.size + 1 + 1) (w4.heap.size + 1 + 1 + 1))) 39) = u := ⟨_, rfl⟩
  have o5 : u5.heap[w4.heap.size + 1 + 1 + 1 + 1]? = some (.cells (cs sIn (PI (w4.heap.size + 1 + 1) (w4.heap.size + 1 + 1 + 1))) 39 (0, 0)) := by rw [← hu5, ← z4]; exact World.alloc_heap_new _ _
  have b5 : Below u4.heap.size u4 u5 := by rw [← hu5]; (repeat (first | (with_reducible exact Below.refl _ _) | (with_reducible assumption) | (with_reducible apply bl_alloc) | (with_reducible apply bl_drewN) | (with_reducible apply bl_drew) | (with_reducible refine bl_set ?_ (by first | (simp; done) | (simp; omega)) _) | (with_reducible refine bl_call ?_ (by assumption))))
  rw [hu5] at hb
  have hd5 : In u3 (dur 5) (some ⟨b1, 0, none⟩) 1 := F1 u3 (bl_call (bl_call b0 b2) b3)
  have hl : LIn u3 [sSeize, sHold] (some ⟨w4.heap.size + 1 + 1, 0, none⟩) 2 := lin_two o3 (sin_leaf Ex.Kin.zero Ex.Kin.zero rfl rfl rfl rfl rfl) (sin_leaf hd5 Ex.Kin.zero rfl rfl rfl rfl rfl)
  have hd2 : In u4 (dur 2) (some ⟨w4.heap.size, 0, none⟩) 1 := (dur_in o1).on (bl_call (bl_call b2 b3) b4)
  have hs : LIn u4 [sSend] (some ⟨w4.heap.size + 1 + 1 + 1, 0, none⟩) 1 := lin_one o4 (sin_leaf hd2 Ex.Kin.zero rfl rfl rfl rfl rfl)
  have hl5 : LIn u5 [sSeize, sHold] (some ⟨w4.heap.size + 1 + 1, 0, none⟩) 2 := hl.on (bl_call b4 b5)
  have hs5 : LIn u5 [sSend] (some ⟨w4.heap.size + 1 + 1 + 1, 0, none⟩) 1 := hs.on b5
  have hi : LIn u5 [sIn] (some ⟨w4.heap.size + 1 + 1 + 1 + 1, 0, none⟩) 1 := lin_one o5 (sin_iff.2 ⟨⟨Ex.Kin.zero, Ex.Kin.zero, Ex.Kin.zero, ints_nil, ints_nil⟩, hl5, hs5⟩)
  have BW : Below w4.heap.size w4 W := bl_call (bl_call (bl_call (bl_call (bl_call b0 b2) b3) b4) b5) hb
  exact ⟨hl5.on hb, hi.on hb, F2 W BW, F1 W BW⟩
theorem targets_gives {sl : List St} {L : List (Nm × Nm)} (h : tgts (ordL sl) = L) {p : Option Addr} {m c : Nat} {w : World} (hi : LIn w sl p m) (hs : SzL sl) (hc : cnL sl ≤ 1000000) : Calls Tryz.prog 14 #[.slice p m c] w (GivesG L w) := by rw [← h]; exact targets_any sl p m c w hi hs hc
theorem uses_gives {sl : List St} {L : List Nm} (h : uses (ordL sl) = L) {p : Option Addr} {m c : Nat} {w : World} (hi : LIn w sl p m) (hs : SzL sl) (hc : cnL sl ≤ 1000000) : Calls Tryz.prog 15 #[.slice p m c] w (Ex.GivesT (Ex.insA [] L) w) := by rw [← h, ← Ex.srt_ins]; exact uses_any sl p m c w hi hs hc
theorem check_gives {sl : List St} {v : Int} (h : chkL sl = v) {p : Option Addr} {m c : Nat} {w : World} (hi : LIn w sl p m) (hs : SzL sl) : Calls Tryz.prog 6 #[.slice p m c] w (Gives (.int .i64 v) w) := by rw [← h]; exact check_any sl p m c w hi hs
theorem count_gives {sl : List St} {n : Nat} (h : cnL sl = n) {p : Option Addr} {m c : Nat} {w : World} (hi : LIn w sl p m) (hs : SzL sl) (hc : n ≤ 4000000) : Calls Tryz.prog 8 #[.slice p m c] w (Gives (.int .i64 (n : Nat)) w) := by subst h; exact count_any sl p m c w hi hs hc
theorem depth_gives2 {sl : List St} {n : Nat} (h : dpL sl = n) {p : Option Addr} {m c : Nat} {w : World} (hi : LIn w sl p m) (hc : cnL sl ≤ 4000000) : Calls Tryz.prog 10 #[.slice p m c] w (Gives (.int .i64 (n : Nat)) w) := by subst h; exact depth_any sl p m c w hi hc
theorem same_gives {a b : List St} {v : Bool} (h : sameSL a b = v) {p : Option Addr} {m c : Nat} {p2 : Option Addr} {m2 c2 : Nat} {w : World} (ha : LIn w a p m) (hb : LIn w b p2 m2) : Calls Tryz.prog 16 #[.slice p m c, .slice p2 m2 c2] w (Gives (.bool v) w) := by subst h; exact same_any a b p m c p2 m2 c2 w ha hb
set_option maxRecDepth 100000 in
theorem awake_any (w : World) : Calls Tryz.prog 5 #[] w (Gives (.bool true) w) := by
  obtain ⟨n21, hn21⟩ : ∃ n : Nat, 21 = n := ⟨_, rfl⟩
  have hsz : ∀ w, (sizeOf 39).run Tryz.prog w = .ok n21 w := fun w => by rw [Tryz.sizeOf39, hn21]
  have HN21 := Lib.hid hn21
  clear hn21
  go_enter Tryz.func5, Tryz.ntmps5
  go_wp2_with fail
  refine (number_any 5 _).mono ?_
  rintro e w1 ⟨rfl, hb1⟩
  have hcsz : ∀ x P, (cs x P).size = n21 := fun x P => HN21.out
  have st1 := st_anyC
  have st2 := st_anyV
  have st3 := st_anyA
  go_wp2_with (refine wpList_buildTo rfl 39 _ rfl _ rfl (cs sHold (PE w1.heap.size)) (by kernel_rfl) ?_)
  refine (number_any 1 _).mono ?_
  rintro e w2 ⟨rfl, hb2⟩
  have FH : Hid (∀ W, Below w2.heap.size w2 W → box21 W (w1.heap.size + 1) sHold (PE w1.heap.size) ∧ In W (dur 5) (some ⟨w1.heap.size, 0, none⟩) 1) := Lib.hid fun W hb => by
    have h1 := World.alloc_heap_new w1 (.cells #[.int .i64 1, .string nE, .int .i64 5, .slice none 0 0] 32)
    have h2 := World.alloc_heap_new (w1.alloc (.cells #[.int .i64 1, .string nE, .int .i64 5, .slice none 0 0] 32)) (.cells (cs sHold (PE w1.heap.size)) 39)
    rw [show (w1.alloc (.cells #[.int .i64 1, .string nE, .int .i64 5, .slice none 0 0] 32)).heap.size = w1.heap.size + 1 by simp] at h2
    have hz := hb2.size
    simp at hz
    exact ⟨(hb.block _ (by omega)).trans ((hb2.block _ (by simp)).trans h2), (((dur_in h1).on (show Below (w1.alloc _).heap.size (w1.alloc _) _ by (repeat (first | (with_reducible exact Below.refl _ _) | (with_reducible assumption) | (with_reducible apply bl_alloc) | (with_reducible apply bl_drewN) | (with_reducible apply bl_drew) | (with_reducible refine bl_set ?_ (by first | (simp; done) | (simp; omega)) _) | (with_reducible refine bl_call ?_ (by assumption)))))).on hb2).on hb⟩
  go_wp2_with fail
  refine (number_any 2 _).mono ?_
  rintro e w3 ⟨rfl, hb3⟩
  have ldh := ((FH.out (w3.alloc (.cells (cs sSeize P0) 39)) (by (repeat (first | (with_reducible exact Below.refl _ _) | (with_reducible assumption) | (with_reducible apply bl_alloc) | (with_reducible apply bl_drewN) | (with_reducible apply bl_drew) | (with_reducible refine bl_set ?_ (by first | (simp; done) | (simp; omega)) _) | (with_reducible refine bl_call ?_ (by assumption)))))).1.cell).ldN HN21.out
  go_wp2_with (refine wpList_buildTo rfl 39 _ rfl _ rfl (cs sSeize P0) (by kernel_rfl) ?_)
  rw [odd_set]
  refine (number_any 2 _).mono ?_
  rintro e w4 ⟨rfl, hb4⟩
  have FO : Hid (∀ W, Below w4.heap.size w4 W → box21 W w3.heap.size sSeize P0 ∧ box21 W (w3.heap.size + 1) sOdd (PE w1.heap.size)) := Lib.hid fun W hb => by
    have h1 : box21 (w3.alloc (.cells (cs sSeize P0) 39)) w3.heap.size sSeize P0 := box_new21
    have h2 := box_new21 (w := w3.alloc (.cells (cs sSeize P0) 39)) (x := sOdd) (P := PE w1.heap.size)
    rw [show (w3.alloc (.cells (cs sSeize P0) 39)).heap.size = w3.heap.size + 1 by simp] at h2
    exact ⟨((h1.on (by (repeat (first | (with_reducible exact Below.refl _ _) | (with_reducible assumption) | (with_reducible apply bl_alloc) | (with_reducible apply bl_drewN) | (with_reducible apply bl_drew) | (with_reducible refine bl_set ?_ (by first | (simp; done) | (simp; omega)) _) | (with_reducible refine bl_call ?_ (by assumption)))))).on hb4).on hb, (h2.on hb4).on hb⟩
  have FH4 : Hid (∀ W, Below w4.heap.size w4 W → box21 W (w1.heap.size + 1) sHold (PE w1.heap.size) ∧ In W (dur 5) (some ⟨w1.heap.size, 0, none⟩) 1) := Lib.hid fun W hbW => FH.out _ (by (repeat (first | (with_reducible exact Below.refl _ _) | (with_reducible assumption) | (with_reducible apply bl_alloc) | (with_reducible apply bl_drewN) | (with_reducible apply bl_drew) | (with_reducible refine bl_set ?_ (by first | (simp; done) | (simp; omega)) _) | (with_reducible refine bl_call ?_ (by assumption)))))
  have lda := ((FO.out ((w4.alloc (.cells #[.int .i64 1, .string ⟨#[]⟩, .int .i64 2, .slice none 0 0] 32)).alloc (.cells (cs sSend (PE w4.heap.size)) 39)) (by (repeat (first | (with_reducible exact Below.refl _ _) | (with_reducible assumption) | (with_reducible apply bl_alloc) | (with_reducible apply bl_drewN) | (with_reducible apply bl_drew) | (with_reducible refine bl_set ?_ (by first | (simp; done) | (simp; omega)) _) | (with_reducible refine bl_call ?_ (by assumption)))))).1.cell).ldN HN21.out
  have ldb := ((FH4.out ((w4.alloc (.cells #[.int .i64 1, .string ⟨#[]⟩, .int .i64 2, .slice none 0 0] 32)).alloc (.cells (cs sSend (PE w4.heap.size)) 39)) (by (repeat (first | (with_reducible exact Below.refl _ _) | (with_reducible assumption) | (with_reducible apply bl_alloc) | (with_reducible apply bl_drewN) | (with_reducible apply bl_drew) | (with_reducible refine bl_set ?_ (by first | (simp; done) | (simp; omega)) _) | (with_reducible refine bl_call ?_ (by assumption)))))).1.cell).ldN HN21.out
  have hsend : box21 (((w4.alloc (.cells #[.int .i64 1, .string ⟨#[]⟩, .int .i64 2, .slice none 0 0] 32)).alloc (.cells (cs sSend (PE w4.heap.size)) 39)).alloc (.cells (cs sSeize P0 ++ cs sHold (PE w1.heap.size)) 39)) (w4.heap.size + 1) sSend (PE w4.heap.size) := by
    have h2 := box_new21 (w := w4.alloc (.cells #[.int .i64 1, .string ⟨#[]⟩, .int .i64 2, .slice none 0 0] 32)) (x := sSend) (P := PE w4.heap.size)
    rw [show (w4.alloc (.cells #[.int .i64 1, .string ⟨#[]⟩, .int .i64 2, .slice none 0 0] 32)).heap.size = w4.heap.size + 1 by simp] at h2
    exact h2.on (by (repeat (first | (with_reducible exact Below.refl _ _) | (with_reducible assumption) | (with_reducible apply bl_alloc) | (with_reducible apply bl_drewN) | (with_reducible apply bl_drew) | (with_reducible refine bl_set ?_ (by first | (simp; done) | (simp; omega)) _) | (with_reducible refine bl_call ?_ (by assumption)))))
  have ldc := (hsend.cell).ldN HN21.out
  clear ldh hsend
  go_wp2_with (first
    | (have t := hk2; refine wpList_buildTo rfl 39 _ rfl _ rfl (cs sIn (PI (w4.heap.size + 1 + 1) (w4.heap.size + 1 + 1 + 1))) (by kernel_rfl) ?_)
    | (refine wpList_buildTo rfl 39 _ rfl _ rfl (cs sSend (PE w4.heap.size)) (by kernel_rfl) ?_; have hk2 : True := trivial)
    | (refine wpList_two rfl _ rfl _ rfl (w4.heap.size + 1 + 1) (by simp) sSeize sHold P0 (PE w1.heap.size) (by kernel_rfl) ?_)
    | (have t := hk1; refine wpList_one rfl _ rfl _ rfl (w4.heap.size + 1 + 1 + 1 + 1) (by simp) sIn (PI (w4.heap.size + 1 + 1) (w4.heap.size + 1 + 1 + 1)) (by kernel_rfl) ?_)
    | (refine wpList_one rfl _ rfl _ rfl (w4.heap.size + 1 + 1 + 1) (by simp) sSend (PE w4.heap.size) (by kernel_rfl) ?_; have hk1 : True := trivial))
  have FL : Hid (∀ W, Below (((((w4.alloc (.cells #[.int .i64 1, .string ⟨#[]⟩, .int .i64 2, .slice none 0 0] 32)).alloc (.cells (cs sSend (PE w4.heap.size)) 39)).alloc (.cells (cs sSeize P0 ++ cs sHold (PE w1.heap.size)) 39)).alloc (.cells (cs sSend (PE w4.heap.size)) 39)).alloc (.cells (cs sIn (PI (w4.heap.size + 1 + 1) (w4.heap.size + 1 + 1 + 1))) 39)).heap.size (((((w4.alloc (.cells #[.int .i64 1, .string ⟨#[]⟩, .int .i64 2, .slice none 0 0] 32)).alloc (.cells (cs sSend (PE w4.heap.size)) 39)).alloc (.cells (cs sSeize P0 ++ cs sHold (PE w1.heap.size)) 39)).alloc (.cells (cs sSend (PE w4.heap.size)) 39)).alloc (.cells (cs sIn (PI (w4.heap.size + 1 + 1) (w4.heap.size + 1 + 1 + 1))) 39)) W →
      LIn W [sSeize, sHold] (some ⟨w4.heap.size + 1 + 1, 0, none⟩) 2 ∧ LIn W [sIn] (some ⟨w4.heap.size + 1 + 1 + 1 + 1, 0, none⟩) 1 ∧ box21 W (w3.heap.size + 1) sOdd (PE w1.heap.size) ∧ In W (dur 5) (some ⟨w1.heap.size, 0, none⟩) 1) := Lib.hid fun W hbW => ex_far w4 (fun U hb => (FH4.out U hb).2) (fun U hb => (FO.out U hb).2) W hbW
  clear lda ldb ldc st1 st2 st3 FH FH4 FO hk1 hk2
  refine (targets_gives t_in (FL.out _ (Below.refl _ _)).2.1 sz_in (by decide)).mono ?_
  rintro e r1 ⟨p1, n1, c1, rfl, ⟨hn1, -, ht1⟩, hr1⟩
  obtain rfl : 1 = n1 := hn1
  obtain ⟨g6, o6, rfl, hg6, hc6⟩ := ht1.resolve_left (by decide)
  have FT : Hid (∀ W, Below r1.heap.size r1 W → W.cell? ⟨g6, o6, none⟩ = some (.string tPack) ∧ W.cell? ⟨g6, o6 + 1, none⟩ = some (.string tBox)) := Lib.hid fun W hb => by
    have h := hc6.out 0 (by decide)
    exact ⟨(hb.cell (p := ⟨g6, o6, none⟩) hg6).trans h.1, (hb.cell (p := ⟨g6, o6 + 1, none⟩) hg6).trans h.2⟩
  clear ht1 hc6
  go_wp2_with fail
  refine (uses_gives u_in (FL.out _ (by (repeat (first | (with_reducible exact Below.refl _ _) | (with_reducible assumption) | (with_reducible apply bl_alloc) | (with_reducible apply bl_drewN) | (with_reducible apply bl_drew) | (with_reducible refine bl_set ?_ (by first | (simp; done) | (simp; omega)) _) | (with_reducible refine bl_call ?_ (by assumption)))))).2.1 sz_in (by decide)).mono ?_
  rintro e r2 ⟨p2, n2, c2, rfl, ⟨hn2, -, ht2⟩, hr2⟩
  obtain rfl : 1 = n2 := hn2
  obtain ⟨g7, o7, rfl, hg7, hc7⟩ := ht2.resolve_left (by decide)
  have FU : Hid (∀ W, Below r2.heap.size r2 W → W.cell? ⟨g7, o7, none⟩ = some (.string tDesk)) := Lib.hid fun W hb => by
    have h := hc7.out 0 (by decide)
    exact (hb.cell (p := ⟨g7, o7, none⟩) hg7).trans h
  clear ht2 hc7
  go_wp2_with fail
  refine (check_gives v_l (FL.out _ (by (repeat (first | (with_reducible exact Below.refl _ _) | (with_reducible assumption) | (with_reducible apply bl_alloc) | (with_reducible apply bl_drewN) | (with_reducible apply bl_drew) | (with_reducible refine bl_set ?_ (by first | (simp; done) | (simp; omega)) _) | (with_reducible refine bl_call ?_ (by assumption)))))).1 sz_l).mono ?_
  rintro e r3 ⟨rfl, hr3⟩
  go_wp2_with fail
  refine (check_gives v_in (FL.out _ (by (repeat (first | (with_reducible exact Below.refl _ _) | (with_reducible assumption) | (with_reducible apply bl_alloc) | (with_reducible apply bl_drewN) | (with_reducible apply bl_drew) | (with_reducible refine bl_set ?_ (by first | (simp; done) | (simp; omega)) _) | (with_reducible refine bl_call ?_ (by assumption)))))).2.1 sz_in).mono ?_
  rintro e r4 ⟨rfl, hr4⟩
  have ld4 := ((FL.out r4 (by (repeat (first | (with_reducible exact Below.refl _ _) | (with_reducible assumption) | (with_reducible apply bl_alloc) | (with_reducible apply bl_drewN) | (with_reducible apply bl_drew) | (with_reducible refine bl_set ?_ (by first | (simp; done) | (simp; omega)) _) | (with_reducible refine bl_call ?_ (by assumption)))))).2.2.1.cell).ldN HN21.out
  go_wp2_with (first
    | (refine wpList_oneW (by kernel_rfl) _ rfl _ rfl r4.heap.size rfl sOdd (PE w1.heap.size) (by kernel_rfl) ?_))
  have hodd : LIn (r4.alloc (.cells (cs sOdd (PE w1.heap.size)) 39)) [sOdd] (some ⟨r4.heap.size, 0, none⟩) 1 := lin_one (World.alloc_heap_new r4 _) (sin_leaf (FL.out _ (by (repeat (first | (with_reducible exact Below.refl _ _) | (with_reducible assumption) | (with_reducible apply bl_alloc) | (with_reducible apply bl_drewN) | (with_reducible apply bl_drew) | (with_reducible refine bl_set ?_ (by first | (simp; done) | (simp; omega)) _) | (with_reducible refine bl_call ?_ (by assumption)))))).2.2.2 Ex.Kin.zero rfl rfl rfl rfl rfl)
  refine (check_gives v_odd hodd sz_odd).mono ?_
  rintro e r5 ⟨rfl, hr5⟩
  clear hodd ld4
  go_wp2_with fail
  refine (number_any 1 _).mono ?_
  rintro e r6 ⟨rfl, hr6⟩
  go_wp2_with (first
    | (refine wpList_buildW (by kernel_rfl) 39 _ rfl _ rfl (cs sRel P0) (by kernel_rfl) ?_)
    | (refine wpList_oneW (by kernel_rfl) _ rfl _ rfl r6.heap.size rfl sRel P0 (by kernel_rfl) ?_))
  have hrel : LIn (r6.alloc (.cells (cs sRel P0) 39)) [sRel] (some ⟨r6.heap.size, 0, none⟩) 1 := lin_one (World.alloc_heap_new r6 _) (sin_leaf Ex.Kin.zero Ex.Kin.zero rfl rfl rfl rfl rfl)
  refine (check_gives v_rel hrel sz_rel).mono ?_
  rintro e r7 ⟨rfl, hr7⟩
  clear hrel
  go_wp2_with fail
  refine (count_gives (n := 4) (by decide) (FL.out _ (by (repeat (first | (with_reducible exact Below.refl _ _) | (with_reducible assumption) | (with_reducible apply bl_alloc) | (with_reducible apply bl_drewN) | (with_reducible apply bl_drew) | (with_reducible refine bl_set ?_ (by first | (simp; done) | (simp; omega)) _) | (with_reducible refine bl_call ?_ (by assumption)))))).2.1 sz_in (by decide)).mono ?_
  rintro e r8 ⟨rfl, hr8⟩
  go_wp2_with fail
  refine (depth_gives2 (n := 2) (by decide) (FL.out _ (by (repeat (first | (with_reducible exact Below.refl _ _) | (with_reducible assumption) | (with_reducible apply bl_alloc) | (with_reducible apply bl_drewN) | (with_reducible apply bl_drew) | (with_reducible refine bl_set ?_ (by first | (simp; done) | (simp; omega)) _) | (with_reducible refine bl_call ?_ (by assumption)))))).2.1 (by decide)).mono ?_
  rintro e r9 ⟨rfl, hr9⟩
  have c6 := (FT.out r9 (by (repeat (first | (with_reducible exact Below.refl _ _) | (with_reducible assumption) | (with_reducible apply bl_alloc) | (with_reducible apply bl_drewN) | (with_reducible apply bl_drew) | (with_reducible refine bl_set ?_ (by first | (simp; done) | (simp; omega)) _) | (with_reducible refine bl_call ?_ (by assumption)))))).1
  have d6 := (FT.out r9 (by (repeat (first | (with_reducible exact Below.refl _ _) | (with_reducible assumption) | (with_reducible apply bl_alloc) | (with_reducible apply bl_drewN) | (with_reducible apply bl_drew) | (with_reducible refine bl_set ?_ (by first | (simp; done) | (simp; omega)) _) | (with_reducible refine bl_call ?_ (by assumption)))))).2
  have c7 := FU.out r9 (by (repeat (first | (with_reducible exact Below.refl _ _) | (with_reducible assumption) | (with_reducible apply bl_alloc) | (with_reducible apply bl_drewN) | (with_reducible apply bl_drew) | (with_reducible refine bl_set ?_ (by first | (simp; done) | (simp; omega)) _) | (with_reducible refine bl_call ?_ (by assumption)))))
  have heq := eq2 tPack tBox tPack tBox
  have hg69 : g6 < r9.heap.size := block_lt c6
  have hg79 : g7 < r9.heap.size := block_lt c7
  go_wp2_with fail
  refine (same_gives (sameSL_self _) (FL.out _ (by (repeat (first | (with_reducible exact Below.refl _ _) | (with_reducible assumption) | (with_reducible apply bl_alloc) | (with_reducible apply bl_drewN) | (with_reducible apply bl_drew) | (with_reducible refine bl_set ?_ (by first | (simp; done) | (simp; omega)) _) | (with_reducible refine bl_call ?_ (by assumption)))))).1 (FL.out _ (by (repeat (first | (with_reducible exact Below.refl _ _) | (with_reducible assumption) | (with_reducible apply bl_alloc) | (with_reducible apply bl_drewN) | (with_reducible apply bl_drew) | (with_reducible refine bl_set ?_ (by first | (simp; done) | (simp; omega)) _) | (with_reducible refine bl_call ?_ (by assumption)))))).1).mono ?_
  rintro e r10 ⟨rfl, hr10⟩
  go_wp2_with fail
  refine (same_gives (v := false) (by decide +kernel) (FL.out _ (by (repeat (first | (with_reducible exact Below.refl _ _) | (with_reducible assumption) | (with_reducible apply bl_alloc) | (with_reducible apply bl_drewN) | (with_reducible apply bl_drew) | (with_reducible refine bl_set ?_ (by first | (simp; done) | (simp; omega)) _) | (with_reducible refine bl_call ?_ (by assumption)))))).1 (FL.out _ (by (repeat (first | (with_reducible exact Below.refl _ _) | (with_reducible assumption) | (with_reducible apply bl_alloc) | (with_reducible apply bl_drewN) | (with_reducible apply bl_drew) | (with_reducible refine bl_set ?_ (by first | (simp; done) | (simp; omega)) _) | (with_reducible refine bl_call ?_ (by assumption)))))).2.1).mono ?_
  rintro e r11 ⟨rfl, hr11⟩
  go_wp2_with fail
  go_ret
  exact ⟨rfl, by (repeat (first | (with_reducible exact Below.refl _ _) | (with_reducible assumption) | (with_reducible apply bl_alloc) | (with_reducible apply bl_drewN) | (with_reducible apply bl_drew) | (with_reducible refine bl_set ?_ (by first | (simp; done) | (simp; omega)) _) | (with_reducible refine bl_call ?_ (by assumption))))⟩
end Go.Proofs.YtonlmnlpofgccaaGreat.Sm
