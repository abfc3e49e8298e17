/-
  Parts of this proof: The walk of checkSite. The contracts of checkSites and of Check. A model among the arguments. The law of Checks.
-/
import Derived.Test.YtaaffmbnhjaebaaGreatZQRlt
set_option linter.unusedSimpArgs false
namespace Go.Proofs.YtaaffmbnhjaebaaGreat.Md
open Go.RowKit Go.Maps
open Go.Proofs.YtaaffmbnhjaebaaGreat.Sm (orL or_any)
open Go.Proofs.YtaaffmbnhjaebaaGreat.Ex (Lo Gives)
set_option maxHeartbeats 8000000
set_option linter.unusedVariables false
theorem zQSit_1 {p : Prop} (h : p := by
 clear hHeld HC hI0 hV hmm
 first | (go_simp; done) | (go_simp; with_reducible rfl)
 ) : p := h
theorem zQSit_0 {p : Prop} (h : p := by
 intro W2 hS2
 replace hS2 := (show SiS w P x n13 W2 from hS2)
 exact zQSit_1
 ) : p := h
theorem zQSit_2 {p : Prop} (h : p := by
 intro W2 hS2
 replace hS2 := (show SiS w P x n13 W2 from hS2)
 have q12 := hS2.f12
 exact zQSit_1
 ) : p := h
set_option maxRecDepth 100000 in
theorem site_walk (x : Ste) (P : PSte) (w : World) (n13 : Nat) (hsz13 : ∀ w, (sizeOf 42).run Tryz.prog w = .ok n13 w) (e1 e2 e3 e4 e5 e6 e7 e8 e9 e10 e11 e12 : Int) (a1 a2 a3 a4 a5 a6 a7 a8 a9 a10 : List ByteArray) (HC : SitC w x P n13 e1 e2 e3 e4 e5 e6 e7 e8 e9 e10 e11 e12 a1 a2 a3 a4 a5 a6 a7 a8 a9 a10) : Calls Tryz.prog 59 #[.agg (cSte x P)] w (Gives (.int .i64 (orL [e1, e2, e3, e4, e5, e6, e7, e8, e9, e10, e11, e12])) w) := by
 have hmm := @run_makeMap Tryz.prog
 obtain ⟨V, hV⟩ : ∃ V, orL [e1, e2, e3, e4, e5, e6, e7, e8, e9, e10, e11, e12] = V := ⟨_, rfl⟩
 rw [hV]
 replace hV := Lib.hid hV
 go_enter Tryz.func59, Tryz.ntmps59
 go_wp2_with fail
 have hI0 := HC.hi
 refine wp_region_noPanic ?_
 refine wp_region_held_drew (S := (fun (W : World) => SiS w P x n13 W)) (by kernel_rfl) (show ((fun (W : World) => SiS w P x n13 W)) _ from (HC.fs _ _ _ hI0 bl)) (fun hHeld => ?_)
 refine htake 0 ((.pointer (some ⟨w.heap.size, 1, none⟩) : Value)) (hy := ?_) (h := ?_)
 · exact zQSit_0
 try simp only [Act.put, sA, sB, sC]
 refine htake 1 ((.slice P.vap P.vam P.vac : Value)) (hy := ?_) (h := ?_)
 · intro W2 hS2
   replace hS2 := (show SiS w P x n13 W2 from hS2)
   have q1 := hS2.f1
   exact zQSit_1
 try simp only [Act.put, sA, sB, sC]
 refine htake 2 ((.map (some (w.heap.size + 1)) : Value)) (hy := ?_) (h := ?_)
 · exact zQSit_2
 try simp only [Act.put, sA, sB, sC]
 refine htake 3 ((.func (.func 29) #[.map (some (w.heap.size + 1))] #[] : Value)) (hy := ?_) (h := ?_)
 · exact zQSit_0
 try simp only [Act.put, sA, sB, sC]
 refine htake 5 ((.pointer (some ⟨w.heap.size, 2, none⟩) : Value)) (hy := ?_) (h := ?_)
 · exact zQSit_0
 try simp only [Act.put, sA, sB, sC]
 refine htake 6 ((.slice P.rsp P.rsm P.rsc : Value)) (hy := ?_) (h := ?_)
 · intro W2 hS2
   replace hS2 := (show SiS w P x n13 W2 from hS2)
   have q2 := hS2.f2
   exact zQSit_1
 try simp only [Act.put, sA, sB, sC]
 refine htake 7 ((.func (.func 100) #[] #[.pointer (some ⟨w.heap.size + 1 + 1, 0, none⟩), .pointer (some ⟨w.heap.size, 0, none⟩)] : Value)) (hy := ?_) (h := ?_)
 · exact zQSit_0
 try simp only [Act.put, sA, sB, sC]
 refine htake 9 ((.pointer (some ⟨w.heap.size, 3, none⟩) : Value)) (hy := ?_) (h := ?_)
 · exact zQSit_0
 try simp only [Act.put, sA, sB, sC]
 refine htake 10 ((.slice P.stp P.stm P.stc : Value)) (hy := ?_) (h := ?_)
 · intro W2 hS2
   replace hS2 := (show SiS w P x n13 W2 from hS2)
   have q3 := hS2.f3
   exact zQSit_1
 try simp only [Act.put, sA, sB, sC]
 refine htake 11 ((.func (.func 103) #[] #[.pointer (some ⟨w.heap.size + 1 + 1, 0, none⟩)] : Value)) (hy := ?_) (h := ?_)
 · exact zQSit_0
 try simp only [Act.put, sA, sB, sC]
 refine htake 13 ((.pointer (some ⟨w.heap.size, 4, none⟩) : Value)) (hy := ?_) (h := ?_)
 · exact zQSit_0
 try simp only [Act.put, sA, sB, sC]
 refine htake 14 ((.slice P.bep P.bem P.bec : Value)) (hy := ?_) (h := ?_)
 · intro W2 hS2
   replace hS2 := (show SiS w P x n13 W2 from hS2)
   have q4 := hS2.f4
   exact zQSit_1
 try simp only [Act.put, sA, sB, sC]
 refine htake 15 ((.func (.func 106) #[] #[.pointer (some ⟨w.heap.size + 1 + 1, 0, none⟩)] : Value)) (hy := ?_) (h := ?_)
 · exact zQSit_0
 try simp only [Act.put, sA, sB, sC]
 refine htake 17 ((.pointer (some ⟨w.heap.size, 5, none⟩) : Value)) (hy := ?_) (h := ?_)
 · exact zQSit_0
 try simp only [Act.put, sA, sB, sC]
 refine htake 18 ((.slice P.qup P.qum P.quc : Value)) (hy := ?_) (h := ?_)
 · intro W2 hS2
   replace hS2 := (show SiS w P x n13 W2 from hS2)
   have q5 := hS2.f5
   exact zQSit_1
 try simp only [Act.put, sA, sB, sC]
 refine htake 19 ((.map (some (w.heap.size + 1)) : Value)) (hy := ?_) (h := ?_)
 · exact zQSit_2
 try simp only [Act.put, sA, sB, sC]
 refine htake 20 ((.func (.func 54) #[.map (some (w.heap.size + 1))] #[] : Value)) (hy := ?_) (h := ?_)
 · exact zQSit_0
 try simp only [Act.put, sA, sB, sC]
 refine htake 22 ((.pointer (some ⟨w.heap.size, 6, none⟩) : Value)) (hy := ?_) (h := ?_)
 · exact zQSit_0
 try simp only [Act.put, sA, sB, sC]
 refine htake 23 ((.slice P.smp P.smm P.smc : Value)) (hy := ?_) (h := ?_)
 · intro W2 hS2
   replace hS2 := (show SiS w P x n13 W2 from hS2)
   have q6 := hS2.f6
   exact zQSit_1
 try simp only [Act.put, sA, sB, sC]
 refine htake 24 ((.map (some (w.heap.size + 1)) : Value)) (hy := ?_) (h := ?_)
 · exact zQSit_2
 try simp only [Act.put, sA, sB, sC]
 refine htake 25 ((.func (.func 54) #[.map (some (w.heap.size + 1))] #[] : Value)) (hy := ?_) (h := ?_)
 · exact zQSit_0
 try simp only [Act.put, sA, sB, sC]
 refine htake 27 ((.pointer (some ⟨w.heap.size, 7, none⟩) : Value)) (hy := ?_) (h := ?_)
 · exact zQSit_0
 try simp only [Act.put, sA, sB, sC]
 refine htake 28 ((.slice P.tap P.tam P.tac : Value)) (hy := ?_) (h := ?_)
 · intro W2 hS2
   replace hS2 := (show SiS w P x n13 W2 from hS2)
   have q7 := hS2.f7
   exact zQSit_1
 try simp only [Act.put, sA, sB, sC]
 refine htake 29 ((.map (some (w.heap.size + 1)) : Value)) (hy := ?_) (h := ?_)
 · exact zQSit_2
 try simp only [Act.put, sA, sB, sC]
 refine htake 30 ((.func (.func 54) #[.map (some (w.heap.size + 1))] #[] : Value)) (hy := ?_) (h := ?_)
 · exact zQSit_0
 try simp only [Act.put, sA, sB, sC]
 refine htake 32 ((.pointer (some ⟨w.heap.size, 8, none⟩) : Value)) (hy := ?_) (h := ?_)
 · exact zQSit_0
 try simp only [Act.put, sA, sB, sC]
 refine htake 33 ((.slice P.lep P.lem P.lec : Value)) (hy := ?_) (h := ?_)
 · intro W2 hS2
   replace hS2 := (show SiS w P x n13 W2 from hS2)
   have q8 := hS2.f8
   exact zQSit_1
 try simp only [Act.put, sA, sB, sC]
 refine htake 34 ((.map (some (w.heap.size + 1)) : Value)) (hy := ?_) (h := ?_)
 · exact zQSit_2
 try simp only [Act.put, sA, sB, sC]
 refine htake 35 ((.func (.func 54) #[.map (some (w.heap.size + 1))] #[] : Value)) (hy := ?_) (h := ?_)
 · exact zQSit_0
 try simp only [Act.put, sA, sB, sC]
 refine htake 37 ((.pointer (some ⟨w.heap.size, 9, none⟩) : Value)) (hy := ?_) (h := ?_)
 · exact zQSit_0
 try simp only [Act.put, sA, sB, sC]
 refine htake 38 ((.slice P.cop P.com P.coc : Value)) (hy := ?_) (h := ?_)
 · intro W2 hS2
   replace hS2 := (show SiS w P x n13 W2 from hS2)
   have q9 := hS2.f9
   exact zQSit_1
 try simp only [Act.put, sA, sB, sC]
 refine htake 39 ((.map (some (w.heap.size + 1)) : Value)) (hy := ?_) (h := ?_)
 · exact zQSit_2
 try simp only [Act.put, sA, sB, sC]
 refine htake 40 ((.func (.func 54) #[.map (some (w.heap.size + 1))] #[] : Value)) (hy := ?_) (h := ?_)
 · exact zQSit_0
 try simp only [Act.put, sA, sB, sC]
 refine htake 42 ((.pointer (some ⟨w.heap.size, 10, none⟩) : Value)) (hy := ?_) (h := ?_)
 · exact zQSit_0
 try simp only [Act.put, sA, sB, sC]
 refine htake 43 ((.slice P.rop P.rom P.roc : Value)) (hy := ?_) (h := ?_)
 · intro W2 hS2
   replace hS2 := (show SiS w P x n13 W2 from hS2)
   have q10 := hS2.f10
   exact zQSit_1
 try simp only [Act.put, sA, sB, sC]
 refine htake 44 ((.func (.func 110) #[] #[.pointer (some ⟨w.heap.size + 1 + 1, 0, none⟩)] : Value)) (hy := ?_) (h := ?_)
 · exact zQSit_0
 try simp only [Act.put, sA, sB, sC]
 refine htake 46 ((.pointer (some ⟨w.heap.size, 11, none⟩) : Value)) (hy := ?_) (h := ?_)
 · exact zQSit_0
 try simp only [Act.put, sA, sB, sC]
 refine htake 47 ((.slice P.ssp P.ssm P.ssc : Value)) (hy := ?_) (h := ?_)
 · intro W2 hS2
   replace hS2 := (show SiS w P x n13 W2 from hS2)
   have q11 := hS2.f11
   exact zQSit_1
 try simp only [Act.put, sA, sB, sC]
 refine htake 48 ((.func (.func 113) #[] #[.pointer (some ⟨w.heap.size, 0, none⟩)] : Value)) (hy := ?_) (h := ?_)
 · exact zQSit_0
 try simp only [Act.put, sA, sB, sC]
 refine htake 50 ((.agg (cSte x P) : Value)) (hy := ?_) (h := ?_)
 · intro W2 hS2
   replace hS2 := (show SiS w P x n13 W2 from hS2)
   have q13 := hS2.f13
   exact zQSit_1
 try simp only [Act.put, sA, sB, sC]
 refine hrdy [4] ?_
 refine hcons (fun K hK => ?_) ?_
 rotate_left 1
 · exact AllReadyH.nil
 go_simp
 refine (HC.c1 _ (hI0.at bl)).mono ?_
 rintro e v1 ⟨rfl, hI1⟩
 clear hHeld
 refine hK.out _ _ (show ((fun (W : World) => SiS w P x n13 W)) _ from (HC.fs _ _ _ hI1 bl)) (fun hHeld => ?_)
 clear hK K
 (try simp only [Act.put, sA, sB, sC])
 refine hrdy [8] ?_
 refine hcons (fun K hK => ?_) ?_
 rotate_left 1
 · exact AllReadyH.nil
 go_simp
 refine (HC.c2 _ (hI1.at bl)).mono ?_
 rintro e v2 ⟨rfl, hI2⟩
 clear hHeld
 refine hK.out _ _ (show ((fun (W : World) => SiS w P x n13 W)) _ from (HC.fs _ _ _ hI2 bl)) (fun hHeld => ?_)
 clear hK K
 (try simp only [Act.put, sA, sB, sC])
 refine hrdy [12] ?_
 refine hcons (fun K hK => ?_) ?_
 rotate_left 1
 · exact AllReadyH.nil
 go_simp
 refine (HC.c3 _ (hI2.at bl)).mono ?_
 rintro e v3 ⟨rfl, hI3⟩
 clear hHeld
 refine hK.out _ _ (show ((fun (W : World) => SiS w P x n13 W)) _ from (HC.fs _ _ _ hI3 bl)) (fun hHeld => ?_)
 clear hK K
 (try simp only [Act.put, sA, sB, sC])
 refine hrdy [16] ?_
 refine hcons (fun K hK => ?_) ?_
 rotate_left 1
 · exact AllReadyH.nil
 go_simp
 refine (HC.c4 _ (hI3.at bl)).mono ?_
 rintro e v4 ⟨rfl, hI4⟩
 clear hHeld
 refine hK.out _ _ (show ((fun (W : World) => SiS w P x n13 W)) _ from (HC.fs _ _ _ hI4 bl)) (fun hHeld => ?_)
 clear hK K
 (try simp only [Act.put, sA, sB, sC])
 refine hrdy [21] ?_
 refine hcons (fun K hK => ?_) ?_
 rotate_left 1
 · exact AllReadyH.nil
 go_simp
 refine (HC.c5 _ (hI4.at bl)).mono ?_
 rintro e v5 ⟨rfl, hI5⟩
 clear hHeld
 refine hK.out _ _ (show ((fun (W : World) => SiS w P x n13 W)) _ from (HC.fs _ _ _ hI5 bl)) (fun hHeld => ?_)
 clear hK K
 (try simp only [Act.put, sA, sB, sC])
 refine hrdy [26] ?_
 refine hcons (fun K hK => ?_) ?_
 rotate_left 1
 · exact AllReadyH.nil
 go_simp
 refine (HC.c6 _ (hI5.at bl)).mono ?_
 rintro e v6 ⟨rfl, hI6⟩
 clear hHeld
 refine hK.out _ _ (show ((fun (W : World) => SiS w P x n13 W)) _ from (HC.fs _ _ _ hI6 bl)) (fun hHeld => ?_)
 clear hK K
 (try simp only [Act.put, sA, sB, sC])
 refine hrdy [31] ?_
 refine hcons (fun K hK => ?_) ?_
 rotate_left 1
 · exact AllReadyH.nil
 go_simp
 refine (HC.c7 _ (hI6.at bl)).mono ?_
 rintro e v7 ⟨rfl, hI7⟩
 clear hHeld
 refine hK.out _ _ (show ((fun (W : World) => SiS w P x n13 W)) _ from (HC.fs _ _ _ hI7 bl)) (fun hHeld => ?_)
 clear hK K
 (try simp only [Act.put, sA, sB, sC])
 refine hrdy [36] ?_
 refine hcons (fun K hK => ?_) ?_
 rotate_left 1
 · exact AllReadyH.nil
 go_simp
 refine (HC.c8 _ (hI7.at bl)).mono ?_
 rintro e v8 ⟨rfl, hI8⟩
 clear hHeld
 refine hK.out _ _ (show ((fun (W : World) => SiS w P x n13 W)) _ from (HC.fs _ _ _ hI8 bl)) (fun hHeld => ?_)
 clear hK K
 (try simp only [Act.put, sA, sB, sC])
 refine hrdy [41] ?_
 refine hcons (fun K hK => ?_) ?_
 rotate_left 1
 · exact AllReadyH.nil
 go_simp
 refine (HC.c9 _ (hI8.at bl)).mono ?_
 rintro e v9 ⟨rfl, hI9⟩
 clear hHeld
 refine hK.out _ _ (show ((fun (W : World) => SiS w P x n13 W)) _ from (HC.fs _ _ _ hI9 bl)) (fun hHeld => ?_)
 clear hK K
 (try simp only [Act.put, sA, sB, sC])
 refine hrdy [45] ?_
 refine hcons (fun K hK => ?_) ?_
 rotate_left 1
 · exact AllReadyH.nil
 go_simp
 refine (HC.c10 _ (hI9.at bl)).mono ?_
 rintro e v10 ⟨rfl, hI10⟩
 clear hHeld
 refine hK.out _ _ (show ((fun (W : World) => SiS w P x n13 W)) _ from (HC.fs _ _ _ hI10 bl)) (fun hHeld => ?_)
 clear hK K
 (try simp only [Act.put, sA, sB, sC])
 refine hrdy [49] ?_
 refine hcons (fun K hK => ?_) ?_
 rotate_left 1
 · exact AllReadyH.nil
 go_simp
 refine (HC.c11 _ (hI10.at bl)).mono ?_
 rintro e v11 ⟨rfl, hI11⟩
 clear hHeld
 refine hK.out _ _ (show ((fun (W : World) => SiS w P x n13 W)) _ from (HC.fs _ _ _ hI11 bl)) (fun hHeld => ?_)
 clear hK K
 (try simp only [Act.put, sA, sB, sC])
 refine hrdy [51] ?_
 refine hcons (fun K hK => ?_) ?_
 rotate_left 1
 · exact AllReadyH.nil
 go_simp
 refine (HC.c12 _ (hI11.at bl)).mono ?_
 rintro e v12 ⟨rfl, hI12⟩
 clear hHeld
 refine hK.out _ _ (show ((fun (W : World) => SiS w P x n13 W)) _ from (HC.fs _ _ _ hI12 bl)) (fun hHeld => ?_)
 clear hK K
 (try simp only [Act.put, sA, sB, sC])
 refine hrdy [52] ?_
 refine hcons (fun K hK => ?_) ?_
 rotate_left 1
 · exact AllReadyH.nil
 go_simp
 clear hHeld
 refine hK.out _ _ (show ((fun (W : World) => SiS w P x n13 W)) _ from (HC.fs _ _ _ hI12 bl)) (fun hHeld => ?_)
 clear hK K
 (try simp only [Act.put, sA, sB, sC])
 refine hrdy [53] ?_
 refine hcons (fun K hK => ?_) ?_
 rotate_left 1
 · exact AllReadyH.nil
 go_simp
 refine (or_any [e1, e2, e3, e4, e5, e6, e7, e8, e9, e10, e11, e12] _ 12 12 _ rfl (by omega) (Lib.hid (cells12 _ _ _ _ _ _ _ _ _ _ _ _ _ _))).mono ?_
 rintro e w9 ⟨rfl, rfl⟩
 clear hHeld
 refine hK.out _ _ (show ((fun (W : World) => SiS w P x n13 W)) _ from (HC.fs _ _ _ hI12 bl)) (fun hHeld => ?_)
 clear hK K
 (try simp only [Act.put, sA, sB, sC])
 refine wpAnyH_take (i := 54) (oi := { dst := some 2, op := Op.assign (Operand.tmp 58), type := 29, pos := "model.go:185", after := #[{ on := 53, ground := Ground.data }, { on := 53, ground := Ground.chain }, { on := 0, ground := Ground.phase }, { on := 1, ground := Ground.phase }, { on := 2, ground := Ground.phase }, { on := 3, ground := Ground.phase }, { on := 4, ground := Ground.phase }, { on := 5, ground := Ground.phase }, { on := 6, ground := Ground.phase }, { on := 7, ground := Ground.phase }, { on := 8, ground := Ground.phase }, { on := 9, ground := Ground.phase }, { on := 10, ground := Ground.phase }, { on := 11, ground := Ground.phase }, { on := 12, ground := Ground.phase }, { on := 13, ground := Ground.phase }, { on := 14, ground := Ground.phase }, { on := 15, ground := Ground.phase }, { on := 16, ground := Ground.phase }, { on := 17, ground := Ground.phase }, { on := 18, ground := Ground.phase }, { on := 19, ground := Ground.phase }, { on := 20, ground := Ground.phase }, { on := 21, ground := Ground.phase }, { on := 22, ground := Ground.phase }, { on := 23, ground := Ground.phase }, { on := 24, ground := Ground.phase }, { on := 25, ground := Ground.phase }, { on := 26, ground := Ground.phase }, { on := 27, ground := Ground.phase }, { on := 28, ground := Ground.phase }, { on := 29, ground := Ground.phase }, { on := 30, ground := Ground.phase }, { on := 31, ground := Ground.phase }, { on := 32, ground := Ground.phase }, { on := 33, ground := Ground.phase }, { on := 34, ground := Ground.phase }, { on := 35, ground := Ground.phase }, { on := 36, ground := Ground.phase }, { on := 37, ground := Ground.phase }, { on := 38, ground := Ground.phase }, { on := 39, ground := Ground.phase }, { on := 40, ground := Ground.phase }, { on := 41, ground := Ground.phase }, { on := 42, ground := Ground.phase }, { on := 43, ground := Ground.phase }, { on := 44, ground := Ground.phase }, { on := 45, ground := Ground.phase }, { on := 46, ground := Ground.phase }, { on := 47, ground := Ground.phase }, { on := 48, ground := Ground.phase }, { on := 49, ground := Ground.phase }, { on := 50, ground := Ground.phase }, { on := 51, ground := Ground.phase }, { on := 52, ground := Ground.phase }, { on := 53, ground := Ground.phase }], guard := none }) (v := (.int .i64 (orL [e1, e2, e3, e4, e5, e6, e7, e8, e9, e10, e11, e12]) : Value)) rfl (by kernel_rfl) (by kernel_rfl) (by kernel_rfl) (fun _ _ _ h => h) (Or.inl ⟨by rfl, ?_⟩) (by assumption) ?_
 · exact zQSit_0
 try simp only [Act.put, sA, sB, sC]
 refine wpAnyH_done (by kernel_rfl) ?_ _
 refine NoPanic.normal ?_
 have HI12 := Lib.hid hI12.below
 go_wp2_with fail
 go_ret
 exact ⟨by rw [← hV.out]; rfl, by have HBB := HI12.out; exact bl⟩
theorem checkSite_any (hK : KindC) (x : Ste) (P : PSte) (w : World) (hx : OSte (Lo w.heap.size) w x P) (hz : ZSte x) : Calls Tryz.prog 59 #[.agg (cSte x P)] w (Gives (.int .i64 (siteT x)) w) := by
 obtain ⟨n13, hn13⟩ : ∃ n : Nat, 13 = n := ⟨_, rfl⟩
 obtain ⟨e1, e2, e3, e4, e5, e6, e7, e8, e9, e10, e11, e12, a1, a2, a3, a4, a5, a6, a7, a8, a9, a10, HC, HT⟩ := sitC_any hK x P w hx hz n13 hn13
 rw [HT]
 exact site_walk x P w n13 (fun w => by rw [Tryz.sizeOf42, hn13]) e1 e2 e3 e4 e5 e6 e7 e8 e9 e10 e11 e12 a1 a2 a3 a4 a5 a6 a7 a8 a9 a10 HC
end Go.Proofs.YtaaffmbnhjaebaaGreat.Md
namespace Go.Proofs.YtaaffmbnhjaebaaGreat.Md
open Go.RowKit Go.Maps
open Go.Proofs.YtaaffmbnhjaebaaGreat.Na (bs chk)
open Go.Proofs.YtaaffmbnhjaebaaGreat.Sm (orE_right orL or_any)
open Go.Proofs.YtaaffmbnhjaebaaGreat.Ex (Lo Gives)
set_option maxHeartbeats 8000000
set_option linter.unusedVariables false
theorem sites_each (hK : KindC) (l : List Ste) (p : Option Addr) (m c : Nat) (w0 : World) (hx : Rw 13 RSte (Lo w0.heap.size) w0 l p m) (hz : ∀ x ∈ l, ZSte x) (b B1 : Nat) (hb : w0.heap.size ≤ b) (h1 : B1 ≠ b) (W : World) (hW : Sco w0 b (fun V => V.cell? ⟨B1, 0, none⟩ = some (.map (some b))) [] W) :
 Calls Tryz.prog 57 #[.slice p m c, .int .i64 ((16 : Nat) : Int), .func (.func 58) #[] #[.pointer (some ⟨B1, 0, none⟩)]] W (fun e W2 => e = .returned (.int .i64 (eachE stepN 16 (l.map siteP) []).1) ∧ Below w0.heap.size w0 W2) := by
 have hSt : Stb b (fun V => V.cell? ⟨B1, 0, none⟩ = some (.map (some b))) := fun V V2 h hbt => cell_but hbt h h1
 rw [eachE_map]
 refine (each_Ste (Lib.hid hx) #[] #[.pointer (some ⟨B1, 0, none⟩)] _ (Lib.hid (Sco.fine hb hSt)) (fun a l => stepN a (siteP l)) 16 (by omega) [] (Lib.hid fun k s x c V hxk hm hg hR hI => ?_) W (Lib.hid hW)).mono fun e W2 h => ⟨h.1, h.2.below⟩
 rw [arg1]
 obtain ⟨Q, rfl, hQ⟩ := hR
 have hsh := go_short hm hg
 have hzx := hz x (List.mem_of_getElem? hxk)
 have hl0 : s.length ≤ 0 + 16 := hsh
 refine (clo_Ste x Q b B1 s V hI.scp (by omega) hzx.nm hI.k h1 (siteT x) (Lib.hid fun V2 hbt => ?_)).mono fun e W2 h => hI.step hb hSt h
 have hb2 : Below w0.heap.size w0 V2 := But.below hI.below hbt hb hI.below.size
 exact checkSite_any hK x Q V2 ((hQ.below (but_below hI.below hbt hb)).up hb2.size) hzx
set_option maxRecDepth 100000 in
theorem checkSites_any (hK : KindC) (l : List Ste) (p : Option Addr) (m c : Nat) (w : World) (hx : Rw 13 RSte (Lo w.heap.size) w l p m) (hz : ∀ x ∈ l, ZSte x) : Calls Tryz.prog 30 #[.slice p m c] w (Gives (.int .i64 (if l.length = 0 then 7 else (eachE stepN 16 (l.map siteP) []).1)) w) := by
 obtain ⟨hl, hm⟩ := hx.len
 have hmm := @run_makeMap Tryz.prog
 by_cases h0 : m = 0
 · rw [if_pos (by omega)]
   subst h0
   clear hx hz hl hm
   go_enter Tryz.func30, Tryz.ntmps30
   go_wp2_with fail
   go_ret
   exact ⟨rfl, bl⟩
 · rw [if_neg (by omega)]
   obtain ⟨v, hv⟩ : ∃ v, (eachE stepN 16 (l.map siteP) []).1 = v := ⟨_, rfl⟩
   have CE := Lib.hid (fun W (h1 : Below w.heap.size w W) (h2 : Scp w.heap.size [] W) (h3 : W.cell? ⟨w.heap.size + 1, 0, none⟩ = some (.map (some w.heap.size))) => (show Calls Tryz.prog 57 #[.slice p m c, .int .i64 16, .func (.func 58) #[] #[.pointer (some ⟨w.heap.size + 1, 0, none⟩)]] W (Gives' w (.int .i64 v)) by
    rw [← hv]
    exact sites_each hK l p m c w hx hz w.heap.size (w.heap.size + 1) (by omega) (by omega) W ⟨h1, h2, h3⟩))
   have d0 : ¬ (m : Int) = 0 := by omega
   rw [hv]
   clear hx hz hl hm hv h0
   go_enter Tryz.func30, Tryz.ntmps30
   go_wp2_with fail
   refine (CE.out _ bl ((scp_made (w := w) rfl).on bl) (by go_simp)).mono ?_
   rintro e v1 ⟨rfl, hb1⟩
   go_wp2_with fail
   go_ret
   exact ⟨rfl, hb1⟩
structure ZMdl (x : Mdl) : Prop where
 nm : x.nm.size ≤ 9223372036854775807
 pa : ∀ y ∈ x.pa, y.nm.size ≤ 9223372036854775807
 si : ∀ y ∈ x.si, ZSte y
 li : ∀ l ∈ x.li, l.fr.size ≤ 1000000000 ∧ l.tt.size ≤ 1000000000
structure MdS (w : World) (P : PMdl) (x : Mdl) (n4 : Nat) (W : World) : Prop where
 f0 : W.cell? ⟨w.heap.size, 0, none⟩ = some (.string x.nm)
 f1 : W.cell? ⟨w.heap.size, 1, none⟩ = some (.slice P.pap P.pam P.pac)
 f2 : W.cell? ⟨w.heap.size, 2, none⟩ = some (.slice P.sip P.sim P.sic)
 ld : (loadCellsFrom ⟨w.heap.size, 0, none⟩ 0 n4 #[]).run Tryz.prog W = .ok (cMdl x P) W
structure MdC (w : World) (P : PMdl) (x : Mdl) (n4 : Nat) (v1 v2 v3 v4 : Int) : Prop where
 c1 : ∀ W, Below w.heap.size w W → Calls Tryz.prog 27 #[.string x.nm] W (Gives (.int .i64 v1) W)
 c2 : ∀ W b, (w.alloc (.cells (cMdl x P) 26)).heap.size ≤ b → Below (w.alloc (.cells (cMdl x P) 26)).heap.size (w.alloc (.cells (cMdl x P) 26)) W → Scp b [] W → Calls Tryz.prog 28 #[.slice P.pap P.pam P.pac, .int .i64 32, .func (.func 29) #[.map (some b)] #[]] W (fun e W2 => e = .returned (.int .i64 v2) ∧ Below (w.alloc (.cells (cMdl x P) 26)).heap.size (w.alloc (.cells (cMdl x P) 26)) W2)
 c3 : ∀ W, Below w.heap.size w W → Calls Tryz.prog 30 #[.slice P.sip P.sim P.sic] W (Gives (.int .i64 v3) W)
 c4 : ∀ W, Below w.heap.size w W → Calls Tryz.prog 31 #[.agg (cMdl x P)] W (Gives (.int .i64 v4) W)
 fs : ∀ W, Below (w.alloc (.cells (cMdl x P) 26)).heap.size (w.alloc (.cells (cMdl x P) 26)) W → MdS w P x n4 W
theorem cells4 (w : World) (t : TypeId) (r0 r1 r2 r3 : Int) : ∀ i, (h : i < [r0, r1, r2, r3].length) → (w.alloc (.cells #[.int .i64 r0, .int .i64 r1, .int .i64 r2, .int .i64 r3] t)).cell? ⟨w.heap.size, i, none⟩ = some (.int .i64 [r0, r1, r2, r3][i]) := by
 intro i h
 rw [World.cell?_alloc_mark]
 match i, h with
 | 0, _ => rfl
 | 1, _ => rfl
 | 2, _ => rfl
 | 3, _ => rfl
theorem zQChk_1 {p : Prop} (h : p := by
 clear hHeld HC hmm
 first | (go_simp; done) | (go_simp; with_reducible rfl) | (go_simp; rfl)
 ) : p := h
theorem zQChk_2 {p : Prop} (h : p := by
 intro W2 hS2
 replace hS2 := (show MdS w P x n4 W2 from hS2)
 exact zQChk_1
 ) : p := h
theorem zQChk_0 {p : Prop} (h : p := by
 rintro e u2 ⟨rfl, hb2⟩
 clear hHeld
 refine hK.out _ _ (show ((fun (W : World) => MdS w P x n4 W)) _ from HC.fs _ bl) (fun hHeld => ?_)
 clear hK K
 try simp only [Act.put, sA, sB, sC]
 refine hcall 10 (fun K hK => ?_)
 go_simp
 refine (HC.c3 _ bl).mono ?_
 rintro e u3 ⟨rfl, hb3⟩
 clear hHeld
 refine hK.out _ _ (show ((fun (W : World) => MdS w P x n4 W)) _ from HC.fs _ bl) (fun hHeld => ?_)
 clear hK K
 try simp only [Act.put, sA, sB, sC]
 refine hcall 12 (fun K hK => ?_)
 go_simp
 refine (HC.c4 _ bl).mono ?_
 rintro e u4 ⟨rfl, hb4⟩
 clear hHeld
 refine hK.out _ _ (show ((fun (W : World) => MdS w P x n4 W)) _ from HC.fs _ bl) (fun hHeld => ?_)
 clear hK K
 try simp only [Act.put, sA, sB, sC]
 refine hcall 13 (fun K hK => ?_)
 go_simp
 clear hHeld
 refine hK.out _ _ (show ((fun (W : World) => MdS w P x n4 W)) _ from HC.fs _ bl) (fun hHeld => ?_)
 clear hK K
 try simp only [Act.put, sA, sB, sC]
 refine hcall 14 (fun K hK => ?_)
 go_simp
 refine (or_any [v1, v2, v3, v4] _ 4 4 _ rfl (by omega) (Lib.hid (cells4 _ _ _ _ _ _))).mono ?_
 rintro e w9 ⟨rfl, rfl⟩
 clear hHeld
 refine hK.out _ _ (show ((fun (W : World) => MdS w P x n4 W)) _ from HC.fs _ bl) (fun hHeld => ?_)
 clear hK K
 try simp only [Act.put, sA, sB, sC]
 refine wpAnyH_take (i := 15) (oi := { dst := some 2, op := Op.assign (Operand.tmp 17), type := 29, pos := "model.go:24", after := #[{ on := 14, ground := Ground.data }, { on := 14, ground := Ground.chain }, { on := 0, ground := Ground.phase }, { on := 1, ground := Ground.phase }, { on := 2, ground := Ground.phase }, { on := 3, ground := Ground.phase }, { on := 4, ground := Ground.phase }, { on := 5, ground := Ground.phase }, { on := 6, ground := Ground.phase }, { on := 7, ground := Ground.phase }, { on := 8, ground := Ground.phase }, { on := 9, ground := Ground.phase }, { on := 10, ground := Ground.phase }, { on := 11, ground := Ground.phase }, { on := 12, ground := Ground.phase }, { on := 13, ground := Ground.phase }, { on := 14, ground := Ground.phase }], guard := none }) (v := (.int .i64 (orL [v1, v2, v3, v4]) : Value)) rfl (by kernel_rfl) (by kernel_rfl) (by kernel_rfl) (fun _ _ _ h => h) (Or.inl ⟨by rfl, ?_⟩) (by assumption) ?_
 · exact zQChk_2
 try simp only [Act.put, sA, sB, sC]
 refine wpAnyH_done (by kernel_rfl) ?_ _
 refine NoPanic.normal ?_
 go_wp2_with fail
 go_ret
 exact ⟨rfl, bl⟩
 ) : p := h
set_option maxRecDepth 100000 in
theorem check_walk (x : Mdl) (P : PMdl) (w : World) (n4 : Nat) (hsz4 : ∀ w, (sizeOf 26).run Tryz.prog w = .ok n4 w) (v1 v2 v3 v4 : Int) (HC : MdC w P x n4 v1 v2 v3 v4) : Calls Tryz.prog 10 #[.agg (cMdl x P)] w (Gives (.int .i64 (orL [v1, v2, v3, v4])) w) := by
 have hmm := @run_makeMap Tryz.prog
 go_enter Tryz.func10, Tryz.ntmps10
 go_wp2_with fail
 refine wp_region_noPanic ?_
 refine wp_region_held_drew (S := (fun (W : World) => MdS w P x n4 W)) (by kernel_rfl) (show ((fun (W : World) => MdS w P x n4 W)) _ from HC.fs _ bl) (fun hHeld => ?_)
 refine htake 0 ((.pointer (some ⟨w.heap.size, 0, none⟩) : Value)) (hy := ?_) (h := ?_)
 · exact zQChk_2
 try simp only [Act.put, sA, sB, sC]
 refine htake 1 ((.string x.nm : Value)) (hy := ?_) (h := ?_)
 · intro W2 hS2
   replace hS2 := (show MdS w P x n4 W2 from hS2)
   have qf0 := hS2.f0
   exact zQChk_1
 try simp only [Act.put, sA, sB, sC]
 refine htake 3 ((.pointer (some ⟨w.heap.size, 1, none⟩) : Value)) (hy := ?_) (h := ?_)
 · exact zQChk_2
 try simp only [Act.put, sA, sB, sC]
 refine htake 4 ((.slice P.pap P.pam P.pac : Value)) (hy := ?_) (h := ?_)
 · intro W2 hS2
   replace hS2 := (show MdS w P x n4 W2 from hS2)
   have qf1 := hS2.f1
   exact zQChk_1
 try simp only [Act.put, sA, sB, sC]
 refine htake 8 ((.pointer (some ⟨w.heap.size, 2, none⟩) : Value)) (hy := ?_) (h := ?_)
 · exact zQChk_2
 try simp only [Act.put, sA, sB, sC]
 refine htake 9 ((.slice P.sip P.sim P.sic : Value)) (hy := ?_) (h := ?_)
 · intro W2 hS2
   replace hS2 := (show MdS w P x n4 W2 from hS2)
   have qf2 := hS2.f2
   exact zQChk_1
 try simp only [Act.put, sA, sB, sC]
 refine htake 11 ((.agg (cMdl x P) : Value)) (hy := ?_) (h := ?_)
 · intro W2 hS2
   replace hS2 := (show MdS w P x n4 W2 from hS2)
   have qld := hS2.ld
   exact zQChk_1
 try simp only [Act.put, sA, sB, sC]
 refine hrdy [2, 5] ?_
 refine hcons (fun K hK => ?_) ?_
 rotate_left 1
 · refine hcons (fun K hK => ?_) AllReadyH.nil
   go_simp
   clear hHeld
   refine hK.out _ _ (show ((fun (W : World) => MdS w P x n4 W)) _ from HC.fs _ bl) (fun hHeld => ?_)
   clear hK K
   try simp only [Act.put, sA, sB, sC]
   refine htake 6 ((.func (.func 29) #[.map (some (w.heap.size + 1))] #[] : Value)) (hy := ?_) (h := ?_)
   · exact zQChk_2
   try simp only [Act.put, sA, sB, sC]
   refine hcall 2 (fun K hK => ?_)
   go_simp
   refine (HC.c1 _ bl).mono ?_
   rintro e u1 ⟨rfl, hb1⟩
   clear hHeld
   refine hK.out _ _ (show ((fun (W : World) => MdS w P x n4 W)) _ from HC.fs _ bl) (fun hHeld => ?_)
   clear hK K
   try simp only [Act.put, sA, sB, sC]
   refine hcall 7 (fun K hK => ?_)
   go_simp
   refine (HC.c2 _ _ (by simp) bl ((scp_made (w := (w.alloc (.cells (cMdl x P) 26))) (n := w.heap.size + 1) (by simp)).on bl)).mono ?_
   exact zQChk_0
 go_simp
 refine (HC.c1 _ bl).mono ?_
 rintro e u1 ⟨rfl, hb1⟩
 clear hHeld
 refine hK.out _ _ (show ((fun (W : World) => MdS w P x n4 W)) _ from HC.fs _ bl) (fun hHeld => ?_)
 clear hK K
 try simp only [Act.put, sA, sB, sC]
 refine hcall 5 (fun K hK => ?_)
 go_simp
 clear hHeld
 refine hK.out _ _ (show ((fun (W : World) => MdS w P x n4 W)) _ from HC.fs _ bl) (fun hHeld => ?_)
 clear hK K
 try simp only [Act.put, sA, sB, sC]
 refine htake 6 ((.func (.func 29) #[.map (some u1.heap.size)] #[] : Value)) (hy := ?_) (h := ?_)
 · exact zQChk_2
 try simp only [Act.put, sA, sB, sC]
 refine hcall 7 (fun K hK => ?_)
 go_simp
 refine (HC.c2 _ _ (show Below (w.alloc (.cells (cMdl x P) 26)).heap.size (w.alloc (.cells (cMdl x P) 26)) u1 by exact bl).size bl ((scp_made (w := u1) rfl).on bl)).mono ?_
 exact zQChk_0
theorem check_any (hK : KindC) (x : Mdl) (P : PMdl) (w : World) (hx : OMdl (Lo w.heap.size) w x P) (hz : ZMdl x) : Calls Tryz.prog 10 #[.agg (cMdl x P)] w (Gives (.int .i64 (mdlE x)) w) := by
 obtain ⟨n4, hn4⟩ : ∃ n : Nat, 4 = n := ⟨_, rfl⟩
 have FX := far (w := w) 26 (cMdl x P)
 have hb1 : Below w.heap.size w (w.alloc (.cells (cMdl x P) 26)) := bl
 rw [show mdlE x = orL [chk (bs x.nm), parE x, sitesE x, lnksE x] by unfold mdlE; simp only [orL, orE_right]]
 refine check_walk x P w n4 (fun w => by rw [Tryz.sizeOf26, hn4]) _ _ _ _ ⟨fun W hW => ?_, fun W b hb hW hS => ?_, fun W hW => ?_, fun W hW => ?_, fun W hW => ?_⟩
 · exact Na.check_any x.nm W hz.nm
 · exact (each_vals (c := P.pac) (K := fun _ => True) hb (Stb.top b) (hx.on hb1).pa hz.pa 32 (by omega) [] (by simp) W ⟨hW, hS, trivial⟩).mono fun e W2 h => ⟨h.1, h.2.below⟩
 · exact checkSites_any hK x.si P.sip P.sim P.sic W (hx.on hW).si hz.si
 · exact checkLinks_any x P W (hx.on hW) hz.li
 · have q := FX.out W hW
   exact ⟨q.get (cMdl0 x P), q.get (cMdl1 x P), q.get (cMdl2 x P), q.cell.ldN hn4⟩
end Go.Proofs.YtaaffmbnhjaebaaGreat.Md
namespace Go.Proofs.YtaaffmbnhjaebaaGreat.Md
open Go.ChangeShapes Go.WideShapes Go.ChangeAt Go.RowKit Go.Joins Go.Deep
open Go.Proofs.YtaaffmbnhjaebaaGreat.Ex (Lo)
open Go.Proofs.YtaaffmbnhjaebaaGreat.Sm (cnL cnL_le_szL)
set_option maxHeartbeats 2000000
set_option linter.unusedVariables false
structure Fit (x : Mdl) : Prop where
 z : ZMdl x
 n : ∀ y ∈ x.si, NwSte y
 c : ∀ y ∈ x.si, ∀ r ∈ y.ro, cnL r.bo ≤ 4000000
theorem nwSte_of {B : Nat} {x : Ste} (hB : B ≤ 1048576) (h : GSte B x) : NwSte x where
 nz := ⟨by have := h.vaL; omega, by have := h.rsL; omega, by have := h.stL; omega, by have := h.beL; omega, by have := h.roL; omega⟩
 nm := fun l hl => by
  simp only [names, List.mem_cons, List.mem_nil_iff, or_false] at hl
  rcases hl with rfl | rfl | rfl | rfl | rfl | rfl | rfl | rfl | rfl | rfl
  · rw [List.length_map]; have := h.vaL; omega
  · rw [List.length_map]; have := h.rsL; omega
  · rw [List.length_map]; have := h.stL; omega
  · rw [List.length_map]; have := h.beL; omega
  · have := h.quL; omega
  · have := h.smL; omega
  · have := h.taL; omega
  · have := h.leL; omega
  · have := h.coL; omega
  · rw [List.length_map]; have := h.roL; omega
 ss := by have := h.ssL; omega
 la := by have := h.laL; omega
theorem zSte_of {B : Nat} {x : Ste} (hB : B ≤ 1048576) (h : GSte B x) : ZSte x where
 va := fun y hy => by have := (h.va y hy).nm; omega
 rs := fun y hy => by have := (h.rs y hy).nm; omega
 st := fun y hy => by have := (h.st y hy).nm; omega
 be := fun y hy => by have := (h.be y hy).nm; omega
 qu := fun y hy => by have := h.qu y hy; omega
 sm := fun y hy => by have := h.sm y hy; omega
 ta := fun y hy => by have := h.ta y hy; omega
 le := fun y hy => by have := h.le y hy; omega
 co := fun y hy => by have := h.co y hy; omega
 ro := fun y hy => zRou_of hB (h.ro y hy)
 la := fun y hy => by have := (h.la y hy).nm; omega
 nm := by have := h.nm; omega
theorem fit_of {B : Nat} {x : Mdl} (hB : B ≤ 1048576) (h : GMdl B x) : Fit x where
 z := ⟨by have := h.nm; omega, fun y hy => by have := (h.pa y hy).nm; omega, fun y hy => zSte_of hB (h.si y hy), fun l hl => by have h1 := (h.li l hl).fr; have h2 := (h.li l hl).tt; exact ⟨by omega, by omega⟩⟩
 n := fun y hy => nwSte_of hB (h.si y hy)
 c := fun y hy r hr => by
  have h1 := ((h.si y hy).ro r hr).bs
  have h2 := cnL_le_szL r.bo
  omega
set_option maxRecDepth 100000 in
theorem open_mdl {H : Type} {enc : TypeId × Value → H} {w : World} {r : Reach} {b0 : Nat} {v : Value} {d : DataW H} {ps : List MemPlace} (h : DataW.Trod enc Tryz.prog w 0 (fun _ => true) true 26 v d ps) (hd : Rows.uptoBulk d ≤ 1048576) (hv : Value.okWide Tryz.prog w r b0 26 v) :
 ∃ (x : Mdl) (P : PMdl), v = .agg (cMdl x P) ∧ OMdl (Lo w.heap.size) w x P ∧ Fit x := by
 obtain ⟨f0, f1, f2, f3, hs, hC, -⟩ := Mdl_is
 obtain ⟨cs, rfl, hsz⟩ := okWide_struct hs hv
 obtain ⟨fuel, hf⟩ := h
 have hf' : DataW.trod enc Tryz.prog w 0 (fun _ => true) true fuel 26 cs.toList = some (d, ps) := by simpa [Value.cells] using hf
 obtain ⟨x, c, hcs, hcz, ⟨P, hP, hO⟩, hG, -⟩ := Mdl_up (by rw [Array.length_toList]; exact hsz.trans hC) hf'
 exact ⟨x, P, by rw [Array.toList_inj.1 hcs, hP], hO, fit_of hd hG⟩
end Go.Proofs.YtaaffmbnhjaebaaGreat.Md
namespace Go.Proofs.YtaaffmbnhjaebaaGreat.Md
open Go.RowKit Go.Maps
open Go.Proofs.YtaaffmbnhjaebaaGreat.Ex (Lo Gives)
set_option maxHeartbeats 8000000
set_option linter.unusedVariables false
theorem light_at {x : Mdl} {P : PMdl} {b : Bool} (h : lightB x = b) (w : World) (hx : OMdl (Lo w.heap.size) w x P) (hf : Fit x) : Calls Tryz.prog 8 #[.agg (cMdl x P)] w (Gives (.bool b) w) := by rw [← h]; exact light_any x P w hx hf.n
end Go.Proofs.YtaaffmbnhjaebaaGreat.Md
