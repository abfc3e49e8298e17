/-
  Parts of this proof: The chapter's examples (awake).
-/
import Derived.Test.YtaaffmbnhjaebaaGreatZQSmp
import Derived.Test.YtaaffmbnhjaebaaGreatZQSam
namespace Go.Proofs.YtaaffmbnhjaebaaGreat.Md
open Go.RowKit Go.Maps
open Go.Proofs.YtaaffmbnhjaebaaGreat.Ex (Lo Gives)
set_option maxHeartbeats 16000000
set_option linter.unusedVariables false
theorem heap_set {W : World} {g i k : Nat} {v : Value} (h : k ≠ g) : (W.setCell ⟨g, i, none⟩ v).heap[k]? = W.heap[k]? := by
 show (W.heap.modify g _)[k]? = _
 rw [Array.getElem?_modify, if_neg (fun e => h e.symm)]
theorem size_set {W : World} {g i : Nat} {v : Value} : (W.setCell ⟨g, i, none⟩ v).heap.size = W.heap.size := by
 show (W.heap.modify g _).size = _
 exact Array.size_modify
structure AwkS (w : World) (A n1 n2 n3 n4 q : Nat) (tb wc ed : ByteArray) (V : World) : Prop where
 b1 : Box V A 26 #[.string tShop, .slice none 0 0, .slice (some ⟨n1 + 11, 0, none⟩) 2 2, .slice (some ⟨n1 + 12, 0, none⟩) 1 1]
 b2 : Box V (A + 1) 26 #[.string tShop, .slice none 0 0, .slice (some ⟨n2 + 11, 0, none⟩) 2 2, .slice (some ⟨n2 + 12, 0, none⟩) 1 1]
 b3 : Box V (A + 1 + 1) 26 #[.string tShop, .slice none 0 0, .slice (some ⟨n3 + 11, 0, none⟩) 2 2, .slice (some ⟨n3 + 12, 0, none⟩) 1 1]
 b4 : Box V (A + 1 + 1 + 1) 26 #[.string tShop, .slice none 0 0, .slice (some ⟨n4 + 11, 0, none⟩) 2 2, .slice (some ⟨n4 + 12, 0, none⟩) 1 1]
 s1 : SmpAt n1 (n1 + 2) tQ tCrd tYard V
 s2 : SmpAt n2 q tb tCrd tYard V
 s3 : SmpAt n3 (n3 + 2) tQ wc tYard V
 s4 : SmpAt n4 (n4 + 2) tQ tCrd ed V
 z0 : w.heap.size ≤ n1
 z1 : n1 + 13 ≤ n2
 z2 : n2 + 13 ≤ n3
 z3 : n3 + 13 ≤ n4
 z4 : n4 + 13 ≤ A
 z5 : A + 4 ≤ V.heap.size
 zq : q < n2 + 13 ∧ n2 < q ∨ A + 4 ≤ q
 bw : Below w.heap.size w V
theorem AwkS.on {w : World} {A n1 n2 n3 n4 q : Nat} {tb wc ed : ByteArray} {V V2 : World} (h : AwkS w A n1 n2 n3 n4 q tb wc ed V) (hb : Below V.heap.size V V2) : AwkS w A n1 n2 n3 n4 q tb wc ed V2 :=
 ⟨h.b1.on hb, h.b2.on hb, h.b3.on hb, h.b4.on hb, h.s1.on hb, h.s2.on hb, h.s3.on hb, h.s4.on hb, h.z0, h.z1, h.z2, h.z3, h.z4, Nat.le_trans h.z5 hb.size, h.zq, h.bw.trans (hb.mono h.bw.size)⟩
theorem zQAwk_0 {p : Prop} (h : p := by omega) : p := h
theorem AwkS.step1 {w : World} {A n1 n2 n3 n4 : Nat} {wc ed : ByteArray} {V : World} (h : AwkS w A n1 n2 n3 n4 (n2 + 2) tQ wc ed V) : AwkS w A n1 n2 n3 n4 V.heap.size tM wc ed ((V.alloc (.cells #[.string tM] 9)).setCell ⟨n2 + 11, 5, none⟩ (.slice (some ⟨V.heap.size, 0, none⟩) 1 1)) := by
 have g := h.on (show Below V.heap.size V (V.alloc (.cells #[.string tM] 9)) by exact bl)
 have z1 := h.z1; have z2 := h.z2; have z3 := h.z3; have z4 := h.z4; have z5 := h.z5; have z0 := h.z0
 have hk : ∀ k, k ≠ n2 + 11 → ((V.alloc (.cells #[.string tM] 9)).setCell ⟨n2 + 11, 5, none⟩ (.slice (some ⟨V.heap.size, 0, none⟩) 1 1)).heap[k]? = (V.alloc (.cells #[.string tM] 9)).heap[k]? := fun k hk => heap_set hk
 refine ⟨g.b1.keep (hk _ zQAwk_0), g.b2.keep (hk _ zQAwk_0), g.b3.keep (hk _ zQAwk_0), g.b4.keep (hk _ zQAwk_0), g.s1.keep fun k _ hr => hk _ zQAwk_0, ?_, g.s3.keep fun k _ hr => hk _ zQAwk_0, g.s4.keep fun k _ hr => hk _ zQAwk_0, z0, z1, z2, z3, z4, by rw [size_set]; simp; omega, .inr zQAwk_0, by have h1 := h.bw; exact bl⟩
 exact ⟨g.s2.rs.keep (hk _ zQAwk_0), (Box.new (w := V) (c := #[.string tM]) (t := 9)).keep (hk _ zQAwk_0), g.s2.co.keep (hk _ zQAwk_0), g.s2.fl.keep (hk _ zQAwk_0), g.s2.ro.keep (hk _ zQAwk_0), g.s2.ar.keep (hk _ zQAwk_0), g.s2.ss.keep (hk _ zQAwk_0), g.s2.tr.keep (hk _ zQAwk_0), g.s2.la.keep (hk _ zQAwk_0), g.s2.si.set 5 _, g.s2.li.keep (hk _ zQAwk_0)⟩
theorem AwkS.step2 {w : World} {A n1 n2 n3 n4 q : Nat} {tb ed : ByteArray} {V : World} (g : AwkS w A n1 n2 n3 n4 q tb tCrd ed V) : AwkS w A n1 n2 n3 n4 q tb tStd ed (V.setCell ⟨n3 + 8, 1, none⟩ (.string tStd)) := by
 have z1 := g.z1; have z2 := g.z2; have z3 := g.z3; have z4 := g.z4; have z5 := g.z5; have zq := g.zq; have z0 := g.z0
 have hk : ∀ k, k ≠ n3 + 8 → (V.setCell ⟨n3 + 8, 1, none⟩ (.string tStd)).heap[k]? = V.heap[k]? := fun k hk => heap_set hk
 refine ⟨g.b1.keep (hk _ zQAwk_0), g.b2.keep (hk _ zQAwk_0), g.b3.keep (hk _ zQAwk_0), g.b4.keep (hk _ zQAwk_0), g.s1.keep fun k _ hr => hk _ zQAwk_0, g.s2.keep fun k _ hr => hk _ zQAwk_0, ?_, g.s4.keep fun k _ hr => hk _ zQAwk_0, z0, z1, z2, z3, z4, by rw [size_set]; omega, zq, by have h := g.bw; exact bl⟩
 exact ⟨g.s3.rs.keep (hk _ zQAwk_0), g.s3.qu.keep (hk _ zQAwk_0), g.s3.co.keep (hk _ zQAwk_0), g.s3.fl.keep (hk _ zQAwk_0), g.s3.ro.keep (hk _ zQAwk_0), g.s3.ar.keep (hk _ zQAwk_0), g.s3.ss.keep (hk _ zQAwk_0), g.s3.tr.set 1 _, g.s3.la.keep (hk _ zQAwk_0), g.s3.si.keep (hk _ zQAwk_0), g.s3.li.keep (hk _ zQAwk_0)⟩
theorem AwkS.step3 {w : World} {A n1 n2 n3 n4 q : Nat} {tb wc : ByteArray} {V : World} (g : AwkS w A n1 n2 n3 n4 q tb wc tYard V) : AwkS w A n1 n2 n3 n4 q tb wc tPlant (V.setCell ⟨n4 + 12, 1, none⟩ (.string tPlant)) := by
 have z1 := g.z1; have z2 := g.z2; have z3 := g.z3; have z4 := g.z4; have z5 := g.z5; have zq := g.zq; have z0 := g.z0
 have hk : ∀ k, k ≠ n4 + 12 → (V.setCell ⟨n4 + 12, 1, none⟩ (.string tPlant)).heap[k]? = V.heap[k]? := fun k hk => heap_set hk
 refine ⟨g.b1.keep (hk _ zQAwk_0), g.b2.keep (hk _ zQAwk_0), g.b3.keep (hk _ zQAwk_0), g.b4.keep (hk _ zQAwk_0), g.s1.keep fun k _ hr => hk _ zQAwk_0, g.s2.keep fun k _ hr => hk _ zQAwk_0, g.s3.keep fun k _ hr => hk _ zQAwk_0, ?_, z0, z1, z2, z3, z4, by rw [size_set]; omega, zq, by have h := g.bw; exact bl⟩
 exact ⟨g.s4.rs.keep (hk _ zQAwk_0), g.s4.qu.keep (hk _ zQAwk_0), g.s4.co.keep (hk _ zQAwk_0), g.s4.fl.keep (hk _ zQAwk_0), g.s4.ro.keep (hk _ zQAwk_0), g.s4.ar.keep (hk _ zQAwk_0), g.s4.ss.keep (hk _ zQAwk_0), g.s4.tr.keep (hk _ zQAwk_0), g.s4.la.keep (hk _ zQAwk_0), g.s4.si.keep (hk _ zQAwk_0), g.s4.li.set 1 _⟩
theorem At.left {w : World} {b o : Nat} {c d : Array Value} (h : At w b o (c ++ d)) : At w b o c := fun r v hv => h r v (by rw [Array.getElem?_append_left (Array.getElem?_eq_some_iff.1 hv).1]; exact hv)
theorem chkM_at {x : Mdl} {P : PMdl} {e : Int} (h : mdlE x = e) (w : World) (hx : OMdl (Lo w.heap.size) w x P) (hz : ZMdl x) : Calls Tryz.prog 10 #[.agg (cMdl x P)] w (Gives (.int .i64 e) w) := by rw [← h]; exact check_any kindC x P w hx hz
theorem sameM_at {x y : Mdl} {P Q : PMdl} {b : Bool} (h : mdB x y = b) (w : World) (hx : OMdl (Lo w.heap.size) w x P) (hy : OMdl (Lo w.heap.size) w y Q) : Calls Tryz.prog 23 #[.agg (cMdl x P), .agg (cMdl y Q)] w (Gives (.bool b) w) := by rw [← h]; exact same_Mdl_any x y P Q w hx hy
set_option maxRecDepth 100000 in
theorem awake_any (w : World) : Calls Tryz.prog 9 #[] w (Gives (.bool true) w) := by
 go_enter Tryz.func9, Tryz.ntmps9
 go_wp2_with fail
 refine (sample_any _).mono ?_
 rintro e w1 ⟨rfl, S1, B1, Z1⟩
 go_wp2_with fail
 refine (sample_any _).mono ?_
 rintro e w2 ⟨rfl, S2, B2, Z2⟩
 go_wp2_with fail
 refine (sample_any _).mono ?_
 rintro e w3 ⟨rfl, S3, B3, Z3⟩
 go_wp2_with fail
 refine (sample_any _).mono ?_
 rintro e w4 ⟨rfl, S4, B4, Z4⟩
 have hb23 : Below w2.heap.size w2 w4 := B3.trans (B4.mono B3.size)
 have hb12 : Below w1.heap.size w1 w4 := B2.trans (hb23.mono B2.size)
 have hb01 : Below w.heap.size w w4 := B1.trans (hb12.mono B1.size)
 obtain ⟨A, hA⟩ : ∃ A, w4.heap.size = A := ⟨_, rfl⟩
 have HS : Hid (∀ V, V = ((((w4.alloc (.cells #[.string tShop, .slice none 0 0, .slice (some ⟨w.heap.size + 11, 0, none⟩) 2 2, .slice (some ⟨w.heap.size + 12, 0, none⟩) 1 1] 26)).alloc (.cells #[.string tShop, .slice none 0 0, .slice (some ⟨w1.heap.size + 11, 0, none⟩) 2 2, .slice (some ⟨w1.heap.size + 12, 0, none⟩) 1 1] 26)).alloc (.cells #[.string tShop, .slice none 0 0, .slice (some ⟨w2.heap.size + 11, 0, none⟩) 2 2, .slice (some ⟨w2.heap.size + 12, 0, none⟩) 1 1] 26)).alloc (.cells #[.string tShop, .slice none 0 0, .slice (some ⟨w3.heap.size + 11, 0, none⟩) 2 2, .slice (some ⟨w3.heap.size + 12, 0, none⟩) 1 1] 26)) → AwkS w A w.heap.size w1.heap.size w2.heap.size w3.heap.size (w1.heap.size + 2) tQ tCrd tYard V) := Lib.hid fun V hV => by
  have hbV : Below w4.heap.size w4 V := by rw [hV]; exact bl
  have q : Box V A 26 #[.string tShop, .slice none 0 0, .slice (some ⟨w.heap.size + 11, 0, none⟩) 2 2, .slice (some ⟨w.heap.size + 12, 0, none⟩) 1 1] ∧ Box V (A + 1) 26 #[.string tShop, .slice none 0 0, .slice (some ⟨w1.heap.size + 11, 0, none⟩) 2 2, .slice (some ⟨w1.heap.size + 12, 0, none⟩) 1 1] ∧ Box V (A + 1 + 1) 26 #[.string tShop, .slice none 0 0, .slice (some ⟨w2.heap.size + 11, 0, none⟩) 2 2, .slice (some ⟨w2.heap.size + 12, 0, none⟩) 1 1] ∧ Box V (A + 1 + 1 + 1) 26 #[.string tShop, .slice none 0 0, .slice (some ⟨w3.heap.size + 11, 0, none⟩) 2 2, .slice (some ⟨w3.heap.size + 12, 0, none⟩) 1 1] := by
   rw [hV, ← hA]
   refine ⟨?_, ?_, ?_, ?_⟩ <;> (repeat (first | exact Box.newAt rfl (by first | (simp; done) | (simp; omega)) | refine Box.lower ?_))
  exact ⟨q.1, q.2.1, q.2.2.1, q.2.2.2, S1.on (hb12.trans (hbV.mono hb12.size)), S2.on (hb23.trans (hbV.mono hb23.size)), S3.on (B4.trans (hbV.mono B4.size)), S4.on hbV, Nat.le_refl _, Z1, Z2, Z3, by omega, by rw [hV, ← hA]; simp, .inl zQAwk_0, hb01.trans (hbV.mono hb01.size)⟩
 go_upto_region 2 with fail
 try rw [hA]
 clear S1 S2 S3 S4 B1 B2 B3 B4 Z1 Z2 Z3 Z4 hb01 hb12 hb23
 generalize hV : ((((w4.alloc (.cells #[.string tShop, .slice none 0 0, .slice (some ⟨w.heap.size + 11, 0, none⟩) 2 2, .slice (some ⟨w.heap.size + 12, 0, none⟩) 1 1] 26)).alloc (.cells #[.string tShop, .slice none 0 0, .slice (some ⟨w1.heap.size + 11, 0, none⟩) 2 2, .slice (some ⟨w1.heap.size + 12, 0, none⟩) 1 1] 26)).alloc (.cells #[.string tShop, .slice none 0 0, .slice (some ⟨w2.heap.size + 11, 0, none⟩) 2 2, .slice (some ⟨w2.heap.size + 12, 0, none⟩) 1 1] 26)).alloc (.cells #[.string tShop, .slice none 0 0, .slice (some ⟨w3.heap.size + 11, 0, none⟩) 2 2, .slice (some ⟨w3.heap.size + 12, 0, none⟩) 1 1] 26)) = V
 have HA := Lib.hid (HS.out V hV.symm)
 clear hV HS hA
 obtain ⟨n1, hn1⟩ : ∃ n, w.heap.size = n := ⟨_, rfl⟩
 obtain ⟨n2, hn2⟩ : ∃ n, w1.heap.size = n := ⟨_, rfl⟩
 obtain ⟨n3, hn3⟩ : ∃ n, w2.heap.size = n := ⟨_, rfl⟩
 obtain ⟨n4, hn4⟩ : ∃ n, w3.heap.size = n := ⟨_, rfl⟩
 rw [hn1, hn2, hn3, hn4] at HA ⊢
 clear hn1 hn2 hn3 hn4
 have hZ := HA.out
 have x1 := HA.out.b2.get (r := 2) (v := .slice (some ⟨n2 + 11, 0, none⟩) 2 2) rfl
 have H1 := HA.out.on (show Below V.heap.size V (V.alloc (.cells #[.string tM] 9)) by exact bl)
 have x2 := H1.s2.si.get (r := 5) (v := .slice (some ⟨n2 + 2, 0, none⟩) 1 1) rfl
 have x3 : (V.alloc (.cells #[.string tM] 9)).frozen? ⟨n2 + 11, 5, none⟩ = false := H1.s2.si.thaw
 have HB := Lib.hid HA.out.step1
 clear hZ H1
 go_upto_region 3 with fail
 generalize hV1 : (V.alloc (.cells #[.string tM] 9)).setCell ⟨n2 + 11, 5, none⟩ (.slice (some ⟨V.heap.size, 0, none⟩) 1 1) = V1
 rw [hV1] at HB
 clear hV1 x1 x2 x3 HA
 obtain ⟨q2, hq2⟩ : ∃ q, V.heap.size = q := ⟨_, rfl⟩
 rw [hq2] at HB ⊢
 clear hq2
 have y1 := HB.out.b3.get (r := 2) (v := .slice (some ⟨n3 + 11, 0, none⟩) 2 2) rfl
 have y2 := HB.out.s3.si.get (r := 12) (v := .slice (some ⟨n3 + 9, 0, none⟩) 1 1) rfl
 have y3 := HB.out.s3.la.get (r := 1) (v := .slice (some ⟨n3 + 8, 0, none⟩) 2 2) rfl
 have y4 := HB.out.s3.tr.get (r := 1) (v := .string tCrd) rfl
 have y5 : V1.frozen? ⟨n3 + 8, 1, none⟩ = false := HB.out.s3.tr.thaw
 have HC := Lib.hid HB.out.step2
 go_upto_region 4 with fail
 generalize hV2 : V1.setCell ⟨n3 + 8, 1, none⟩ (.string tStd) = V2
 rw [hV2] at HC
 clear hV2 y1 y2 y3 y4 y5 HB
 have z1 := HC.out.b4.get (r := 3) (v := .slice (some ⟨n4 + 12, 0, none⟩) 1 1) rfl
 have z2 := HC.out.s4.li.get (r := 1) (v := .string tYard) rfl
 have z3 : V2.frozen? ⟨n4 + 12, 1, none⟩ = false := HC.out.s4.li.thaw
 have HD := Lib.hid HC.out.step3
 go_upto_region 5 with fail
 generalize hV3 : V2.setCell ⟨n4 + 12, 1, none⟩ (.string tPlant) = V3
 rw [hV3] at HD
 clear hV3 z1 z2 z3 HC
 obtain ⟨m4, hm4⟩ : ∃ n : Nat, 4 = n := ⟨_, rfl⟩
 have hsz4 : ∀ w, (sizeOf 26).run Tryz.prog w = .ok m4 w := fun w => by rw [Tryz.sizeOf26, hm4]
 obtain ⟨m13, hm13⟩ : ∃ n : Nat, 13 = n := ⟨_, rfl⟩
 have hsz13 : ∀ w, (sizeOf 42).run Tryz.prog w = .ok m13 w := fun w => by rw [Tryz.sizeOf42, hm13]
 have HM4 := Lib.hid hm4
 have HM13 := Lib.hid hm13
 clear hm4 hm13
 have l1 := HD.out.b1.cell.ldN HM4.out
 have CL := Lib.hid (fun W (hW : Below V3.heap.size V3 W) => (show Calls Tryz.prog 12 #[.agg #[.string tShop, .slice none 0 0, .slice (some ⟨n1 + 11, 0, none⟩) 2 2, .slice (some ⟨n1 + 12, 0, none⟩) 1 1], .string tPlant, .string tYard] W (Gives (.tuple #[.int .i64 4, .bool true]) W) by
  have h := link_any (smM tQ tCrd tYard) (pMdl n1) tPlant tYard W ((HD.out.on hW).s1.mdl.li)
  rw [sm_link] at h
  exact h))
 go_wp2_with fail
 refine (CL.out _ bl).mono ?_
 rintro e V4 ⟨rfl, hb4⟩
 have HE := Lib.hid (HD.out.on hb4)
 clear CL l1 HD hb4
 have l2 := HE.out.b1.get (r := 2) (v := .slice (some ⟨n1 + 11, 0, none⟩) 2 2) rfl
 have hat := HE.out.s1.si.cell.left
 have bt : Big 42 (cSte (smSte tQ tCrd) (pSte n1 (n1 + 2))).size := bSte
 have l3 := hat.ldN HM13.out
 have l4 := hat.ldV bt
 have l5 := hat.ldA bt
 have st1 := fun (z : Array Value) (hz : z.size = 13) => put_C bt (cSte_one _ _) z (by rw [hz]; rfl)
 have st2 := fun (z : Array Value) (hz : z.size = 13) => put_V bt (cSte_one _ _) z (by rw [hz]; rfl)
 have st3 := fun (z : Array Value) (hz : z.size = 13) => put_A bt (cSte_one _ _) z (by rw [hz]; rfl)
 clear hat bt
 go_upto_region 7 with fail
 clear l2 l3 l4 l5 st1 st2 st3
 have HF : Hid (Box (V4.alloc (.cells (cSte (smSte tQ tCrd) (pSte n1 (n1 + 2))) 42)) V4.heap.size 42 (cSte (smSte tQ tCrd) (pSte n1 (n1 + 2)))) := Lib.hid Box.new
 have HG := Lib.hid (HE.out.on (show Below V4.heap.size V4 (V4.alloc (.cells (cSte (smSte tQ tCrd) (pSte n1 (n1 + 2))) 42)) by exact bl))
 clear HE
 generalize hG : V4.heap.size = G at HF ⊢
 generalize hV5 : V4.alloc (.cells (cSte (smSte tQ tCrd) (pSte n1 (n1 + 2))) 42) = V5
 rw [hV5] at HF HG
 clear hV5 hG
 have FR : Hid (∀ W, Below V5.heap.size V5 W → (loadCellsFrom ⟨A, 0, none⟩ 0 m4 #[]).run Tryz.prog W = .ok #[.string tShop, .slice none 0 0, .slice (some ⟨n1 + 11, 0, none⟩) 2 2, .slice (some ⟨n1 + 12, 0, none⟩) 1 1] W ∧ (loadCellsFrom ⟨A + 1, 0, none⟩ 0 m4 #[]).run Tryz.prog W = .ok #[.string tShop, .slice none 0 0, .slice (some ⟨n2 + 11, 0, none⟩) 2 2, .slice (some ⟨n2 + 12, 0, none⟩) 1 1] W ∧ (loadCellsFrom ⟨A + 1 + 1, 0, none⟩ 0 m4 #[]).run Tryz.prog W = .ok #[.string tShop, .slice none 0 0, .slice (some ⟨n3 + 11, 0, none⟩) 2 2, .slice (some ⟨n3 + 12, 0, none⟩) 1 1] W ∧ (loadCellsFrom ⟨A + 1 + 1 + 1, 0, none⟩ 0 m4 #[]).run Tryz.prog W = .ok #[.string tShop, .slice none 0 0, .slice (some ⟨n4 + 11, 0, none⟩) 2 2, .slice (some ⟨n4 + 12, 0, none⟩) 1 1] W ∧ (loadCellsFrom ⟨G, 0, none⟩ 0 m13 #[]).run Tryz.prog W = .ok (cSte (smSte tQ tCrd) (pSte n1 (n1 + 2))) W) := Lib.hid fun W hW => ⟨(HG.out.on hW).b1.cell.ldN HM4.out, (HG.out.on hW).b2.cell.ldN HM4.out, (HG.out.on hW).b3.cell.ldN HM4.out, (HG.out.on hW).b4.cell.ldN HM4.out, (HF.out.on hW).cell.ldN HM13.out⟩
 have C1 := Lib.hid (fun W (hW : Below V5.heap.size V5 W) => (show Calls Tryz.prog 10 #[.agg #[.string tShop, .slice none 0 0, .slice (some ⟨n1 + 11, 0, none⟩) 2 2, .slice (some ⟨n1 + 12, 0, none⟩) 1 1]] W (Gives (.int .i64 0) W) from chkM_at (P := pMdl n1) sm_ok W (HG.out.on hW).s1.mdl (smZ (by decide) (by decide))))
 have C2 := Lib.hid (fun W (hW : Below V5.heap.size V5 W) => (show Calls Tryz.prog 10 #[.agg #[.string tShop, .slice none 0 0, .slice (some ⟨n2 + 11, 0, none⟩) 2 2, .slice (some ⟨n2 + 12, 0, none⟩) 1 1]] W (Gives (.int .i64 4) W) from chkM_at (P := pMdl n2) sm_twice W (HG.out.on hW).s2.mdl (smZ (by decide) (by decide))))
 have C3 := Lib.hid (fun W (hW : Below V5.heap.size V5 W) => (show Calls Tryz.prog 10 #[.agg #[.string tShop, .slice none 0 0, .slice (some ⟨n3 + 11, 0, none⟩) 2 2, .slice (some ⟨n3 + 12, 0, none⟩) 1 1]] W (Gives (.int .i64 5) W) from chkM_at (P := pMdl n3) sm_none W (HG.out.on hW).s3.mdl (smZ (by decide) (by decide))))
 have C4 := Lib.hid (fun W (hW : Below V5.heap.size V5 W) => (show Calls Tryz.prog 10 #[.agg #[.string tShop, .slice none 0 0, .slice (some ⟨n4 + 11, 0, none⟩) 2 2, .slice (some ⟨n4 + 12, 0, none⟩) 1 1]] W (Gives (.int .i64 1) W) from chkM_at (P := pMdl n4) sm_arg W (HG.out.on hW).s4.mdl (smZ (by decide) (by decide))))
 have C5 := Lib.hid (fun W (hW : Below V5.heap.size V5 W) => (show Calls Tryz.prog 14 #[.agg #[.string tShop, .slice none 0 0, .slice (some ⟨n1 + 11, 0, none⟩) 2 2, .slice (some ⟨n1 + 12, 0, none⟩) 1 1], .string tYard] W (Gives (.int .i64 1) W) by
  have h := site_any (smM tQ tCrd tYard) (pMdl n1) tYard W (HG.out.on hW).s1.mdl.si
  rw [sm_site] at h
  exact h))
 have C6 := Lib.hid (fun W (hW : Below V5.heap.size V5 W) => (show Calls Tryz.prog 16 #[.agg (cSte (smSte tQ tCrd) (pSte n1 (n1 + 2))), .string tPart] W (Gives (.int .i64 0) W) by
  have h := routine_any (smSte tQ tCrd) (pSte n1 (n1 + 2)) tPart W (HG.out.on hW).s1.site.ro
  rw [sm_rou] at h
  exact h))
 have C7 := Lib.hid (fun W (hW : Below V5.heap.size V5 W) => (show Calls Tryz.prog 18 #[.agg (cSte (smSte tQ tCrd) (pSte n1 (n1 + 2))), .string tDone] W (Gives (.string tCnt) W) by
  have h := kind_any (smSte tQ tCrd) (pSte n1 (n1 + 2)) tDone W (HG.out.on hW).s1.site
  rw [sm_kind] at h
  exact h))
 have C8 := Lib.hid (fun W (hW : Below V5.heap.size V5 W) => (show Calls Tryz.prog 20 #[.agg (cSte (smSte tQ tCrd) (pSte n1 (n1 + 2))), .string tDone] W (Gives (.int .i64 0) W) by
  have h := index_any (smSte tQ tCrd) (pSte n1 (n1 + 2)) tDone W (HG.out.on hW).s1.site
  rw [sm_idx] at h
  exact h))
 have C9 := Lib.hid (fun W (hW : Below V5.heap.size V5 W) => (show Calls Tryz.prog 20 #[.agg (cSte (smSte tQ tCrd) (pSte n1 (n1 + 2))), .string tX] W (Gives (.int .i64 (-1)) W) by
  have h := index_any (smSte tQ tCrd) (pSte n1 (n1 + 2)) tX W (HG.out.on hW).s1.site
  rw [sm_idx2] at h
  exact h))
 have C11 := Lib.hid (fun W (hW : Below V5.heap.size V5 W) (n5 : Nat) (h5 : SmpAt n5 (n5 + 2) tQ tCrd tYard W) => (show Calls Tryz.prog 23 #[.agg #[.string tShop, .slice none 0 0, .slice (some ⟨n1 + 11, 0, none⟩) 2 2, .slice (some ⟨n1 + 12, 0, none⟩) 1 1], .agg #[.string tShop, .slice none 0 0, .slice (some ⟨n5 + 11, 0, none⟩) 2 2, .slice (some ⟨n5 + 12, 0, none⟩) 1 1]] W (Gives (.bool true) W) from sameM_at (P := pMdl n1) (Q := pMdl n5) sm_self W (HG.out.on hW).s1.mdl h5.mdl))
 have C12 := Lib.hid (fun W (hW : Below V5.heap.size V5 W) => (show Calls Tryz.prog 23 #[.agg #[.string tShop, .slice none 0 0, .slice (some ⟨n1 + 11, 0, none⟩) 2 2, .slice (some ⟨n1 + 12, 0, none⟩) 1 1], .agg #[.string tShop, .slice none 0 0, .slice (some ⟨n2 + 11, 0, none⟩) 2 2, .slice (some ⟨n2 + 12, 0, none⟩) 1 1]] W (Gives (.bool false) W) from sameM_at (P := pMdl n1) (Q := pMdl n2) sm_other W (HG.out.on hW).s1.mdl (HG.out.on hW).s2.mdl))
 have HBW := Lib.hid HG.out.bw
 clear HG HF
 go_region_held3 (fun W => (loadCellsFrom ⟨A, 0, none⟩ 0 m4 #[]).run Tryz.prog W = .ok #[.string tShop, .slice none 0 0, .slice (some ⟨n1 + 11, 0, none⟩) 2 2, .slice (some ⟨n1 + 12, 0, none⟩) 1 1] W ∧ (loadCellsFrom ⟨A + 1, 0, none⟩ 0 m4 #[]).run Tryz.prog W = .ok #[.string tShop, .slice none 0 0, .slice (some ⟨n2 + 11, 0, none⟩) 2 2, .slice (some ⟨n2 + 12, 0, none⟩) 1 1] W ∧ (loadCellsFrom ⟨A + 1 + 1, 0, none⟩ 0 m4 #[]).run Tryz.prog W = .ok #[.string tShop, .slice none 0 0, .slice (some ⟨n3 + 11, 0, none⟩) 2 2, .slice (some ⟨n3 + 12, 0, none⟩) 1 1] W ∧ (loadCellsFrom ⟨A + 1 + 1 + 1, 0, none⟩ 0 m4 #[]).run Tryz.prog W = .ok #[.string tShop, .slice none 0 0, .slice (some ⟨n4 + 11, 0, none⟩) 2 2, .slice (some ⟨n4 + 12, 0, none⟩) 1 1] W ∧ (loadCellsFrom ⟨G, 0, none⟩ 0 m13 #[]).run Tryz.prog W = .ok (cSte (smSte tQ tCrd) (pSte n1 (n1 + 2))) W) (first | (refine FR.out _ ?_; exact bl; done) | (go_keep; done)) (first
  | (have t := hb11; go_at_call 23; refine (C12.out _ bl).mono ?_; rintro e w12 ⟨rfl, hb12⟩)
  | (have t := hb10; go_at_call 23; refine (C11.out _ bl _ (SmpAt.on bl SX)).mono ?_; rintro e w11 ⟨rfl, hb11⟩)
  | (have t := hb9; go_at_call 25; refine (sample_any _).mono ?_; rintro e w10 ⟨rfl, SX, hb10, ZX⟩)
  | (have t := hb8; go_at_call 20; refine (C9.out _ bl).mono ?_; rintro e w9 ⟨rfl, hb9⟩)
  | (have t := hb7; go_at_call 20; refine (C8.out _ bl).mono ?_; rintro e w8 ⟨rfl, hb8⟩)
  | (have t := hb6; go_at_call 18; refine (C7.out _ bl).mono ?_; rintro e w7 ⟨rfl, hb7⟩)
  | (have t := hb5; go_at_call 16; refine (C6.out _ bl).mono ?_; rintro e w6 ⟨rfl, hb6⟩)
  | (have t := hb4; go_at_call 14; refine (C5.out _ bl).mono ?_; rintro e w5 ⟨rfl, hb5⟩)
  | (have t := hb3; go_at_call 10; refine (C4.out _ bl).mono ?_; rintro e w4 ⟨rfl, hb4⟩)
  | (have t := hb2; go_at_call 10; refine (C3.out _ bl).mono ?_; rintro e w3 ⟨rfl, hb3⟩)
  | (have t := hb1; go_at_call 10; refine (C2.out _ bl).mono ?_; rintro e w2 ⟨rfl, hb2⟩)
  | (go_at_call 10; refine (C1.out _ bl).mono ?_; rintro e w1 ⟨rfl, hb1⟩))
 all_goals
  have HBZ : Hid (Below w.heap.size w w12) := Lib.hid (by have h := HBW.out; exact bl)
  go_wp2_with fail
  go_ret
  exact ⟨rfl, by have h := HBZ.out; exact bl⟩
end Go.Proofs.YtaaffmbnhjaebaaGreat.Md
