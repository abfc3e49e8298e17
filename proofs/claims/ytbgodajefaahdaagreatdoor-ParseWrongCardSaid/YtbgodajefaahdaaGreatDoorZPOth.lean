/-
  Parts of this proof: The contract of hasOthers.
-/
import Derived.Test.YtbgodajefaahdaaGreatDoorZPBase
set_option linter.unusedVariables false
open Go.Lib (hid)
namespace Go.Proofs.YtbgodajefaahdaaGreatDoor.Sm
open Go.RowKit
open Go.Proofs.YtbgodajefaahdaaGreatDoor.Ex (Gives)
attribute [local go_sem] cs0 cs1 cs2 cs3 cs4 cs5 cs6 cs7 cs8 cs9 cs10 cs11 cs12 cs13 cs14 cs15 cs16 cs17 cs18 cs19 cs20
set_option maxHeartbeats 4000000
set_option maxRecDepth 1000000
def CutQ (R:Act->World->Prop) (Q:Exit->Act->World->Prop):Exit->Act->World->Prop
 | .normal,a,w=>R a w
 | .exit i,a,w=>Q (.exit i) a w
 | .goto l,a,w=>Q (.goto l) a w
 | .ret,a,w=>Q .ret a w
 | .panic c,a,w=>Q (.panic c) a w
 | .outgrown,a,w=>Q .outgrown a w
theorem upon_cut {P:Program} {o:Oper} {a:Act} {next:Act->World->Prop} {R:Act->World->Prop} {Q:Exit->Act->World->Prop} {r:Result Next} (h:o.upon P a next (CutQ R Q) r):o.upon P a next Q r:=by
 cases r with
 | ok n w'=>cases n <;> exact h
 | halt x w'=>cases x <;> exact h
theorem wpList_cut {P:Program} {ops:Array Oper} {Q:Exit->Act->World->Prop} {R:Act->World->Prop} {l2:List Oper} (hr:∀a w,R a w->wpList P ops Q l2 a w):∀(l1:List Oper) (a:Act) (w:World),wpList P ops (CutQ R Q) l1 a w->wpList P ops Q (l1++l2) a w
 | [],a,w,h=>hr a w h
 | o::l1,a,w,h=>by
  rw[List.cons_append];unfold wpList at h ⊢
  split
  · rename_i hw
    rw[if_pos hw] at h;rcases h with h|h
    · exact .inl (Oper.wp_mono (wpList_cut hr l1) (upon_cut h))
    · exact .inr ⟨h.1,h.2⟩
  · rename_i hw
    rw[if_neg hw] at h;exact wpList_cut hr l1 _ _ h
theorem wpList_cut_at {P:Program} {ops:Array Oper} {Q:Exit->Act->World->Prop} {R:Act->World->Prop} {L:List Oper} {a:Act} {w:World} (n:Nat) (h:∀Q':Exit->Act->World->Prop,(∀a w,R a w->Q' .normal a w)->wpList P ops Q' (L.take n) a w) (hr:∀a w,R a w->wpList P ops Q (L.drop n) a w):wpList P ops Q L a w:=by
 have:=wpList_cut hr (L.take n) a w (h (CutQ R Q) fun _ _ h=>h);rwa [List.take_append_drop] at this
theorem oth_far {w:World} (x:St) (P:Pl) (c:Array Value):Hid (∀W,Below ((w.alloc (.cells (cs x P) 60)).alloc (.cells c 166)).heap.size ((w.alloc (.cells (cs x P) 60)).alloc (.cells c 166)) W->box21 W w.heap.size x P/\W.heap[w.heap.size+1]?=some (.cells c 166 (0,0))):=hid fun W hb=>by
 have h1:box21 (w.alloc (.cells (cs x P) 60)) w.heap.size x P:=box_new21;have h2:=World.alloc_heap_new (w.alloc (.cells (cs x P) 60)) (.cells c 166);have e:(w.alloc (.cells (cs x P) 60)).heap.size=w.heap.size+1:=by simp
 rw[e] at h2;exact⟨(h1.on bl).on hb,(hb.block _ (by simp)).trans h2⟩
theorem cell_at {W:World} {g i:Nat} {c:Array Value} {t:TypeId} {fr:Nat×Nat} (h:W.heap[g]?=some (.cells c t fr)) {v:Value} (hv:c[i]?=some v):W.cell? ⟨g,i,none⟩=some v:=(cell_of_row W g i _ _ _ h).trans hv
theorem zDX_0 {p:Prop} (h:p:=by
 go_wp2_with fail;exact HQ1.out _ _ ⟨_,_,_,_,_,_,_,_,_,_,_,_,_,_,_,_,_,_,_,_,_,_,_,_,_,_,_,_,_,_,_,_,_,_,_,_,_,_,_,_,_,_,_,_,_,_,_,_,_,_,_,_,_,_,_,_,_,_,_,_,_,_,_,_,_,_,_,_,_,_,_,_,_,_,_,_,_,_,_,_,_,_,_,_,rfl,hid HB7.out⟩
 ):p:=h
theorem zDX_1 {p:Prop} (h:p:=by
 go_wp2_with fail;exact HQ1.out _ _ ⟨_,_,_,_,_,_,_,_,_,_,_,_,_,_,_,_,_,_,_,_,_,_,_,_,_,_,_,_,_,_,_,_,_,_,_,_,_,_,_,_,_,_,_,_,_,_,_,_,_,_,_,_,_,_,_,_,_,_,_,_,_,_,_,_,_,_,_,_,_,_,_,_,_,rfl,hid HB6.out⟩
 ):p:=h
theorem zDX_2 {p:Prop} (h:p:=by
 go_wp2_with fail;exact HQ1.out _ _ ⟨_,_,_,_,_,_,_,_,_,_,_,_,_,_,_,_,_,_,_,_,_,_,_,_,_,_,_,_,_,_,_,_,_,_,_,_,_,_,_,_,_,_,_,_,_,_,_,_,_,_,_,_,rfl,hid HB4.out⟩
 ):p:=h
theorem zDX_3 {p:Prop} (h:p:=by
 go_wp2_with fail;refine(C6.out _ (by have HBB:=HB5.out;exact bl)).mono ?_;rintro e wz ⟨rfl,hbz⟩;go_wp2_with fail;exact HQ1.out _ _ ⟨_,_,_,_,_,_,_,_,_,_,_,_,_,_,_,_,_,_,_,_,_,_,_,_,_,_,_,_,_,_,_,_,_,_,_,_,_,_,_,_,_,_,_,_,_,_,_,_,_,_,_,_,_,_,_,_,_,_,_,_,_,_,_,_,rfl,hid (by have HBB:=HB5.out;exact bl)⟩
 ):p:=h
theorem zDX_4 {p:Prop} (h:p:=by
 go_wp2_with fail;refine(C4.out _ (by have HBB:=HB3.out;exact bl)).mono ?_;rintro e wz ⟨rfl,hbz⟩;go_wp2_with fail;exact HQ1.out _ _ ⟨_,_,_,_,_,_,_,_,_,_,_,_,_,_,_,_,_,_,_,_,_,_,_,_,_,_,_,_,_,_,_,_,_,_,_,_,_,_,_,_,_,rfl,hid (by have HBB:=HB3.out;exact bl)⟩
 ):p:=h
theorem zDX_5 {p:Prop} (h:p:=by
 go_wp2_with fail;exact HQ1.out _ _ ⟨_,_,_,_,_,_,_,_,_,_,_,_,_,_,_,_,_,rfl,hid HB1.out⟩
 ):p:=h
theorem zDX_6 {p:Prop} (h:p:=by
 go_wp2_with fail;refine(C3.out _ (by have HBB:=HB2.out;exact bl)).mono ?_;rintro e wz ⟨rfl,hbz⟩;go_wp2_with fail;exact HQ1.out _ _ ⟨_,_,_,_,_,_,_,_,_,_,_,_,_,_,_,_,_,_,_,_,_,_,_,_,_,_,_,_,_,rfl,hid (by have HBB:=HB2.out;exact bl)⟩
 ):p:=h
theorem zDX_7 {p:Prop} (h:p:=by
 go_wp2_with fail;exact HQ1.out _ _ ⟨_,_,_,_,_,_,_,_,_,_,_,_,_,_,_,_,_,_,_,_,_,_,_,_,_,_,_,_,_,_,_,_,_,_,_,_,_,_,_,_,_,_,_,_,_,_,_,_,_,_,_,_,_,_,_,_,_,_,_,_,_,_,_,_,rfl,hid HB5.out⟩
 ):p:=h
theorem zDX_8 {p:Prop} (h:p:=by
 go_wp2_with fail;go_ret;exact⟨rfl,by have HBB:=HB8.out;exact bl⟩
 ):p:=h
theorem zDX_9 {p:Prop} (h:p:=by
 go_wp2_with fail;exact HQ1.out _ _ ⟨_,_,_,_,_,_,_,_,_,_,_,_,_,_,_,_,_,_,_,_,_,_,_,_,_,_,_,_,_,_,_,_,_,_,_,_,_,_,_,_,_,rfl,hid HB3.out⟩
 ):p:=h
theorem zDX_a {p:Prop} (h:p:=by
 go_wp2_with fail;exact HQ1.out _ _ ⟨_,_,_,_,_,_,_,rfl,hid (Below.refl _ _)⟩
 ):p:=h
theorem zDX_b {p:Prop} (h:p:=by
 go_wp2_with fail;exact HQ1.out _ _ ⟨_,_,_,_,_,_,_,_,_,_,_,_,_,_,_,_,_,_,_,_,_,_,_,_,_,_,_,_,_,rfl,hid HB2.out⟩
 ):p:=h
set_option maxRecDepth 100000 in
theorem others_walk (x:St) (P:Pl) (w:World) (a1 a2 a3 a4 a5 a6 a7 a8 a9 n1 n2 n3 n4 n5 n6 n7 n8 n9 V1 V2 V3 V4 V5 V6 V7 V8 V9:Bool)
 (C3:Hid (∀W,Below w.heap.size w W->Calls Tryz.prog 136 #[.agg #[.int .i64 x.e.o,.string x.e.s,.int .i64 x.e.n,.slice P.ep P.em P.ec],.agg #[.int .i64 0,.string ⟨#[]⟩,.int .i64 0,.slice none 0 0]] W (Gives (.bool (!n3)) W)))
 (C4:Hid (∀W,Below w.heap.size w W->Calls Tryz.prog 136 #[.agg #[.int .i64 x.g.o,.string x.g.s,.int .i64 x.g.n,.slice P.gp P.gm P.gc],.agg #[.int .i64 0,.string ⟨#[]⟩,.int .i64 0,.slice none 0 0]] W (Gives (.bool (!n4)) W)))
 (C6:Hid (∀W,Below w.heap.size w W->Calls Tryz.prog 137 #[.agg #[.int .i64 x.di.op,.int .i64 x.di.a,.int .i64 x.di.b,.int .i64 x.di.n,.slice P.vp P.vm P.vc,.slice P.wp P.wm P.wc],.agg #[.int .i64 0,.int .i64 0,.int .i64 0,.int .i64 0,.slice none 0 0,.slice none 0 0]] W (Gives (.bool (!n6)) W)))
 (N1:x.nm.toList.isEmpty = !n1) (N2:x.f.toList.isEmpty = !n2) (N5:decide ((0:Int)<(P.am:Int))=n5) (N5i:decide (0<P.am)=n5) (N7:x.fl=n7) (N8:decide ((0:Int)<(P.bm:Int))=n8) (N8i:decide (0<P.bm)=n8) (N9:decide ((0:Int)<(P.lm:Int))=n9) (N9i:decide (0<P.lm)=n9)
 (E1:V1=(!a1&&n1)) (E2:V2=(V1||(!a2&&n2))) (E3:V3=(V2||(!a3&&n3))) (E4:V4=(V3||(!a4&&n4))) (E5:V5=(V4||(!a5&&n5))) (E6:V6=(V5||(!a6&&n6))) (E7:V7=(V6||(!a7&&n7))) (E8:V8=(V7||(!a8&&n8))) (E9:V9=(V8||(!a9&&n9))) :
 Calls Tryz.prog 85 #[.agg (cs x P),.agg #[.bool a1,.bool a2,.bool a3,.bool a4,.bool a5,.bool a6,.bool a7,.bool a8,.bool a9]] w (Gives (.bool V9) w):=by
 have FX:=oth_far (w:=w) x P #[.bool a1,.bool a2,.bool a3,.bool a4,.bool a5,.bool a6,.bool a7,.bool a8,.bool a9];replace N7:=hid N7;replace E1:=hid E1;replace E2:=hid E2;replace E3:=hid E3;replace E4:=hid E4;replace E5:=hid E5;replace E6:=hid E6;replace E7:=hid E7;replace E8:=hid E8;replace E9:=hid E9;go_enter Tryz.func85,Tryz.ntmps85
 go_upto_region 1 with fail
 apply wp_region_lit
 simp only[List.append_eq,List.cons_append,List.nil_append];refine wpList_cut_at ((((((((0+1)+1)+1)+1)+1)+1)+1)+1) (R:=(fun a w'=>∃u5 u6 u7 u8 u9 u10 u11:Value,a={ tmps:=List.toArray ((.agg (cs x P))::(.agg #[.bool a1,.bool a2,.bool a3,.bool a4,.bool a5,.bool a6,.bool a7,.bool a8,.bool a9])::(.pointer (some ⟨w.heap.size,0,none⟩))::(.pointer (some ⟨w.heap.size+1,0,none⟩))::(.bool false)::(u5)::(u6)::(u7)::(u8)::(u9)::(u10)::(u11)::(.bool (V1))::(undef)::(undef)::(undef)::(undef)::(undef)::(undef)::(undef)::(undef)::(undef)::(undef)::(undef)::(undef)::(undef)::(undef)::(undef)::(undef)::(undef)::(undef)::(undef)::(undef)::(undef)::(undef)::(undef)::(undef)::(undef)::(undef)::(undef)::(undef)::(undef)::(undef)::(undef)::(undef)::(undef)::(undef)::(undef)::(undef)::(undef)::(undef)::(undef)::(undef)::(undef)::(undef)::(undef)::(undef)::(undef)::(undef)::(undef)::(undef)::(undef)::(undef)::(undef)::(undef)::(undef)::(undef)::(undef)::(undef)::(undef)::(undef)::(undef)::(undef)::(undef)::(undef)::(undef)::(undef)::(undef)::(undef)::(undef)::(undef)::(undef)::(undef)::(undef)::(undef)::(undef)::(undef)::(undef)::(undef)::(undef)::(undef)::(undef)::(undef)::(undef)::(undef)::(undef)::(undef)::(undef)::(undef)::(undef)::(undef)::[]),defers:=[] }/\Hid (Below ((w.alloc (.cells (cs x P) 60)).alloc (.cells #[.bool a1,.bool a2,.bool a3,.bool a4,.bool a5,.bool a6,.bool a7,.bool a8,.bool a9] 166)).heap.size ((w.alloc (.cells (cs x P) 60)).alloc (.cells #[.bool a1,.bool a2,.bool a3,.bool a4,.bool a5,.bool a6,.bool a7,.bool a8,.bool a9] 166)) w'))) ?_ ?_
 · intro Q1 hQ1;have HQ1:=hid hQ1;clear hQ1
   repeat rw[List.take_succ_cons]
   rw[List.take_zero];have q:=FX.out _ (Below.refl _ _);have ca:((w.alloc (.cells (cs x P) 60)).alloc (.cells #[.bool a1,.bool a2,.bool a3,.bool a4,.bool a5,.bool a6,.bool a7,.bool a8,.bool a9] 166)).cell? ⟨w.heap.size+1,0,none⟩=some (.bool a1):=cell_at q.2 rfl;have b0:=q.1.c1;clear q
   cases a1 with
   | true=>
    obtain rfl:V1=false:=by simpa using E1.out
    exact zDX_a
   | false=>
    cases n1 with
    | true=>
     obtain rfl:V1=true:=by simpa using E1.out
     simp only[Bool.not_true] at N1;exact zDX_a
    | false=>
     obtain rfl:V1=false:=by simpa using E1.out
     simp only[Bool.not_false] at N1;exact zDX_a
 · repeat rw[List.drop_succ_cons]
   rw[List.drop_zero];rintro a w1 ⟨u5,u6,u7,u8,u9,u10,u11,rfl,HB1⟩;refine wpList_cut_at ((((((((((0+1)+1)+1)+1)+1)+1)+1)+1)+1)+1) (R:=(fun a w'=>∃u5 u6 u7 u8 u9 u10 u11 u12 u13 u14 u15 u16 u17 u18 u19 u20 u21:Value,a={ tmps:=List.toArray ((.agg (cs x P))::(.agg #[.bool a1,.bool a2,.bool a3,.bool a4,.bool a5,.bool a6,.bool a7,.bool a8,.bool a9])::(.pointer (some ⟨w.heap.size,0,none⟩))::(.pointer (some ⟨w.heap.size+1,0,none⟩))::(.bool false)::(u5)::(u6)::(u7)::(u8)::(u9)::(u10)::(u11)::(u12)::(u13)::(u14)::(u15)::(u16)::(u17)::(u18)::(u19)::(u20)::(u21)::(.bool (V2))::(undef)::(undef)::(undef)::(undef)::(undef)::(undef)::(undef)::(undef)::(undef)::(undef)::(undef)::(undef)::(undef)::(undef)::(undef)::(undef)::(undef)::(undef)::(undef)::(undef)::(undef)::(undef)::(undef)::(undef)::(undef)::(undef)::(undef)::(undef)::(undef)::(undef)::(undef)::(undef)::(undef)::(undef)::(undef)::(undef)::(undef)::(undef)::(undef)::(undef)::(undef)::(undef)::(undef)::(undef)::(undef)::(undef)::(undef)::(undef)::(undef)::(undef)::(undef)::(undef)::(undef)::(undef)::(undef)::(undef)::(undef)::(undef)::(undef)::(undef)::(undef)::(undef)::(undef)::(undef)::(undef)::(undef)::(undef)::(undef)::(undef)::(undef)::(undef)::(undef)::(undef)::(undef)::(undef)::(undef)::(undef)::(undef)::[]),defers:=[] }/\Hid (Below ((w.alloc (.cells (cs x P) 60)).alloc (.cells #[.bool a1,.bool a2,.bool a3,.bool a4,.bool a5,.bool a6,.bool a7,.bool a8,.bool a9] 166)).heap.size ((w.alloc (.cells (cs x P) 60)).alloc (.cells #[.bool a1,.bool a2,.bool a3,.bool a4,.bool a5,.bool a6,.bool a7,.bool a8,.bool a9] 166)) w'))) ?_ ?_
   · intro Q1 hQ1;have HQ1:=hid hQ1;clear hQ1
     repeat rw[List.take_succ_cons]
     rw[List.take_zero];have q:=FX.out _ HB1.out;have ca:w1.cell? ⟨w.heap.size+1,1,none⟩=some (.bool a2):=cell_at q.2 rfl;have b0:=q.1.c2;clear q
     cases V1 with
     | true=>
      obtain rfl:V2=true:=by simpa using E2.out
      exact zDX_5
     | false=>
      cases a2 with
      | true=>
       obtain rfl:V2=false:=by simpa using E2.out
       exact zDX_5
      | false=>
       cases n2 with
       | true=>
        obtain rfl:V2=true:=by simpa using E2.out
        simp only[Bool.not_true] at N2;exact zDX_5
       | false=>
        obtain rfl:V2=false:=by simpa using E2.out
        simp only[Bool.not_false] at N2;exact zDX_5
   · repeat rw[List.drop_succ_cons]
     rw[List.drop_zero];rintro a w2 ⟨u5,u6,u7,u8,u9,u10,u11,u12,u13,u14,u15,u16,u17,u18,u19,u20,u21,rfl,HB2⟩;refine wpList_cut_at ((((((((((((0+1)+1)+1)+1)+1)+1)+1)+1)+1)+1)+1)+1) (R:=(fun a w'=>∃u5 u6 u7 u8 u9 u10 u11 u12 u13 u14 u15 u16 u17 u18 u19 u20 u21 u22 u23 u24 u25 u26 u27 u28 u29 u30 u31 u32 u33:Value,a={ tmps:=List.toArray ((.agg (cs x P))::(.agg #[.bool a1,.bool a2,.bool a3,.bool a4,.bool a5,.bool a6,.bool a7,.bool a8,.bool a9])::(.pointer (some ⟨w.heap.size,0,none⟩))::(.pointer (some ⟨w.heap.size+1,0,none⟩))::(.bool false)::(u5)::(u6)::(u7)::(u8)::(u9)::(u10)::(u11)::(u12)::(u13)::(u14)::(u15)::(u16)::(u17)::(u18)::(u19)::(u20)::(u21)::(u22)::(u23)::(u24)::(u25)::(u26)::(u27)::(u28)::(u29)::(u30)::(u31)::(u32)::(u33)::(.bool (V3))::(undef)::(undef)::(undef)::(undef)::(undef)::(undef)::(undef)::(undef)::(undef)::(undef)::(undef)::(undef)::(undef)::(undef)::(undef)::(undef)::(undef)::(undef)::(undef)::(undef)::(undef)::(undef)::(undef)::(undef)::(undef)::(undef)::(undef)::(undef)::(undef)::(undef)::(undef)::(undef)::(undef)::(undef)::(undef)::(undef)::(undef)::(undef)::(undef)::(undef)::(undef)::(undef)::(undef)::(undef)::(undef)::(undef)::(undef)::(undef)::(undef)::(undef)::(undef)::(undef)::(undef)::(undef)::(undef)::(undef)::(undef)::(undef)::(undef)::(undef)::(undef)::(undef)::(undef)::(undef)::(undef)::(undef)::[]),defers:=[] }/\Hid (Below ((w.alloc (.cells (cs x P) 60)).alloc (.cells #[.bool a1,.bool a2,.bool a3,.bool a4,.bool a5,.bool a6,.bool a7,.bool a8,.bool a9] 166)).heap.size ((w.alloc (.cells (cs x P) 60)).alloc (.cells #[.bool a1,.bool a2,.bool a3,.bool a4,.bool a5,.bool a6,.bool a7,.bool a8,.bool a9] 166)) w'))) ?_ ?_
     · intro Q1 hQ1;have HQ1:=hid hQ1;clear hQ1
       repeat rw[List.take_succ_cons]
       rw[List.take_zero];have q:=FX.out _ HB2.out;have ca:w2.cell? ⟨w.heap.size+1,2,none⟩=some (.bool a3):=cell_at q.2 rfl;have b0:=q.1.c3;have b1:=q.1.c4;have b2:=q.1.c5;have b3:=q.1.c6;clear q
       cases V2 with
       | true=>
        obtain rfl:V3=true:=by simpa using E3.out
        exact zDX_b
       | false=>
        cases a3 with
        | true=>
         obtain rfl:V3=false:=by simpa using E3.out
         exact zDX_b
        | false=>
         cases n3 with
         | true=>
          obtain rfl:V3=true:=by simpa using E3.out
          simp only[Bool.not_true] at C3;exact zDX_6
         | false=>
          obtain rfl:V3=false:=by simpa using E3.out
          simp only[Bool.not_false] at C3;exact zDX_6
     · repeat rw[List.drop_succ_cons]
       rw[List.drop_zero];rintro a w3 ⟨u5,u6,u7,u8,u9,u10,u11,u12,u13,u14,u15,u16,u17,u18,u19,u20,u21,u22,u23,u24,u25,u26,u27,u28,u29,u30,u31,u32,u33,rfl,HB3⟩;refine wpList_cut_at ((((((((((((0+1)+1)+1)+1)+1)+1)+1)+1)+1)+1)+1)+1) (R:=(fun a w'=>∃u5 u6 u7 u8 u9 u10 u11 u12 u13 u14 u15 u16 u17 u18 u19 u20 u21 u22 u23 u24 u25 u26 u27 u28 u29 u30 u31 u32 u33 u34 u35 u36 u37 u38 u39 u40 u41 u42 u43 u44 u45:Value,a={ tmps:=List.toArray ((.agg (cs x P))::(.agg #[.bool a1,.bool a2,.bool a3,.bool a4,.bool a5,.bool a6,.bool a7,.bool a8,.bool a9])::(.pointer (some ⟨w.heap.size,0,none⟩))::(.pointer (some ⟨w.heap.size+1,0,none⟩))::(.bool false)::(u5)::(u6)::(u7)::(u8)::(u9)::(u10)::(u11)::(u12)::(u13)::(u14)::(u15)::(u16)::(u17)::(u18)::(u19)::(u20)::(u21)::(u22)::(u23)::(u24)::(u25)::(u26)::(u27)::(u28)::(u29)::(u30)::(u31)::(u32)::(u33)::(u34)::(u35)::(u36)::(u37)::(u38)::(u39)::(u40)::(u41)::(u42)::(u43)::(u44)::(u45)::(.bool (V4))::(undef)::(undef)::(undef)::(undef)::(undef)::(undef)::(undef)::(undef)::(undef)::(undef)::(undef)::(undef)::(undef)::(undef)::(undef)::(undef)::(undef)::(undef)::(undef)::(undef)::(undef)::(undef)::(undef)::(undef)::(undef)::(undef)::(undef)::(undef)::(undef)::(undef)::(undef)::(undef)::(undef)::(undef)::(undef)::(undef)::(undef)::(undef)::(undef)::(undef)::(undef)::(undef)::(undef)::(undef)::(undef)::(undef)::(undef)::(undef)::(undef)::(undef)::(undef)::(undef)::(undef)::(undef)::[]),defers:=[] }/\Hid (Below ((w.alloc (.cells (cs x P) 60)).alloc (.cells #[.bool a1,.bool a2,.bool a3,.bool a4,.bool a5,.bool a6,.bool a7,.bool a8,.bool a9] 166)).heap.size ((w.alloc (.cells (cs x P) 60)).alloc (.cells #[.bool a1,.bool a2,.bool a3,.bool a4,.bool a5,.bool a6,.bool a7,.bool a8,.bool a9] 166)) w'))) ?_ ?_
       · intro Q1 hQ1;have HQ1:=hid hQ1;clear hQ1
         repeat rw[List.take_succ_cons]
         rw[List.take_zero];have q:=FX.out _ HB3.out;have ca:w3.cell? ⟨w.heap.size+1,3,none⟩=some (.bool a4):=cell_at q.2 rfl;have b0:=q.1.c7;have b1:=q.1.c8;have b2:=q.1.c9;have b3:=q.1.c10;clear q
         cases V3 with
         | true=>
          obtain rfl:V4=true:=by simpa using E4.out
          exact zDX_9
         | false=>
          cases a4 with
          | true=>
           obtain rfl:V4=false:=by simpa using E4.out
           exact zDX_9
          | false=>
           cases n4 with
           | true=>
            obtain rfl:V4=true:=by simpa using E4.out
            simp only[Bool.not_true] at C4;exact zDX_4
           | false=>
            obtain rfl:V4=false:=by simpa using E4.out
            simp only[Bool.not_false] at C4;exact zDX_4
       · repeat rw[List.drop_succ_cons]
         rw[List.drop_zero];rintro a w4 ⟨u5,u6,u7,u8,u9,u10,u11,u12,u13,u14,u15,u16,u17,u18,u19,u20,u21,u22,u23,u24,u25,u26,u27,u28,u29,u30,u31,u32,u33,u34,u35,u36,u37,u38,u39,u40,u41,u42,u43,u44,u45,rfl,HB4⟩;refine wpList_cut_at (((((((((((0+1)+1)+1)+1)+1)+1)+1)+1)+1)+1)+1) (R:=(fun a w'=>∃u5 u6 u7 u8 u9 u10 u11 u12 u13 u14 u15 u16 u17 u18 u19 u20 u21 u22 u23 u24 u25 u26 u27 u28 u29 u30 u31 u32 u33 u34 u35 u36 u37 u38 u39 u40 u41 u42 u43 u44 u45 u46 u47 u48 u49 u50 u51 u52 u53 u54 u55 u56:Value,a={ tmps:=List.toArray ((.agg (cs x P))::(.agg #[.bool a1,.bool a2,.bool a3,.bool a4,.bool a5,.bool a6,.bool a7,.bool a8,.bool a9])::(.pointer (some ⟨w.heap.size,0,none⟩))::(.pointer (some ⟨w.heap.size+1,0,none⟩))::(.bool false)::(u5)::(u6)::(u7)::(u8)::(u9)::(u10)::(u11)::(u12)::(u13)::(u14)::(u15)::(u16)::(u17)::(u18)::(u19)::(u20)::(u21)::(u22)::(u23)::(u24)::(u25)::(u26)::(u27)::(u28)::(u29)::(u30)::(u31)::(u32)::(u33)::(u34)::(u35)::(u36)::(u37)::(u38)::(u39)::(u40)::(u41)::(u42)::(u43)::(u44)::(u45)::(u46)::(u47)::(u48)::(u49)::(u50)::(u51)::(u52)::(u53)::(u54)::(u55)::(u56)::(.bool (V5))::(undef)::(undef)::(undef)::(undef)::(undef)::(undef)::(undef)::(undef)::(undef)::(undef)::(undef)::(undef)::(undef)::(undef)::(undef)::(undef)::(undef)::(undef)::(undef)::(undef)::(undef)::(undef)::(undef)::(undef)::(undef)::(undef)::(undef)::(undef)::(undef)::(undef)::(undef)::(undef)::(undef)::(undef)::(undef)::(undef)::(undef)::(undef)::(undef)::(undef)::(undef)::(undef)::(undef)::[]),defers:=[] }/\Hid (Below ((w.alloc (.cells (cs x P) 60)).alloc (.cells #[.bool a1,.bool a2,.bool a3,.bool a4,.bool a5,.bool a6,.bool a7,.bool a8,.bool a9] 166)).heap.size ((w.alloc (.cells (cs x P) 60)).alloc (.cells #[.bool a1,.bool a2,.bool a3,.bool a4,.bool a5,.bool a6,.bool a7,.bool a8,.bool a9] 166)) w'))) ?_ ?_
         · intro Q1 hQ1;have HQ1:=hid hQ1;clear hQ1
           repeat rw[List.take_succ_cons]
           rw[List.take_zero];have q:=FX.out _ HB4.out;have ca:w4.cell? ⟨w.heap.size+1,4,none⟩=some (.bool a5):=cell_at q.2 rfl;have b0:=q.1.c11;clear q
           cases V4 with
           | true=>
            obtain rfl:V5=true:=by simpa using E5.out
            exact zDX_2
           | false=>
            cases a5 with
            | true=>
             obtain rfl:V5=false:=by simpa using E5.out
             exact zDX_2
            | false=>
             cases n5 with
             | true=>
              obtain rfl:V5=true:=by simpa using E5.out
              exact zDX_2
             | false=>
              obtain rfl:V5=false:=by simpa using E5.out
              exact zDX_2
         · repeat rw[List.drop_succ_cons]
           rw[List.drop_zero];rintro a w5 ⟨u5,u6,u7,u8,u9,u10,u11,u12,u13,u14,u15,u16,u17,u18,u19,u20,u21,u22,u23,u24,u25,u26,u27,u28,u29,u30,u31,u32,u33,u34,u35,u36,u37,u38,u39,u40,u41,u42,u43,u44,u45,u46,u47,u48,u49,u50,u51,u52,u53,u54,u55,u56,rfl,HB5⟩;refine wpList_cut_at ((((((((((((0+1)+1)+1)+1)+1)+1)+1)+1)+1)+1)+1)+1) (R:=(fun a w'=>∃u5 u6 u7 u8 u9 u10 u11 u12 u13 u14 u15 u16 u17 u18 u19 u20 u21 u22 u23 u24 u25 u26 u27 u28 u29 u30 u31 u32 u33 u34 u35 u36 u37 u38 u39 u40 u41 u42 u43 u44 u45 u46 u47 u48 u49 u50 u51 u52 u53 u54 u55 u56 u57 u58 u59 u60 u61 u62 u63 u64 u65 u66 u67 u68:Value,a={ tmps:=List.toArray ((.agg (cs x P))::(.agg #[.bool a1,.bool a2,.bool a3,.bool a4,.bool a5,.bool a6,.bool a7,.bool a8,.bool a9])::(.pointer (some ⟨w.heap.size,0,none⟩))::(.pointer (some ⟨w.heap.size+1,0,none⟩))::(.bool false)::(u5)::(u6)::(u7)::(u8)::(u9)::(u10)::(u11)::(u12)::(u13)::(u14)::(u15)::(u16)::(u17)::(u18)::(u19)::(u20)::(u21)::(u22)::(u23)::(u24)::(u25)::(u26)::(u27)::(u28)::(u29)::(u30)::(u31)::(u32)::(u33)::(u34)::(u35)::(u36)::(u37)::(u38)::(u39)::(u40)::(u41)::(u42)::(u43)::(u44)::(u45)::(u46)::(u47)::(u48)::(u49)::(u50)::(u51)::(u52)::(u53)::(u54)::(u55)::(u56)::(u57)::(u58)::(u59)::(u60)::(u61)::(u62)::(u63)::(u64)::(u65)::(u66)::(u67)::(u68)::(.bool (V6))::(undef)::(undef)::(undef)::(undef)::(undef)::(undef)::(undef)::(undef)::(undef)::(undef)::(undef)::(undef)::(undef)::(undef)::(undef)::(undef)::(undef)::(undef)::(undef)::(undef)::(undef)::(undef)::(undef)::(undef)::(undef)::(undef)::(undef)::(undef)::(undef)::(undef)::(undef)::[]),defers:=[] }/\Hid (Below ((w.alloc (.cells (cs x P) 60)).alloc (.cells #[.bool a1,.bool a2,.bool a3,.bool a4,.bool a5,.bool a6,.bool a7,.bool a8,.bool a9] 166)).heap.size ((w.alloc (.cells (cs x P) 60)).alloc (.cells #[.bool a1,.bool a2,.bool a3,.bool a4,.bool a5,.bool a6,.bool a7,.bool a8,.bool a9] 166)) w'))) ?_ ?_
           · intro Q1 hQ1;have HQ1:=hid hQ1;clear hQ1
             repeat rw[List.take_succ_cons]
             rw[List.take_zero];have q:=FX.out _ HB5.out;have ca:w5.cell? ⟨w.heap.size+1,5,none⟩=some (.bool a6):=cell_at q.2 rfl;have b0:=q.1.c12;have b1:=q.1.c13;have b2:=q.1.c14;have b3:=q.1.c15;have b4:=q.1.c16;have b5:=q.1.c17;clear q
             cases V5 with
             | true=>
              obtain rfl:V6=true:=by simpa using E6.out
              exact zDX_7
             | false=>
              cases a6 with
              | true=>
               obtain rfl:V6=false:=by simpa using E6.out
               exact zDX_7
              | false=>
               cases n6 with
               | true=>
                obtain rfl:V6=true:=by simpa using E6.out
                simp only[Bool.not_true] at C6;exact zDX_3
               | false=>
                obtain rfl:V6=false:=by simpa using E6.out
                simp only[Bool.not_false] at C6;exact zDX_3
           · repeat rw[List.drop_succ_cons]
             rw[List.drop_zero];rintro a w6 ⟨u5,u6,u7,u8,u9,u10,u11,u12,u13,u14,u15,u16,u17,u18,u19,u20,u21,u22,u23,u24,u25,u26,u27,u28,u29,u30,u31,u32,u33,u34,u35,u36,u37,u38,u39,u40,u41,u42,u43,u44,u45,u46,u47,u48,u49,u50,u51,u52,u53,u54,u55,u56,u57,u58,u59,u60,u61,u62,u63,u64,u65,u66,u67,u68,rfl,HB6⟩;refine wpList_cut_at (((((((((0+1)+1)+1)+1)+1)+1)+1)+1)+1) (R:=(fun a w'=>∃u5 u6 u7 u8 u9 u10 u11 u12 u13 u14 u15 u16 u17 u18 u19 u20 u21 u22 u23 u24 u25 u26 u27 u28 u29 u30 u31 u32 u33 u34 u35 u36 u37 u38 u39 u40 u41 u42 u43 u44 u45 u46 u47 u48 u49 u50 u51 u52 u53 u54 u55 u56 u57 u58 u59 u60 u61 u62 u63 u64 u65 u66 u67 u68 u69 u70 u71 u72 u73 u74 u75 u76 u77:Value,a={ tmps:=List.toArray ((.agg (cs x P))::(.agg #[.bool a1,.bool a2,.bool a3,.bool a4,.bool a5,.bool a6,.bool a7,.bool a8,.bool a9])::(.pointer (some ⟨w.heap.size,0,none⟩))::(.pointer (some ⟨w.heap.size+1,0,none⟩))::(.bool false)::(u5)::(u6)::(u7)::(u8)::(u9)::(u10)::(u11)::(u12)::(u13)::(u14)::(u15)::(u16)::(u17)::(u18)::(u19)::(u20)::(u21)::(u22)::(u23)::(u24)::(u25)::(u26)::(u27)::(u28)::(u29)::(u30)::(u31)::(u32)::(u33)::(u34)::(u35)::(u36)::(u37)::(u38)::(u39)::(u40)::(u41)::(u42)::(u43)::(u44)::(u45)::(u46)::(u47)::(u48)::(u49)::(u50)::(u51)::(u52)::(u53)::(u54)::(u55)::(u56)::(u57)::(u58)::(u59)::(u60)::(u61)::(u62)::(u63)::(u64)::(u65)::(u66)::(u67)::(u68)::(u69)::(u70)::(u71)::(u72)::(u73)::(u74)::(u75)::(u76)::(u77)::(.bool (V7))::(undef)::(undef)::(undef)::(undef)::(undef)::(undef)::(undef)::(undef)::(undef)::(undef)::(undef)::(undef)::(undef)::(undef)::(undef)::(undef)::(undef)::(undef)::(undef)::(undef)::(undef)::(undef)::[]),defers:=[] }/\Hid (Below ((w.alloc (.cells (cs x P) 60)).alloc (.cells #[.bool a1,.bool a2,.bool a3,.bool a4,.bool a5,.bool a6,.bool a7,.bool a8,.bool a9] 166)).heap.size ((w.alloc (.cells (cs x P) 60)).alloc (.cells #[.bool a1,.bool a2,.bool a3,.bool a4,.bool a5,.bool a6,.bool a7,.bool a8,.bool a9] 166)) w'))) ?_ ?_
             · intro Q1 hQ1;have HQ1:=hid hQ1;clear hQ1
               repeat rw[List.take_succ_cons]
               rw[List.take_zero];have q:=FX.out _ HB6.out;have ca:w6.cell? ⟨w.heap.size+1,6,none⟩=some (.bool a7):=cell_at q.2 rfl;have b0:=q.1.c18;clear q
               cases V6 with
               | true=>
                obtain rfl:V7=true:=by simpa using E7.out
                exact zDX_1
               | false=>
                cases a7 with
                | true=>
                 obtain rfl:V7=false:=by simpa using E7.out
                 exact zDX_1
                | false=>
                 cases n7 with
                 | true=>
                  obtain rfl:V7=true:=by simpa using E7.out
                  rw[N7.out] at b0;exact zDX_1
                 | false=>
                  obtain rfl:V7=false:=by simpa using E7.out
                  rw[N7.out] at b0;exact zDX_1
             · repeat rw[List.drop_succ_cons]
               rw[List.drop_zero];rintro a w7 ⟨u5,u6,u7,u8,u9,u10,u11,u12,u13,u14,u15,u16,u17,u18,u19,u20,u21,u22,u23,u24,u25,u26,u27,u28,u29,u30,u31,u32,u33,u34,u35,u36,u37,u38,u39,u40,u41,u42,u43,u44,u45,u46,u47,u48,u49,u50,u51,u52,u53,u54,u55,u56,u57,u58,u59,u60,u61,u62,u63,u64,u65,u66,u67,u68,u69,u70,u71,u72,u73,u74,u75,u76,u77,rfl,HB7⟩;refine wpList_cut_at (((((((((((0+1)+1)+1)+1)+1)+1)+1)+1)+1)+1)+1) (R:=(fun a w'=>∃u5 u6 u7 u8 u9 u10 u11 u12 u13 u14 u15 u16 u17 u18 u19 u20 u21 u22 u23 u24 u25 u26 u27 u28 u29 u30 u31 u32 u33 u34 u35 u36 u37 u38 u39 u40 u41 u42 u43 u44 u45 u46 u47 u48 u49 u50 u51 u52 u53 u54 u55 u56 u57 u58 u59 u60 u61 u62 u63 u64 u65 u66 u67 u68 u69 u70 u71 u72 u73 u74 u75 u76 u77 u78 u79 u80 u81 u82 u83 u84 u85 u86 u87 u88:Value,a={ tmps:=List.toArray ((.agg (cs x P))::(.agg #[.bool a1,.bool a2,.bool a3,.bool a4,.bool a5,.bool a6,.bool a7,.bool a8,.bool a9])::(.pointer (some ⟨w.heap.size,0,none⟩))::(.pointer (some ⟨w.heap.size+1,0,none⟩))::(.bool false)::(u5)::(u6)::(u7)::(u8)::(u9)::(u10)::(u11)::(u12)::(u13)::(u14)::(u15)::(u16)::(u17)::(u18)::(u19)::(u20)::(u21)::(u22)::(u23)::(u24)::(u25)::(u26)::(u27)::(u28)::(u29)::(u30)::(u31)::(u32)::(u33)::(u34)::(u35)::(u36)::(u37)::(u38)::(u39)::(u40)::(u41)::(u42)::(u43)::(u44)::(u45)::(u46)::(u47)::(u48)::(u49)::(u50)::(u51)::(u52)::(u53)::(u54)::(u55)::(u56)::(u57)::(u58)::(u59)::(u60)::(u61)::(u62)::(u63)::(u64)::(u65)::(u66)::(u67)::(u68)::(u69)::(u70)::(u71)::(u72)::(u73)::(u74)::(u75)::(u76)::(u77)::(u78)::(u79)::(u80)::(u81)::(u82)::(u83)::(u84)::(u85)::(u86)::(u87)::(u88)::(.bool (V8))::(undef)::(undef)::(undef)::(undef)::(undef)::(undef)::(undef)::(undef)::(undef)::(undef)::(undef)::[]),defers:=[] }/\Hid (Below ((w.alloc (.cells (cs x P) 60)).alloc (.cells #[.bool a1,.bool a2,.bool a3,.bool a4,.bool a5,.bool a6,.bool a7,.bool a8,.bool a9] 166)).heap.size ((w.alloc (.cells (cs x P) 60)).alloc (.cells #[.bool a1,.bool a2,.bool a3,.bool a4,.bool a5,.bool a6,.bool a7,.bool a8,.bool a9] 166)) w'))) ?_ ?_
               · intro Q1 hQ1;have HQ1:=hid hQ1;clear hQ1
                 repeat rw[List.take_succ_cons]
                 rw[List.take_zero];have q:=FX.out _ HB7.out;have ca:w7.cell? ⟨w.heap.size+1,7,none⟩=some (.bool a8):=cell_at q.2 rfl;have b0:=q.1.c19;clear q
                 cases V7 with
                 | true=>
                  obtain rfl:V8=true:=by simpa using E8.out
                  exact zDX_0
                 | false=>
                  cases a8 with
                  | true=>
                   obtain rfl:V8=false:=by simpa using E8.out
                   exact zDX_0
                  | false=>
                   cases n8 with
                   | true=>
                    obtain rfl:V8=true:=by simpa using E8.out
                    exact zDX_0
                   | false=>
                    obtain rfl:V8=false:=by simpa using E8.out
                    exact zDX_0
               · repeat rw[List.drop_succ_cons]
                 rw[List.drop_zero];rintro a w8 ⟨u5,u6,u7,u8,u9,u10,u11,u12,u13,u14,u15,u16,u17,u18,u19,u20,u21,u22,u23,u24,u25,u26,u27,u28,u29,u30,u31,u32,u33,u34,u35,u36,u37,u38,u39,u40,u41,u42,u43,u44,u45,u46,u47,u48,u49,u50,u51,u52,u53,u54,u55,u56,u57,u58,u59,u60,u61,u62,u63,u64,u65,u66,u67,u68,u69,u70,u71,u72,u73,u74,u75,u76,u77,u78,u79,u80,u81,u82,u83,u84,u85,u86,u87,u88,rfl,HB8⟩;have q:=FX.out _ HB8.out;have ca:w8.cell? ⟨w.heap.size+1,8,none⟩=some (.bool a9):=cell_at q.2 rfl;have b0:=q.1.c20;clear q
                 cases V8 with
                 | true=>
                  obtain rfl:V9=true:=by simpa using E9.out
                  exact zDX_8
                 | false=>
                  cases a9 with
                  | true=>
                   obtain rfl:V9=false:=by simpa using E9.out
                   exact zDX_8
                  | false=>
                   cases n9 with
                   | true=>
                    obtain rfl:V9=true:=by simpa using E9.out
                    exact zDX_8
                   | false=>
                    obtain rfl:V9=false:=by simpa using E9.out
                    exact zDX_8
end Go.Proofs.YtbgodajefaahdaaGreatDoor.Sm
