/-
  Parts of this proof: The contract of hasOthers.
-/
import Derived.Test.YtkpekhpgdajabaaGreatDoorYTWrG
open Go renaming undef->U,World->ag
open Option renaming none->ae,some->af
set_option linter.unusedVariables false
set_option maxHeartbeats 4000000
open Go.Lib (hid)
namespace Go.Proofs.YtkpekhpgdajabaaGreatDoor
namespace Sm
open Go.RowKit
open Ex (Gives)
attribute [local go_sem] cs0 cs1 cs2 uW uX uY uZ u_ ve vg uI uJ uK uM uP uQ uR uS uT uU uV
set_option maxRecDepth 1000000
def Od (R:Act->ag->Prop) (Q:Exit->Act->ag->Prop):Exit->Act->ag->Prop
 | .normal,a,w=>R a w
 | .exit i,a,w=>Q (.exit i) a w
 | .goto l,a,w=>Q (.goto l) a w
 | .ret,a,w=>Q .ret a w
 | .panic c,a,w=>Q (.panic c) a w
 | .outgrown,a,w=>Q .outgrown a w
theorem aot {P:Program} {o:Oper} {a:Act} {next:Act->ag->Prop} {R:Act->ag->Prop} {Q:Exit->Act->ag->Prop} {r:Result Next} (h:o.upon P a next (Od R Q) r):o.upon P a next Q r:=by
 cases r with
 | ok n w'=>cases n <;> exact h
 | halt x w'=>cases x <;> exact h
theorem TM {P:Program} {ops:Array Oper} {Q:Exit->Act->ag->Prop} {R:Act->ag->Prop} {l2:List Oper} (hr:∀a w,R a w->wpList P ops Q l2 a w):∀(l1:List Oper) (a:Act) (w:ag),wpList P ops (Od R Q) l1 a w->wpList P ops Q (l1++l2) a w
 | [],a,w,h=>hr a w h
 | o::l1,a,w,h=>by
  rw[List.cons_append];unfold wpList at h ⊢
  split
  · rename_i hw
    rw[if_pos hw] at h;rcases h with h|h
    · exact .inl (Oper.wp_mono (TM hr l1) (aot h))
    · exact .inr ⟨h.1,h.2⟩
  · rename_i hw
    rw[if_neg hw] at h;exact TM hr l1 _ _ h
theorem BD {P:Program} {ops:Array Oper} {Q:Exit->Act->ag->Prop} {R:Act->ag->Prop} {L:List Oper} {a:Act} {w:ag} (n:Nat) (h:∀Q':Exit->Act->ag->Prop,(∀a w,R a w->Q' .normal a w)->wpList P ops Q' (L.take n) a w) (hr:∀a w,R a w->wpList P ops Q (L.drop n) a w):wpList P ops Q L a w:=by
 have:=TM hr (L.take n) a w (h (Od R Q) fun _ _ h=>h);rwa [List.take_append_drop] at this
theorem ak5 {w:ag} (x:St) (P:Pl) (c:Array Value):Hid (∀W,Below ((w.alloc (.cells (cs x P) 62)).alloc (.cells c 165)).heap.size ((w.alloc (.cells (cs x P) 62)).alloc (.cells c 165)) W->dB W w.heap.size x P/\W.heap[w.heap.size+1]?=af (.cells c 165 (0,0))):=hid fun W hb=>by
 have h1:dB (w.alloc (.cells (cs x P) 62)) w.heap.size x P:=zm;have h2:=World.alloc_heap_new (w.alloc (.cells (cs x P) 62)) (.cells c 165);have e:(w.alloc (.cells (cs x P) 62)).heap.size=w.heap.size+1:=by simp
 rw[e] at h2;exact⟨(h1.on bl).on hb,(hb.block _ cK).trans h2⟩
theorem qL {W:ag} {g i:Nat} {c:Array Value} {t:TypeId} {fr:Nat×Nat} (h:W.heap[g]?=af (.cells c t fr)) {v:Value} (hv:c[i]?=af v):W.cell? ⟨g,i,ae⟩=af v:=(cell_of_row W g i _ _ _ h).trans hv
theorem NB {p:Prop} (h:p:=by
 go_wp2_with fail;exact nU.out _ _ ⟨_,_,_,_,_,_,_,_,_,_,_,_,_,_,_,_,_,_,_,_,_,_,_,_,_,_,_,_,_,_,_,_,_,_,_,_,_,_,_,_,_,_,_,_,_,_,_,_,_,_,_,_,_,_,_,_,_,_,_,_,_,_,_,_,_,_,_,_,_,_,_,_,_,_,_,_,_,_,_,_,_,_,_,_,rfl,hid Eb.out⟩
 ):p:=h
theorem NC {p:Prop} (h:p:=by
 go_wp2_with fail;exact nU.out _ _ ⟨_,_,_,_,_,_,_,_,_,_,_,_,_,_,_,_,_,_,_,_,_,_,_,_,_,_,_,_,_,_,_,_,_,_,_,_,_,_,_,_,_,_,_,_,_,_,_,_,_,_,_,_,_,_,_,_,_,_,_,_,_,_,_,_,_,_,_,_,_,_,_,_,_,rfl,hid U0.out⟩
 ):p:=h
theorem ND {p:Prop} (h:p:=by
 go_wp2_with fail;exact nU.out _ _ ⟨_,_,_,_,_,_,_,_,_,_,_,_,_,_,_,_,_,_,_,_,_,_,_,_,_,_,_,_,_,_,_,_,_,_,_,_,_,_,_,_,_,_,_,_,_,_,_,_,_,_,_,_,rfl,hid ig.out⟩
 ):p:=h
theorem acV {p:Prop} (h:p:=by
 go_wp2_with fail;refine(C6.out _ (by have bY:=yf.out;exact bl)).mono ?_;rintro e wz ⟨rfl,hbz⟩;go_wp2_with fail;exact nU.out _ _ ⟨_,_,_,_,_,_,_,_,_,_,_,_,_,_,_,_,_,_,_,_,_,_,_,_,_,_,_,_,_,_,_,_,_,_,_,_,_,_,_,_,_,_,_,_,_,_,_,_,_,_,_,_,_,_,_,_,_,_,_,_,_,_,_,_,rfl,hid (by have bY:=yf.out;exact bl)⟩
 ):p:=h
theorem acW {p:Prop} (h:p:=by
 go_wp2_with fail;refine(C4.out _ (by have bY:=HB3.out;exact bl)).mono ?_;rintro e wz ⟨rfl,hbz⟩;go_wp2_with fail;exact nU.out _ _ ⟨_,_,_,_,_,_,_,_,_,_,_,_,_,_,_,_,_,_,_,_,_,_,_,_,_,_,_,_,_,_,_,_,_,_,_,_,_,_,_,_,_,rfl,hid (by have bY:=HB3.out;exact bl)⟩
 ):p:=h
theorem NF {p:Prop} (h:p:=by
 go_wp2_with fail;exact nU.out _ _ ⟨_,_,_,_,_,_,_,_,_,_,_,_,_,_,_,_,_,rfl,hid HB1.out⟩
 ):p:=h
theorem acX {p:Prop} (h:p:=by
 go_wp2_with fail;refine(C3.out _ (by have bY:=HB2.out;exact bl)).mono ?_;rintro e wz ⟨rfl,hbz⟩;go_wp2_with fail;exact nU.out _ _ ⟨_,_,_,_,_,_,_,_,_,_,_,_,_,_,_,_,_,_,_,_,_,_,_,_,_,_,_,_,_,rfl,hid (by have bY:=HB2.out;exact bl)⟩
 ):p:=h
theorem acY {p:Prop} (h:p:=by
 go_wp2_with fail;exact nU.out _ _ ⟨_,_,_,_,_,_,_,_,_,_,_,_,_,_,_,_,_,_,_,_,_,_,_,_,_,_,_,_,_,_,_,_,_,_,_,_,_,_,_,_,_,_,_,_,_,_,_,_,_,_,_,_,_,_,_,_,_,_,_,_,_,_,_,_,rfl,hid yf.out⟩
 ):p:=h
theorem NG {p:Prop} (h:p:=by
 go_wp2_with fail;go_ret;exact⟨rfl,by have bY:=Gi.out;exact bl⟩
 ):p:=h
theorem acZ {p:Prop} (h:p:=by
 go_wp2_with fail;exact nU.out _ _ ⟨_,_,_,_,_,_,_,_,_,_,_,_,_,_,_,_,_,_,_,_,_,_,_,_,_,_,_,_,_,_,_,_,_,_,_,_,_,_,_,_,_,rfl,hid HB3.out⟩
 ):p:=h
theorem Uj {p:Prop} (h:p:=by
 go_wp2_with fail;exact nU.out _ _ ⟨_,_,_,_,_,_,_,rfl,hid (Below.refl _ _)⟩
 ):p:=h
theorem ac0 {p:Prop} (h:p:=by
 go_wp2_with fail;exact nU.out _ _ ⟨_,_,_,_,_,_,_,_,_,_,_,_,_,_,_,_,_,_,_,_,_,_,_,_,_,_,_,_,_,rfl,hid HB2.out⟩
 ):p:=h
set_option maxRecDepth 100000 in
theorem ak8 (x:St) (P:Pl) (w:ag) (a1 a2 a3 a4 a5 a6 a7 a8 a9 n1 n2 n3 n4 n5 n6 n7 n8 n9 V1 V2 V3 V4 V5 V6 V7 V8 V9:Bool)
 (C3:Hid (∀W,Below w.heap.size w W->Calls Tryz.prog 8 #[.agg #[.int .i64 x.e.o,.string x.e.s,.int .i64 x.e.n,.slice P.ep P.em P.ec],.agg #[.int .i64 0,.string ⟨#[]⟩,.int .i64 0,.slice ae 0 0]] W (Gives (.bool (!n3)) W)))
 (C4:Hid (∀W,Below w.heap.size w W->Calls Tryz.prog 8 #[.agg #[.int .i64 x.g.o,.string x.g.s,.int .i64 x.g.n,.slice P.gp P.gm P.gc],.agg #[.int .i64 0,.string ⟨#[]⟩,.int .i64 0,.slice ae 0 0]] W (Gives (.bool (!n4)) W)))
 (C6:Hid (∀W,Below w.heap.size w W->Calls Tryz.prog 158 #[.agg #[.int .i64 x.di.op,.int .i64 x.di.a,.int .i64 x.di.b,.int .i64 x.di.n,.slice P.vp P.vm P.vc,.slice P.wp P.wm P.wc],.agg #[.int .i64 0,.int .i64 0,.int .i64 0,.int .i64 0,.slice ae 0 0,.slice ae 0 0]] W (Gives (.bool (!n6)) W)))
 (N1:x.nm.toList.isEmpty = !n1) (N2:x.f.toList.isEmpty = !n2) (N5:decide ((0:Int)<(P.am:Int))=n5) (N5i:decide (0<P.am)=n5) (N7:x.fl=n7) (N8:decide ((0:Int)<(P.bm:Int))=n8) (N8i:decide (0<P.bm)=n8) (N9:decide ((0:Int)<(P.lm:Int))=n9) (N9i:decide (0<P.lm)=n9)
 (E1:V1=(!a1&&n1)) (E2:V2=(V1||(!a2&&n2))) (E3:V3=(V2||(!a3&&n3))) (E4:V4=(V3||(!a4&&n4))) (E5:V5=(V4||(!a5&&n5))) (E6:V6=(V5||(!a6&&n6))) (E7:V7=(V6||(!a7&&n7))) (E8:V8=(V7||(!a8&&n8))) (E9:V9=(V8||(!a9&&n9))) :
 Calls Tryz.prog 105 #[.agg (cs x P),.agg #[.bool a1,.bool a2,.bool a3,.bool a4,.bool a5,.bool a6,.bool a7,.bool a8,.bool a9]] w (Gives (.bool V9) w):=by
 have FX:=ak5 (w:=w) x P #[.bool a1,.bool a2,.bool a3,.bool a4,.bool a5,.bool a6,.bool a7,.bool a8,.bool a9];replace N7:=hid N7;replace E1:=hid E1;replace E2:=hid E2;replace E3:=hid E3;replace E4:=hid E4;replace E5:=hid E5;replace E6:=hid E6;replace E7:=hid E7;replace E8:=hid E8;replace E9:=hid E9;go_enter Tryz.func105,Tryz.ntmps105
 go_upto_region 1 with fail
 apply wp_region_lit
 simp only[List.append_eq,List.cons_append,List.nil_append];refine BD ((((((((0+1)+1)+1)+1)+1)+1)+1)+1) (R:=(fun a w'=>∃u5 u6 u7 u8 u9 jc jV:Value,a={ tmps:=List.toArray ((.agg (cs x P))::(.agg #[.bool a1,.bool a2,.bool a3,.bool a4,.bool a5,.bool a6,.bool a7,.bool a8,.bool a9])::(.pointer (af ⟨w.heap.size,0,ae⟩))::(.pointer (af ⟨w.heap.size+1,0,ae⟩))::(.bool false)::u5::u6::u7::u8::u9::jc::jV::(.bool (V1))::U::U::U::U::U::U::U::U::U::U::U::U::U::U::U::U::U::U::U::U::U::U::U::U::U::U::U::U::U::U::U::U::U::U::U::U::U::U::U::U::U::U::U::U::U::U::U::U::U::U::U::U::U::U::U::U::U::U::U::U::U::U::U::U::U::U::U::U::U::U::U::U::U::U::U::U::U::U::U::U::U::U::U::U::U::U::U::U::[]),defers:=[] }/\Hid (Below ((w.alloc (.cells (cs x P) 62)).alloc (.cells #[.bool a1,.bool a2,.bool a3,.bool a4,.bool a5,.bool a6,.bool a7,.bool a8,.bool a9] 165)).heap.size ((w.alloc (.cells (cs x P) 62)).alloc (.cells #[.bool a1,.bool a2,.bool a3,.bool a4,.bool a5,.bool a6,.bool a7,.bool a8,.bool a9] 165)) w'))) ?_ ?_
 · intro Q1 kT;have nU:=hid kT;clear kT
   repeat rw[List.take_succ_cons]
   rw[List.take_zero];have q:=FX.out _ (Below.refl _ _);have ca:((w.alloc (.cells (cs x P) 62)).alloc (.cells #[.bool a1,.bool a2,.bool a3,.bool a4,.bool a5,.bool a6,.bool a7,.bool a8,.bool a9] 165)).cell? ⟨w.heap.size+1,0,ae⟩=af (.bool a1):=qL q.2 rfl;have b0:=q.1.c1;clear q
   cases a1 with
   | true=>
    obtain rfl:V1=false:=by simpa using E1.out
    exact Uj
   | false=>
    cases n1 with
    | true=>
     obtain rfl:V1=true:=by simpa using E1.out
     simp only[Bool.not_true] at N1;exact Uj
    | false=>
     obtain rfl:V1=false:=by simpa using E1.out
     simp only[Bool.not_false] at N1;exact Uj
 · repeat rw[List.drop_succ_cons]
   rw[List.drop_zero];rintro a w1 ⟨u5,u6,u7,u8,u9,jc,jV,rfl,HB1⟩;refine BD ((((((((((0+1)+1)+1)+1)+1)+1)+1)+1)+1)+1) (R:=(fun a w'=>∃u5 u6 u7 u8 u9 jc jV lJ kW mq mr u16 mD mF mZ u20 u21:Value,a={ tmps:=List.toArray ((.agg (cs x P))::(.agg #[.bool a1,.bool a2,.bool a3,.bool a4,.bool a5,.bool a6,.bool a7,.bool a8,.bool a9])::(.pointer (af ⟨w.heap.size,0,ae⟩))::(.pointer (af ⟨w.heap.size+1,0,ae⟩))::(.bool false)::u5::u6::u7::u8::u9::jc::jV::lJ::kW::mq::mr::u16::mD::mF::mZ::u20::u21::(.bool (V2))::U::U::U::U::U::U::U::U::U::U::U::U::U::U::U::U::U::U::U::U::U::U::U::U::U::U::U::U::U::U::U::U::U::U::U::U::U::U::U::U::U::U::U::U::U::U::U::U::U::U::U::U::U::U::U::U::U::U::U::U::U::U::U::U::U::U::U::U::U::U::U::U::U::U::U::U::U::U::[]),defers:=[] }/\Hid (Below ((w.alloc (.cells (cs x P) 62)).alloc (.cells #[.bool a1,.bool a2,.bool a3,.bool a4,.bool a5,.bool a6,.bool a7,.bool a8,.bool a9] 165)).heap.size ((w.alloc (.cells (cs x P) 62)).alloc (.cells #[.bool a1,.bool a2,.bool a3,.bool a4,.bool a5,.bool a6,.bool a7,.bool a8,.bool a9] 165)) w'))) ?_ ?_
   · intro Q1 kT;have nU:=hid kT;clear kT
     repeat rw[List.take_succ_cons]
     rw[List.take_zero];have q:=FX.out _ HB1.out;have ca:w1.cell? ⟨w.heap.size+1,1,ae⟩=af (.bool a2):=qL q.2 rfl;have b0:=q.1.c2;clear q
     cases V1 with
     | true=>
      obtain rfl:V2=true:=by simpa using E2.out
      exact NF
     | false=>
      cases a2 with
      | true=>
       obtain rfl:V2=false:=by simpa using E2.out
       exact NF
      | false=>
       cases n2 with
       | true=>
        obtain rfl:V2=true:=by simpa using E2.out
        simp only[Bool.not_true] at N2;exact NF
       | false=>
        obtain rfl:V2=false:=by simpa using E2.out
        simp only[Bool.not_false] at N2;exact NF
   · repeat rw[List.drop_succ_cons]
     rw[List.drop_zero];rintro a w2 ⟨u5,u6,u7,u8,u9,jc,jV,lJ,kW,mq,mr,u16,mD,mF,mZ,u20,u21,rfl,HB2⟩;refine BD ((((((((((((0+1)+1)+1)+1)+1)+1)+1)+1)+1)+1)+1)+1) (R:=(fun a w'=>∃u5 u6 u7 u8 u9 jc jV lJ kW mq mr u16 mD mF mZ u20 u21 u22 u23 u24 u25 u26 u27 u28 u29 u30 u31 u32 u33:Value,a={ tmps:=List.toArray ((.agg (cs x P))::(.agg #[.bool a1,.bool a2,.bool a3,.bool a4,.bool a5,.bool a6,.bool a7,.bool a8,.bool a9])::(.pointer (af ⟨w.heap.size,0,ae⟩))::(.pointer (af ⟨w.heap.size+1,0,ae⟩))::(.bool false)::u5::u6::u7::u8::u9::jc::jV::lJ::kW::mq::mr::u16::mD::mF::mZ::u20::u21::u22::u23::u24::u25::u26::u27::u28::u29::u30::u31::u32::u33::(.bool (V3))::U::U::U::U::U::U::U::U::U::U::U::U::U::U::U::U::U::U::U::U::U::U::U::U::U::U::U::U::U::U::U::U::U::U::U::U::U::U::U::U::U::U::U::U::U::U::U::U::U::U::U::U::U::U::U::U::U::U::U::U::U::U::U::U::U::U::[]),defers:=[] }/\Hid (Below ((w.alloc (.cells (cs x P) 62)).alloc (.cells #[.bool a1,.bool a2,.bool a3,.bool a4,.bool a5,.bool a6,.bool a7,.bool a8,.bool a9] 165)).heap.size ((w.alloc (.cells (cs x P) 62)).alloc (.cells #[.bool a1,.bool a2,.bool a3,.bool a4,.bool a5,.bool a6,.bool a7,.bool a8,.bool a9] 165)) w'))) ?_ ?_
     · intro Q1 kT;have nU:=hid kT;clear kT
       repeat rw[List.take_succ_cons]
       rw[List.take_zero];have q:=FX.out _ HB2.out;have ca:w2.cell? ⟨w.heap.size+1,2,ae⟩=af (.bool a3):=qL q.2 rfl;have b0:=q.1.c3;have b1:=q.1.c4;have b2:=q.1.c5;have b3:=q.1.c6;clear q
       cases V2 with
       | true=>
        obtain rfl:V3=true:=by simpa using E3.out
        exact ac0
       | false=>
        cases a3 with
        | true=>
         obtain rfl:V3=false:=by simpa using E3.out
         exact ac0
        | false=>
         cases n3 with
         | true=>
          obtain rfl:V3=true:=by simpa using E3.out
          simp only[Bool.not_true] at C3;exact acX
         | false=>
          obtain rfl:V3=false:=by simpa using E3.out
          simp only[Bool.not_false] at C3;exact acX
     · repeat rw[List.drop_succ_cons]
       rw[List.drop_zero];rintro a w3 ⟨u5,u6,u7,u8,u9,jc,jV,lJ,kW,mq,mr,u16,mD,mF,mZ,u20,u21,u22,u23,u24,u25,u26,u27,u28,u29,u30,u31,u32,u33,rfl,HB3⟩;refine BD ((((((((((((0+1)+1)+1)+1)+1)+1)+1)+1)+1)+1)+1)+1) (R:=(fun a w'=>∃u5 u6 u7 u8 u9 jc jV lJ kW mq mr u16 mD mF mZ u20 u21 u22 u23 u24 u25 u26 u27 u28 u29 u30 u31 u32 u33 u34 u35 u36 u37 u38 r_ u40 sj u42 su u44 u45:Value,a={ tmps:=List.toArray ((.agg (cs x P))::(.agg #[.bool a1,.bool a2,.bool a3,.bool a4,.bool a5,.bool a6,.bool a7,.bool a8,.bool a9])::(.pointer (af ⟨w.heap.size,0,ae⟩))::(.pointer (af ⟨w.heap.size+1,0,ae⟩))::(.bool false)::u5::u6::u7::u8::u9::jc::jV::lJ::kW::mq::mr::u16::mD::mF::mZ::u20::u21::u22::u23::u24::u25::u26::u27::u28::u29::u30::u31::u32::u33::u34::u35::u36::u37::u38::r_::u40::sj::u42::su::u44::u45::(.bool (V4))::U::U::U::U::U::U::U::U::U::U::U::U::U::U::U::U::U::U::U::U::U::U::U::U::U::U::U::U::U::U::U::U::U::U::U::U::U::U::U::U::U::U::U::U::U::U::U::U::U::U::U::U::U::U::[]),defers:=[] }/\Hid (Below ((w.alloc (.cells (cs x P) 62)).alloc (.cells #[.bool a1,.bool a2,.bool a3,.bool a4,.bool a5,.bool a6,.bool a7,.bool a8,.bool a9] 165)).heap.size ((w.alloc (.cells (cs x P) 62)).alloc (.cells #[.bool a1,.bool a2,.bool a3,.bool a4,.bool a5,.bool a6,.bool a7,.bool a8,.bool a9] 165)) w'))) ?_ ?_
       · intro Q1 kT;have nU:=hid kT;clear kT
         repeat rw[List.take_succ_cons]
         rw[List.take_zero];have q:=FX.out _ HB3.out;have ca:w3.cell? ⟨w.heap.size+1,3,ae⟩=af (.bool a4):=qL q.2 rfl;have b0:=q.1.c7;have b1:=q.1.c8;have b2:=q.1.c9;have b3:=q.1.c10;clear q
         cases V3 with
         | true=>
          obtain rfl:V4=true:=by simpa using E4.out
          exact acZ
         | false=>
          cases a4 with
          | true=>
           obtain rfl:V4=false:=by simpa using E4.out
           exact acZ
          | false=>
           cases n4 with
           | true=>
            obtain rfl:V4=true:=by simpa using E4.out
            simp only[Bool.not_true] at C4;exact acW
           | false=>
            obtain rfl:V4=false:=by simpa using E4.out
            simp only[Bool.not_false] at C4;exact acW
       · repeat rw[List.drop_succ_cons]
         rw[List.drop_zero];rintro a w4 ⟨u5,u6,u7,u8,u9,jc,jV,lJ,kW,mq,mr,u16,mD,mF,mZ,u20,u21,u22,u23,u24,u25,u26,u27,u28,u29,u30,u31,u32,u33,u34,u35,u36,u37,u38,r_,u40,sj,u42,su,u44,u45,rfl,ig⟩;refine BD (((((((((((0+1)+1)+1)+1)+1)+1)+1)+1)+1)+1)+1) (R:=(fun a w'=>∃u5 u6 u7 u8 u9 jc jV lJ kW mq mr u16 mD mF mZ u20 u21 u22 u23 u24 u25 u26 u27 u28 u29 u30 u31 u32 u33 u34 u35 u36 u37 u38 r_ u40 sj u42 su u44 u45 u46 xM u48 u49 xN u51 xO u53 xP u55 xQ:Value,a={ tmps:=List.toArray ((.agg (cs x P))::(.agg #[.bool a1,.bool a2,.bool a3,.bool a4,.bool a5,.bool a6,.bool a7,.bool a8,.bool a9])::(.pointer (af ⟨w.heap.size,0,ae⟩))::(.pointer (af ⟨w.heap.size+1,0,ae⟩))::(.bool false)::u5::u6::u7::u8::u9::jc::jV::lJ::kW::mq::mr::u16::mD::mF::mZ::u20::u21::u22::u23::u24::u25::u26::u27::u28::u29::u30::u31::u32::u33::u34::u35::u36::u37::u38::r_::u40::sj::u42::su::u44::u45::u46::xM::u48::u49::xN::u51::xO::u53::xP::u55::xQ::(.bool (V5))::U::U::U::U::U::U::U::U::U::U::U::U::U::U::U::U::U::U::U::U::U::U::U::U::U::U::U::U::U::U::U::U::U::U::U::U::U::U::U::U::U::U::U::[]),defers:=[] }/\Hid (Below ((w.alloc (.cells (cs x P) 62)).alloc (.cells #[.bool a1,.bool a2,.bool a3,.bool a4,.bool a5,.bool a6,.bool a7,.bool a8,.bool a9] 165)).heap.size ((w.alloc (.cells (cs x P) 62)).alloc (.cells #[.bool a1,.bool a2,.bool a3,.bool a4,.bool a5,.bool a6,.bool a7,.bool a8,.bool a9] 165)) w'))) ?_ ?_
         · intro Q1 kT;have nU:=hid kT;clear kT
           repeat rw[List.take_succ_cons]
           rw[List.take_zero];have q:=FX.out _ ig.out;have ca:w4.cell? ⟨w.heap.size+1,4,ae⟩=af (.bool a5):=qL q.2 rfl;have b0:=q.1.c11;clear q
           cases V4 with
           | true=>
            obtain rfl:V5=true:=by simpa using E5.out
            exact ND
           | false=>
            cases a5 with
            | true=>
             obtain rfl:V5=false:=by simpa using E5.out
             exact ND
            | false=>
             cases n5 with
             | true=>
              obtain rfl:V5=true:=by simpa using E5.out
              exact ND
             | false=>
              obtain rfl:V5=false:=by simpa using E5.out
              exact ND
         · repeat rw[List.drop_succ_cons]
           rw[List.drop_zero];rintro a w5 ⟨u5,u6,u7,u8,u9,jc,jV,lJ,kW,mq,mr,u16,mD,mF,mZ,u20,u21,u22,u23,u24,u25,u26,u27,u28,u29,u30,u31,u32,u33,u34,u35,u36,u37,u38,r_,u40,sj,u42,su,u44,u45,u46,xM,u48,u49,xN,u51,xO,u53,xP,u55,xQ,rfl,yf⟩;refine BD ((((((((((((0+1)+1)+1)+1)+1)+1)+1)+1)+1)+1)+1)+1) (R:=(fun a w'=>∃u5 u6 u7 u8 u9 jc jV lJ kW mq mr u16 mD mF mZ u20 u21 u22 u23 u24 u25 u26 u27 u28 u29 u30 u31 u32 u33 u34 u35 u36 u37 u38 r_ u40 sj u42 su u44 u45 u46 xM u48 u49 xN u51 xO u53 xP u55 xQ Bv u58 u59 u60 Bw Bz u63 u64 BA u66 BC u68:Value,a={ tmps:=List.toArray ((.agg (cs x P))::(.agg #[.bool a1,.bool a2,.bool a3,.bool a4,.bool a5,.bool a6,.bool a7,.bool a8,.bool a9])::(.pointer (af ⟨w.heap.size,0,ae⟩))::(.pointer (af ⟨w.heap.size+1,0,ae⟩))::(.bool false)::u5::u6::u7::u8::u9::jc::jV::lJ::kW::mq::mr::u16::mD::mF::mZ::u20::u21::u22::u23::u24::u25::u26::u27::u28::u29::u30::u31::u32::u33::u34::u35::u36::u37::u38::r_::u40::sj::u42::su::u44::u45::u46::xM::u48::u49::xN::u51::xO::u53::xP::u55::xQ::Bv::u58::u59::u60::Bw::Bz::u63::u64::BA::u66::BC::u68::(.bool (V6))::U::U::U::U::U::U::U::U::U::U::U::U::U::U::U::U::U::U::U::U::U::U::U::U::U::U::U::U::U::U::U::[]),defers:=[] }/\Hid (Below ((w.alloc (.cells (cs x P) 62)).alloc (.cells #[.bool a1,.bool a2,.bool a3,.bool a4,.bool a5,.bool a6,.bool a7,.bool a8,.bool a9] 165)).heap.size ((w.alloc (.cells (cs x P) 62)).alloc (.cells #[.bool a1,.bool a2,.bool a3,.bool a4,.bool a5,.bool a6,.bool a7,.bool a8,.bool a9] 165)) w'))) ?_ ?_
           · intro Q1 kT;have nU:=hid kT;clear kT
             repeat rw[List.take_succ_cons]
             rw[List.take_zero];have q:=FX.out _ yf.out;have ca:w5.cell? ⟨w.heap.size+1,5,ae⟩=af (.bool a6):=qL q.2 rfl;have b0:=q.1.c12;have b1:=q.1.c13;have b2:=q.1.c14;have b3:=q.1.c15;have b4:=q.1.c16;have b5:=q.1.c17;clear q
             cases V5 with
             | true=>
              obtain rfl:V6=true:=by simpa using E6.out
              exact acY
             | false=>
              cases a6 with
              | true=>
               obtain rfl:V6=false:=by simpa using E6.out
               exact acY
              | false=>
               cases n6 with
               | true=>
                obtain rfl:V6=true:=by simpa using E6.out
                simp only[Bool.not_true] at C6;exact acV
               | false=>
                obtain rfl:V6=false:=by simpa using E6.out
                simp only[Bool.not_false] at C6;exact acV
           · repeat rw[List.drop_succ_cons]
             rw[List.drop_zero];rintro a w6 ⟨u5,u6,u7,u8,u9,jc,jV,lJ,kW,mq,mr,u16,mD,mF,mZ,u20,u21,u22,u23,u24,u25,u26,u27,u28,u29,u30,u31,u32,u33,u34,u35,u36,u37,u38,r_,u40,sj,u42,su,u44,u45,u46,xM,u48,u49,xN,u51,xO,u53,xP,u55,xQ,Bv,u58,u59,u60,Bw,Bz,u63,u64,BA,u66,BC,u68,rfl,U0⟩;refine BD (((((((((0+1)+1)+1)+1)+1)+1)+1)+1)+1) (R:=(fun a w'=>∃u5 u6 u7 u8 u9 jc jV lJ kW mq mr u16 mD mF mZ u20 u21 u22 u23 u24 u25 u26 u27 u28 u29 u30 u31 u32 u33 u34 u35 u36 u37 u38 r_ u40 sj u42 su u44 u45 u46 xM u48 u49 xN u51 xO u53 xP u55 xQ Bv u58 u59 u60 Bw Bz u63 u64 BA u66 BC u68 u69 u70 vO u72 u73 I7 u75 I8 I9:Value,a={ tmps:=List.toArray ((.agg (cs x P))::(.agg #[.bool a1,.bool a2,.bool a3,.bool a4,.bool a5,.bool a6,.bool a7,.bool a8,.bool a9])::(.pointer (af ⟨w.heap.size,0,ae⟩))::(.pointer (af ⟨w.heap.size+1,0,ae⟩))::(.bool false)::u5::u6::u7::u8::u9::jc::jV::lJ::kW::mq::mr::u16::mD::mF::mZ::u20::u21::u22::u23::u24::u25::u26::u27::u28::u29::u30::u31::u32::u33::u34::u35::u36::u37::u38::r_::u40::sj::u42::su::u44::u45::u46::xM::u48::u49::xN::u51::xO::u53::xP::u55::xQ::Bv::u58::u59::u60::Bw::Bz::u63::u64::BA::u66::BC::u68::u69::u70::vO::u72::u73::I7::u75::I8::I9::(.bool (V7))::U::U::U::U::U::U::U::U::U::U::U::U::U::U::U::U::U::U::U::U::U::U::[]),defers:=[] }/\Hid (Below ((w.alloc (.cells (cs x P) 62)).alloc (.cells #[.bool a1,.bool a2,.bool a3,.bool a4,.bool a5,.bool a6,.bool a7,.bool a8,.bool a9] 165)).heap.size ((w.alloc (.cells (cs x P) 62)).alloc (.cells #[.bool a1,.bool a2,.bool a3,.bool a4,.bool a5,.bool a6,.bool a7,.bool a8,.bool a9] 165)) w'))) ?_ ?_
             · intro Q1 kT;have nU:=hid kT;clear kT
               repeat rw[List.take_succ_cons]
               rw[List.take_zero];have q:=FX.out _ U0.out;have ca:w6.cell? ⟨w.heap.size+1,6,ae⟩=af (.bool a7):=qL q.2 rfl;have b0:=q.1.c18;clear q
               cases V6 with
               | true=>
                obtain rfl:V7=true:=by simpa using E7.out
                exact NC
               | false=>
                cases a7 with
                | true=>
                 obtain rfl:V7=false:=by simpa using E7.out
                 exact NC
                | false=>
                 cases n7 with
                 | true=>
                  obtain rfl:V7=true:=by simpa using E7.out
                  rw[N7.out] at b0;exact NC
                 | false=>
                  obtain rfl:V7=false:=by simpa using E7.out
                  rw[N7.out] at b0;exact NC
             · repeat rw[List.drop_succ_cons]
               rw[List.drop_zero];rintro a w7 ⟨u5,u6,u7,u8,u9,jc,jV,lJ,kW,mq,mr,u16,mD,mF,mZ,u20,u21,u22,u23,u24,u25,u26,u27,u28,u29,u30,u31,u32,u33,u34,u35,u36,u37,u38,r_,u40,sj,u42,su,u44,u45,u46,xM,u48,u49,xN,u51,xO,u53,xP,u55,xQ,Bv,u58,u59,u60,Bw,Bz,u63,u64,BA,u66,BC,u68,u69,u70,vO,u72,u73,I7,u75,I8,I9,rfl,Eb⟩;refine BD (((((((((((0+1)+1)+1)+1)+1)+1)+1)+1)+1)+1)+1) (R:=(fun a w'=>∃u5 u6 u7 u8 u9 jc jV lJ kW mq mr u16 mD mF mZ u20 u21 u22 u23 u24 u25 u26 u27 u28 u29 u30 u31 u32 u33 u34 u35 u36 u37 u38 r_ u40 sj u42 su u44 u45 u46 xM u48 u49 xN u51 xO u53 xP u55 xQ Bv u58 u59 u60 Bw Bz u63 u64 BA u66 BC u68 u69 u70 vO u72 u73 I7 u75 I8 I9 u78 u79 u80 u81 u82 u83 u84 u85 u86 u87 u88:Value,a={ tmps:=List.toArray ((.agg (cs x P))::(.agg #[.bool a1,.bool a2,.bool a3,.bool a4,.bool a5,.bool a6,.bool a7,.bool a8,.bool a9])::(.pointer (af ⟨w.heap.size,0,ae⟩))::(.pointer (af ⟨w.heap.size+1,0,ae⟩))::(.bool false)::u5::u6::u7::u8::u9::jc::jV::lJ::kW::mq::mr::u16::mD::mF::mZ::u20::u21::u22::u23::u24::u25::u26::u27::u28::u29::u30::u31::u32::u33::u34::u35::u36::u37::u38::r_::u40::sj::u42::su::u44::u45::u46::xM::u48::u49::xN::u51::xO::u53::xP::u55::xQ::Bv::u58::u59::u60::Bw::Bz::u63::u64::BA::u66::BC::u68::u69::u70::vO::u72::u73::I7::u75::I8::I9::u78::u79::u80::u81::u82::u83::u84::u85::u86::u87::u88::(.bool (V8))::U::U::U::U::U::U::U::U::U::U::U::[]),defers:=[] }/\Hid (Below ((w.alloc (.cells (cs x P) 62)).alloc (.cells #[.bool a1,.bool a2,.bool a3,.bool a4,.bool a5,.bool a6,.bool a7,.bool a8,.bool a9] 165)).heap.size ((w.alloc (.cells (cs x P) 62)).alloc (.cells #[.bool a1,.bool a2,.bool a3,.bool a4,.bool a5,.bool a6,.bool a7,.bool a8,.bool a9] 165)) w'))) ?_ ?_
               · intro Q1 kT;have nU:=hid kT;clear kT
                 repeat rw[List.take_succ_cons]
                 rw[List.take_zero];have q:=FX.out _ Eb.out;have ca:w7.cell? ⟨w.heap.size+1,7,ae⟩=af (.bool a8):=qL q.2 rfl;have b0:=q.1.c19;clear q
                 cases V7 with
                 | true=>
                  obtain rfl:V8=true:=by simpa using E8.out
                  exact NB
                 | false=>
                  cases a8 with
                  | true=>
                   obtain rfl:V8=false:=by simpa using E8.out
                   exact NB
                  | false=>
                   cases n8 with
                   | true=>
                    obtain rfl:V8=true:=by simpa using E8.out
                    exact NB
                   | false=>
                    obtain rfl:V8=false:=by simpa using E8.out
                    exact NB
               · repeat rw[List.drop_succ_cons]
                 rw[List.drop_zero];rintro a w8 ⟨u5,u6,u7,u8,u9,jc,jV,lJ,kW,mq,mr,u16,mD,mF,mZ,u20,u21,u22,u23,u24,u25,u26,u27,u28,u29,u30,u31,u32,u33,u34,u35,u36,u37,u38,r_,u40,sj,u42,su,u44,u45,u46,xM,u48,u49,xN,u51,xO,u53,xP,u55,xQ,Bv,u58,u59,u60,Bw,Bz,u63,u64,BA,u66,BC,u68,u69,u70,vO,u72,u73,I7,u75,I8,I9,u78,u79,u80,u81,u82,u83,u84,u85,u86,u87,u88,rfl,Gi⟩;have q:=FX.out _ Gi.out;have ca:w8.cell? ⟨w.heap.size+1,8,ae⟩=af (.bool a9):=qL q.2 rfl;have b0:=q.1.c20;clear q
                 cases V8 with
                 | true=>
                  obtain rfl:V9=true:=by simpa using E9.out
                  exact NG
                 | false=>
                  cases a9 with
                  | true=>
                   obtain rfl:V9=false:=by simpa using E9.out
                   exact NG
                  | false=>
                   cases n9 with
                   | true=>
                    obtain rfl:V9=true:=by simpa using E9.out
                    exact NG
                   | false=>
                    obtain rfl:V9=false:=by simpa using E9.out
                    exact NG
end Sm
end Go.Proofs.YtkpekhpgdajabaaGreatDoor
