/-
  Parts of this proof: The contract of hasOthers.
-/
import Derived.Test.YthnillhnjhalmaaGreatDoorYPBase
open Go renaming undef->U,World->ag
open Option renaming none->ae,some->af
set_option linter.unusedVariables false
set_option maxHeartbeats 4000000
open Go.Lib (hid)
namespace Go.Proofs.YthnillhnjhalmaaGreatDoor
namespace Sm
open Go.RowKit
open Ex (Gives)
attribute [local go_sem] cs0 cs1 cs2 wo wu wy wB wC wD wE vQ vR vS vT vU vV vW vX vY vZ v_
set_option maxRecDepth 1000000
def PN (R:Act->ag->Prop) (Q:Exit->Act->ag->Prop):Exit->Act->ag->Prop
 | .normal,a,w=>R a w
 | .exit i,a,w=>Q (.exit i) a w
 | .goto l,a,w=>Q (.goto l) a w
 | .ret,a,w=>Q .ret a w
 | .panic c,a,w=>Q (.panic c) a w
 | .outgrown,a,w=>Q .outgrown a w
theorem ap9 {P:Program} {o:Oper} {a:Act} {next:Act->ag->Prop} {R:Act->ag->Prop} {Q:Exit->Act->ag->Prop} {r:Result Next} (h:o.upon P a next (PN R Q) r):o.upon P a next Q r:=by
 cases r with
 | ok n w'=>cases n <;> exact h
 | halt x w'=>cases x <;> exact h
theorem U7 {P:Program} {ops:Array Oper} {Q:Exit->Act->ag->Prop} {R:Act->ag->Prop} {l2:List Oper} (hr:∀a w,R a w->wpList P ops Q l2 a w):∀(l1:List Oper) (a:Act) (w:ag),wpList P ops (PN R Q) l1 a w->wpList P ops Q (l1++l2) a w
 | [],a,w,h=>hr a w h
 | o::l1,a,w,h=>by
  rw[List.cons_append];unfold wpList at h ⊢
  split
  · rename_i hw
    rw[if_pos hw] at h;rcases h with h|h
    · exact .inl (Oper.wp_mono (U7 hr l1) (ap9 h))
    · exact .inr ⟨h.1,h.2⟩
  · rename_i hw
    rw[if_neg hw] at h;exact U7 hr l1 _ _ h
theorem Cv {P:Program} {ops:Array Oper} {Q:Exit->Act->ag->Prop} {R:Act->ag->Prop} {L:List Oper} {a:Act} {w:ag} (n:Nat) (h:∀Q':Exit->Act->ag->Prop,(∀a w,R a w->Q' .normal a w)->wpList P ops Q' (L.take n) a w) (hr:∀a w,R a w->wpList P ops Q (L.drop n) a w):wpList P ops Q L a w:=by
 have:=U7 hr (L.take n) a w (h (PN R Q) fun _ _ h=>h);rwa [List.take_append_drop] at this
theorem amB {w:ag} (x:St) (P:Pl) (c:Array Value):Hid (∀W,Below ((w.alloc (.cells (cs x P) 58)).alloc (.cells c 158)).heap.size ((w.alloc (.cells (cs x P) 58)).alloc (.cells c 158)) W->dG W w.heap.size x P/\W.heap[w.heap.size+1]?=af (.cells c 158 (0,0))):=hid fun W hb=>by
 have h1:dG (w.alloc (.cells (cs x P) 58)) w.heap.size x P:=Ak;have h2:=World.alloc_heap_new (w.alloc (.cells (cs x P) 58)) (.cells c 158);have e:(w.alloc (.cells (cs x P) 58)).heap.size=w.heap.size+1:=by simp
 rw[e] at h2;exact⟨(h1.on bl).on hb,(hb.block _ cz).trans h2⟩
theorem rE {W:ag} {g i:Nat} {c:Array Value} {t:TypeId} {fr:Nat×Nat} (h:W.heap[g]?=af (.cells c t fr)) {v:Value} (hv:c[i]?=af v):W.cell? ⟨g,i,ae⟩=af v:=(cell_of_row W g i _ _ _ h).trans hv
theorem Pf {p:Prop} (h:p:=by
 go_wp2_with fail;exact ow.out _ _ ⟨_,_,_,_,_,_,_,_,_,_,_,_,_,_,_,_,_,_,_,_,_,_,_,_,_,_,_,_,_,_,_,_,_,_,_,_,_,_,_,_,_,_,_,_,_,_,_,_,_,_,_,_,_,_,_,_,_,_,_,_,_,_,_,_,_,_,_,_,_,_,_,_,_,_,_,_,_,_,_,_,_,_,_,_,rfl,hid EY.out⟩
 ):p:=h
theorem Pg {p:Prop} (h:p:=by
 go_wp2_with fail;exact ow.out _ _ ⟨_,_,_,_,_,_,_,_,_,_,_,_,_,_,_,_,_,_,_,_,_,_,_,_,_,_,_,_,_,_,_,_,_,_,_,_,_,_,_,_,_,_,_,_,_,_,_,_,_,_,_,_,_,_,_,_,_,_,_,_,_,_,_,_,_,_,_,_,_,_,_,_,_,rfl,hid WJ.out⟩
 ):p:=h
theorem Ph {p:Prop} (h:p:=by
 go_wp2_with fail;exact ow.out _ _ ⟨_,_,_,_,_,_,_,_,_,_,_,_,_,_,_,_,_,_,_,_,_,_,_,_,_,_,_,_,_,_,_,_,_,_,_,_,_,_,_,_,_,_,_,_,_,_,_,_,_,_,_,_,rfl,hid iH.out⟩
 ):p:=h
theorem aeF {p:Prop} (h:p:=by
 go_wp2_with fail;refine(C6.out _ (by have bZ:=y8.out;exact bl)).mono ?_;rintro e wz ⟨rfl,hbz⟩;go_wp2_with fail;exact ow.out _ _ ⟨_,_,_,_,_,_,_,_,_,_,_,_,_,_,_,_,_,_,_,_,_,_,_,_,_,_,_,_,_,_,_,_,_,_,_,_,_,_,_,_,_,_,_,_,_,_,_,_,_,_,_,_,_,_,_,_,_,_,_,_,_,_,_,_,rfl,hid (by have bZ:=y8.out;exact bl)⟩
 ):p:=h
theorem aeG {p:Prop} (h:p:=by
 go_wp2_with fail;refine(C4.out _ (by have bZ:=HB3.out;exact bl)).mono ?_;rintro e wz ⟨rfl,hbz⟩;go_wp2_with fail;exact ow.out _ _ ⟨_,_,_,_,_,_,_,_,_,_,_,_,_,_,_,_,_,_,_,_,_,_,_,_,_,_,_,_,_,_,_,_,_,_,_,_,_,_,_,_,_,rfl,hid (by have bZ:=HB3.out;exact bl)⟩
 ):p:=h
theorem Pj {p:Prop} (h:p:=by
 go_wp2_with fail;exact ow.out _ _ ⟨_,_,_,_,_,_,_,_,_,_,_,_,_,_,_,_,_,rfl,hid HB1.out⟩
 ):p:=h
theorem aeH {p:Prop} (h:p:=by
 go_wp2_with fail;refine(C3.out _ (by have bZ:=HB2.out;exact bl)).mono ?_;rintro e wz ⟨rfl,hbz⟩;go_wp2_with fail;exact ow.out _ _ ⟨_,_,_,_,_,_,_,_,_,_,_,_,_,_,_,_,_,_,_,_,_,_,_,_,_,_,_,_,_,rfl,hid (by have bZ:=HB2.out;exact bl)⟩
 ):p:=h
theorem aeI {p:Prop} (h:p:=by
 go_wp2_with fail;exact ow.out _ _ ⟨_,_,_,_,_,_,_,_,_,_,_,_,_,_,_,_,_,_,_,_,_,_,_,_,_,_,_,_,_,_,_,_,_,_,_,_,_,_,_,_,_,_,_,_,_,_,_,_,_,_,_,_,_,_,_,_,_,_,_,_,_,_,_,_,rfl,hid y8.out⟩
 ):p:=h
theorem Pk {p:Prop} (h:p:=by
 go_wp2_with fail;go_ret;exact⟨rfl,by have bZ:=Hz.out;exact bl⟩
 ):p:=h
theorem aeJ {p:Prop} (h:p:=by
 go_wp2_with fail;exact ow.out _ _ ⟨_,_,_,_,_,_,_,_,_,_,_,_,_,_,_,_,_,_,_,_,_,_,_,_,_,_,_,_,_,_,_,_,_,_,_,_,_,_,_,_,_,rfl,hid HB3.out⟩
 ):p:=h
theorem VH {p:Prop} (h:p:=by
 go_wp2_with fail;exact ow.out _ _ ⟨_,_,_,_,_,_,_,rfl,hid (Below.refl _ _)⟩
 ):p:=h
theorem aeK {p:Prop} (h:p:=by
 go_wp2_with fail;exact ow.out _ _ ⟨_,_,_,_,_,_,_,_,_,_,_,_,_,_,_,_,_,_,_,_,_,_,_,_,_,_,_,_,_,rfl,hid HB2.out⟩
 ):p:=h
set_option maxRecDepth 100000 in
theorem amE (x:St) (P:Pl) (w:ag) (a1 a2 a3 a4 a5 a6 a7 a8 a9 n1 n2 n3 n4 n5 n6 n7 n8 n9 V1 V2 V3 V4 V5 V6 V7 V8 V9:Bool)
 (C3:Hid (∀W,Below w.heap.size w W->Calls Tryz.prog 167 #[.agg #[.int .i64 x.e.o,.string x.e.s,.int .i64 x.e.n,.slice P.ep P.em P.ec],.agg #[.int .i64 0,.string ⟨#[]⟩,.int .i64 0,.slice ae 0 0]] W (Gives (.bool (!n3)) W)))
 (C4:Hid (∀W,Below w.heap.size w W->Calls Tryz.prog 167 #[.agg #[.int .i64 x.g.o,.string x.g.s,.int .i64 x.g.n,.slice P.gp P.gm P.gc],.agg #[.int .i64 0,.string ⟨#[]⟩,.int .i64 0,.slice ae 0 0]] W (Gives (.bool (!n4)) W)))
 (C6:Hid (∀W,Below w.heap.size w W->Calls Tryz.prog 168 #[.agg #[.int .i64 x.di.op,.int .i64 x.di.a,.int .i64 x.di.b,.int .i64 x.di.n,.slice P.vp P.vm P.vc,.slice P.wp P.wm P.wc],.agg #[.int .i64 0,.int .i64 0,.int .i64 0,.int .i64 0,.slice ae 0 0,.slice ae 0 0]] W (Gives (.bool (!n6)) W)))
 (N1:x.nm.toList.isEmpty = !n1) (N2:x.f.toList.isEmpty = !n2) (N5:decide ((0:Int)<(P.am:Int))=n5) (N5i:decide (0<P.am)=n5) (N7:x.fl=n7) (N8:decide ((0:Int)<(P.bm:Int))=n8) (N8i:decide (0<P.bm)=n8) (N9:decide ((0:Int)<(P.lm:Int))=n9) (N9i:decide (0<P.lm)=n9)
 (E1:V1=(!a1&&n1)) (E2:V2=(V1||(!a2&&n2))) (E3:V3=(V2||(!a3&&n3))) (E4:V4=(V3||(!a4&&n4))) (E5:V5=(V4||(!a5&&n5))) (E6:V6=(V5||(!a6&&n6))) (E7:V7=(V6||(!a7&&n7))) (E8:V8=(V7||(!a8&&n8))) (E9:V9=(V8||(!a9&&n9))) :
 Calls Tryz.prog 107 #[.agg (cs x P),.agg #[.bool a1,.bool a2,.bool a3,.bool a4,.bool a5,.bool a6,.bool a7,.bool a8,.bool a9]] w (Gives (.bool V9) w):=by
 have FX:=amB (w:=w) x P #[.bool a1,.bool a2,.bool a3,.bool a4,.bool a5,.bool a6,.bool a7,.bool a8,.bool a9];replace N7:=hid N7;replace E1:=hid E1;replace E2:=hid E2;replace E3:=hid E3;replace E4:=hid E4;replace E5:=hid E5;replace E6:=hid E6;replace E7:=hid E7;replace E8:=hid E8;replace E9:=hid E9;go_enter Tryz.func107,Tryz.ntmps107
 go_upto_region 1 with fail
 apply wp_region_lit
 simp only[List.append_eq,List.cons_append,List.nil_append];refine Cv ((((((((0+1)+1)+1)+1)+1)+1)+1)+1) (R:=(fun a w'=>∃u5 u6 u7 u8 u9 jy kC:Value,a={ tmps:=List.toArray ((.agg (cs x P))::(.agg #[.bool a1,.bool a2,.bool a3,.bool a4,.bool a5,.bool a6,.bool a7,.bool a8,.bool a9])::(.pointer (af ⟨w.heap.size,0,ae⟩))::(.pointer (af ⟨w.heap.size+1,0,ae⟩))::(.bool false)::u5::u6::u7::u8::u9::jy::kC::(.bool (V1))::U::U::U::U::U::U::U::U::U::U::U::U::U::U::U::U::U::U::U::U::U::U::U::U::U::U::U::U::U::U::U::U::U::U::U::U::U::U::U::U::U::U::U::U::U::U::U::U::U::U::U::U::U::U::U::U::U::U::U::U::U::U::U::U::U::U::U::U::U::U::U::U::U::U::U::U::U::U::U::U::U::U::U::U::U::U::U::U::[]),defers:=[] }/\Hid (Below ((w.alloc (.cells (cs x P) 58)).alloc (.cells #[.bool a1,.bool a2,.bool a3,.bool a4,.bool a5,.bool a6,.bool a7,.bool a8,.bool a9] 158)).heap.size ((w.alloc (.cells (cs x P) 58)).alloc (.cells #[.bool a1,.bool a2,.bool a3,.bool a4,.bool a5,.bool a6,.bool a7,.bool a8,.bool a9] 158)) w'))) ?_ ?_
 · intro Q1 lG;have ow:=hid lG;clear lG
   repeat rw[List.take_succ_cons]
   rw[List.take_zero];have q:=FX.out _ (Below.refl _ _);have ca:((w.alloc (.cells (cs x P) 58)).alloc (.cells #[.bool a1,.bool a2,.bool a3,.bool a4,.bool a5,.bool a6,.bool a7,.bool a8,.bool a9] 158)).cell? ⟨w.heap.size+1,0,ae⟩=af (.bool a1):=rE q.2 rfl;have b0:=q.1.c1;clear q
   cases a1 with
   | true=>
    obtain rfl:V1=false:=by simpa using E1.out
    exact VH
   | false=>
    cases n1 with
    | true=>
     obtain rfl:V1=true:=by simpa using E1.out
     simp only[Bool.not_true] at N1;exact VH
    | false=>
     obtain rfl:V1=false:=by simpa using E1.out
     simp only[Bool.not_false] at N1;exact VH
 · repeat rw[List.drop_succ_cons]
   rw[List.drop_zero];rintro a w1 ⟨u5,u6,u7,u8,u9,jy,kC,rfl,HB1⟩;refine Cv ((((((((((0+1)+1)+1)+1)+1)+1)+1)+1)+1)+1) (R:=(fun a w'=>∃u5 u6 u7 u8 u9 jy kC l_ lK mU mV u16 mW mX nG u20 u21:Value,a={ tmps:=List.toArray ((.agg (cs x P))::(.agg #[.bool a1,.bool a2,.bool a3,.bool a4,.bool a5,.bool a6,.bool a7,.bool a8,.bool a9])::(.pointer (af ⟨w.heap.size,0,ae⟩))::(.pointer (af ⟨w.heap.size+1,0,ae⟩))::(.bool false)::u5::u6::u7::u8::u9::jy::kC::l_::lK::mU::mV::u16::mW::mX::nG::u20::u21::(.bool (V2))::U::U::U::U::U::U::U::U::U::U::U::U::U::U::U::U::U::U::U::U::U::U::U::U::U::U::U::U::U::U::U::U::U::U::U::U::U::U::U::U::U::U::U::U::U::U::U::U::U::U::U::U::U::U::U::U::U::U::U::U::U::U::U::U::U::U::U::U::U::U::U::U::U::U::U::U::U::U::[]),defers:=[] }/\Hid (Below ((w.alloc (.cells (cs x P) 58)).alloc (.cells #[.bool a1,.bool a2,.bool a3,.bool a4,.bool a5,.bool a6,.bool a7,.bool a8,.bool a9] 158)).heap.size ((w.alloc (.cells (cs x P) 58)).alloc (.cells #[.bool a1,.bool a2,.bool a3,.bool a4,.bool a5,.bool a6,.bool a7,.bool a8,.bool a9] 158)) w'))) ?_ ?_
   · intro Q1 lG;have ow:=hid lG;clear lG
     repeat rw[List.take_succ_cons]
     rw[List.take_zero];have q:=FX.out _ HB1.out;have ca:w1.cell? ⟨w.heap.size+1,1,ae⟩=af (.bool a2):=rE q.2 rfl;have b0:=q.1.c2;clear q
     cases V1 with
     | true=>
      obtain rfl:V2=true:=by simpa using E2.out
      exact Pj
     | false=>
      cases a2 with
      | true=>
       obtain rfl:V2=false:=by simpa using E2.out
       exact Pj
      | false=>
       cases n2 with
       | true=>
        obtain rfl:V2=true:=by simpa using E2.out
        simp only[Bool.not_true] at N2;exact Pj
       | false=>
        obtain rfl:V2=false:=by simpa using E2.out
        simp only[Bool.not_false] at N2;exact Pj
   · repeat rw[List.drop_succ_cons]
     rw[List.drop_zero];rintro a w2 ⟨u5,u6,u7,u8,u9,jy,kC,l_,lK,mU,mV,u16,mW,mX,nG,u20,u21,rfl,HB2⟩;refine Cv ((((((((((((0+1)+1)+1)+1)+1)+1)+1)+1)+1)+1)+1)+1) (R:=(fun a w'=>∃u5 u6 u7 u8 u9 jy kC l_ lK mU mV u16 mW mX nG u20 u21 u22 u23 u24 u25 u26 u27 u28 u29 u30 u31 u32 u33:Value,a={ tmps:=List.toArray ((.agg (cs x P))::(.agg #[.bool a1,.bool a2,.bool a3,.bool a4,.bool a5,.bool a6,.bool a7,.bool a8,.bool a9])::(.pointer (af ⟨w.heap.size,0,ae⟩))::(.pointer (af ⟨w.heap.size+1,0,ae⟩))::(.bool false)::u5::u6::u7::u8::u9::jy::kC::l_::lK::mU::mV::u16::mW::mX::nG::u20::u21::u22::u23::u24::u25::u26::u27::u28::u29::u30::u31::u32::u33::(.bool (V3))::U::U::U::U::U::U::U::U::U::U::U::U::U::U::U::U::U::U::U::U::U::U::U::U::U::U::U::U::U::U::U::U::U::U::U::U::U::U::U::U::U::U::U::U::U::U::U::U::U::U::U::U::U::U::U::U::U::U::U::U::U::U::U::U::U::U::[]),defers:=[] }/\Hid (Below ((w.alloc (.cells (cs x P) 58)).alloc (.cells #[.bool a1,.bool a2,.bool a3,.bool a4,.bool a5,.bool a6,.bool a7,.bool a8,.bool a9] 158)).heap.size ((w.alloc (.cells (cs x P) 58)).alloc (.cells #[.bool a1,.bool a2,.bool a3,.bool a4,.bool a5,.bool a6,.bool a7,.bool a8,.bool a9] 158)) w'))) ?_ ?_
     · intro Q1 lG;have ow:=hid lG;clear lG
       repeat rw[List.take_succ_cons]
       rw[List.take_zero];have q:=FX.out _ HB2.out;have ca:w2.cell? ⟨w.heap.size+1,2,ae⟩=af (.bool a3):=rE q.2 rfl;have b0:=q.1.c3;have b1:=q.1.c4;have b2:=q.1.c5;have b3:=q.1.c6;clear q
       cases V2 with
       | true=>
        obtain rfl:V3=true:=by simpa using E3.out
        exact aeK
       | false=>
        cases a3 with
        | true=>
         obtain rfl:V3=false:=by simpa using E3.out
         exact aeK
        | false=>
         cases n3 with
         | true=>
          obtain rfl:V3=true:=by simpa using E3.out
          simp only[Bool.not_true] at C3;exact aeH
         | false=>
          obtain rfl:V3=false:=by simpa using E3.out
          simp only[Bool.not_false] at C3;exact aeH
     · repeat rw[List.drop_succ_cons]
       rw[List.drop_zero];rintro a w3 ⟨u5,u6,u7,u8,u9,jy,kC,l_,lK,mU,mV,u16,mW,mX,nG,u20,u21,u22,u23,u24,u25,u26,u27,u28,u29,u30,u31,u32,u33,rfl,HB3⟩;refine Cv ((((((((((((0+1)+1)+1)+1)+1)+1)+1)+1)+1)+1)+1)+1) (R:=(fun a w'=>∃u5 u6 u7 u8 u9 jy kC l_ lK mU mV u16 mW mX nG u20 u21 u22 u23 u24 u25 u26 u27 u28 u29 u30 u31 u32 u33 u34 u35 u36 u37 u38 tT u40 tV u42 tX u44 u45:Value,a={ tmps:=List.toArray ((.agg (cs x P))::(.agg #[.bool a1,.bool a2,.bool a3,.bool a4,.bool a5,.bool a6,.bool a7,.bool a8,.bool a9])::(.pointer (af ⟨w.heap.size,0,ae⟩))::(.pointer (af ⟨w.heap.size+1,0,ae⟩))::(.bool false)::u5::u6::u7::u8::u9::jy::kC::l_::lK::mU::mV::u16::mW::mX::nG::u20::u21::u22::u23::u24::u25::u26::u27::u28::u29::u30::u31::u32::u33::u34::u35::u36::u37::u38::tT::u40::tV::u42::tX::u44::u45::(.bool (V4))::U::U::U::U::U::U::U::U::U::U::U::U::U::U::U::U::U::U::U::U::U::U::U::U::U::U::U::U::U::U::U::U::U::U::U::U::U::U::U::U::U::U::U::U::U::U::U::U::U::U::U::U::U::U::[]),defers:=[] }/\Hid (Below ((w.alloc (.cells (cs x P) 58)).alloc (.cells #[.bool a1,.bool a2,.bool a3,.bool a4,.bool a5,.bool a6,.bool a7,.bool a8,.bool a9] 158)).heap.size ((w.alloc (.cells (cs x P) 58)).alloc (.cells #[.bool a1,.bool a2,.bool a3,.bool a4,.bool a5,.bool a6,.bool a7,.bool a8,.bool a9] 158)) w'))) ?_ ?_
       · intro Q1 lG;have ow:=hid lG;clear lG
         repeat rw[List.take_succ_cons]
         rw[List.take_zero];have q:=FX.out _ HB3.out;have ca:w3.cell? ⟨w.heap.size+1,3,ae⟩=af (.bool a4):=rE q.2 rfl;have b0:=q.1.c7;have b1:=q.1.c8;have b2:=q.1.c9;have b3:=q.1.c10;clear q
         cases V3 with
         | true=>
          obtain rfl:V4=true:=by simpa using E4.out
          exact aeJ
         | false=>
          cases a4 with
          | true=>
           obtain rfl:V4=false:=by simpa using E4.out
           exact aeJ
          | false=>
           cases n4 with
           | true=>
            obtain rfl:V4=true:=by simpa using E4.out
            simp only[Bool.not_true] at C4;exact aeG
           | false=>
            obtain rfl:V4=false:=by simpa using E4.out
            simp only[Bool.not_false] at C4;exact aeG
       · repeat rw[List.drop_succ_cons]
         rw[List.drop_zero];rintro a w4 ⟨u5,u6,u7,u8,u9,jy,kC,l_,lK,mU,mV,u16,mW,mX,nG,u20,u21,u22,u23,u24,u25,u26,u27,u28,u29,u30,u31,u32,u33,u34,u35,u36,u37,u38,tT,u40,tV,u42,tX,u44,u45,rfl,iH⟩;refine Cv (((((((((((0+1)+1)+1)+1)+1)+1)+1)+1)+1)+1)+1) (R:=(fun a w'=>∃u5 u6 u7 u8 u9 jy kC l_ lK mU mV u16 mW mX nG u20 u21 u22 u23 u24 u25 u26 u27 u28 u29 u30 u31 u32 u33 u34 u35 u36 u37 u38 tT u40 tV u42 tX u44 u45 u46 yF u48 u49 yG u51 yH u53 yI u55 yJ:Value,a={ tmps:=List.toArray ((.agg (cs x P))::(.agg #[.bool a1,.bool a2,.bool a3,.bool a4,.bool a5,.bool a6,.bool a7,.bool a8,.bool a9])::(.pointer (af ⟨w.heap.size,0,ae⟩))::(.pointer (af ⟨w.heap.size+1,0,ae⟩))::(.bool false)::u5::u6::u7::u8::u9::jy::kC::l_::lK::mU::mV::u16::mW::mX::nG::u20::u21::u22::u23::u24::u25::u26::u27::u28::u29::u30::u31::u32::u33::u34::u35::u36::u37::u38::tT::u40::tV::u42::tX::u44::u45::u46::yF::u48::u49::yG::u51::yH::u53::yI::u55::yJ::(.bool (V5))::U::U::U::U::U::U::U::U::U::U::U::U::U::U::U::U::U::U::U::U::U::U::U::U::U::U::U::U::U::U::U::U::U::U::U::U::U::U::U::U::U::U::U::[]),defers:=[] }/\Hid (Below ((w.alloc (.cells (cs x P) 58)).alloc (.cells #[.bool a1,.bool a2,.bool a3,.bool a4,.bool a5,.bool a6,.bool a7,.bool a8,.bool a9] 158)).heap.size ((w.alloc (.cells (cs x P) 58)).alloc (.cells #[.bool a1,.bool a2,.bool a3,.bool a4,.bool a5,.bool a6,.bool a7,.bool a8,.bool a9] 158)) w'))) ?_ ?_
         · intro Q1 lG;have ow:=hid lG;clear lG
           repeat rw[List.take_succ_cons]
           rw[List.take_zero];have q:=FX.out _ iH.out;have ca:w4.cell? ⟨w.heap.size+1,4,ae⟩=af (.bool a5):=rE q.2 rfl;have b0:=q.1.c11;clear q
           cases V4 with
           | true=>
            obtain rfl:V5=true:=by simpa using E5.out
            exact Ph
           | false=>
            cases a5 with
            | true=>
             obtain rfl:V5=false:=by simpa using E5.out
             exact Ph
            | false=>
             cases n5 with
             | true=>
              obtain rfl:V5=true:=by simpa using E5.out
              exact Ph
             | false=>
              obtain rfl:V5=false:=by simpa using E5.out
              exact Ph
         · repeat rw[List.drop_succ_cons]
           rw[List.drop_zero];rintro a w5 ⟨u5,u6,u7,u8,u9,jy,kC,l_,lK,mU,mV,u16,mW,mX,nG,u20,u21,u22,u23,u24,u25,u26,u27,u28,u29,u30,u31,u32,u33,u34,u35,u36,u37,u38,tT,u40,tV,u42,tX,u44,u45,u46,yF,u48,u49,yG,u51,yH,u53,yI,u55,yJ,rfl,y8⟩;refine Cv ((((((((((((0+1)+1)+1)+1)+1)+1)+1)+1)+1)+1)+1)+1) (R:=(fun a w'=>∃u5 u6 u7 u8 u9 jy kC l_ lK mU mV u16 mW mX nG u20 u21 u22 u23 u24 u25 u26 u27 u28 u29 u30 u31 u32 u33 u34 u35 u36 u37 u38 tT u40 tV u42 tX u44 u45 u46 yF u48 u49 yG u51 yH u53 yI u55 yJ Co u58 u59 u60 Cq Cr u63 u64 Cs u66 Ct u68:Value,a={ tmps:=List.toArray ((.agg (cs x P))::(.agg #[.bool a1,.bool a2,.bool a3,.bool a4,.bool a5,.bool a6,.bool a7,.bool a8,.bool a9])::(.pointer (af ⟨w.heap.size,0,ae⟩))::(.pointer (af ⟨w.heap.size+1,0,ae⟩))::(.bool false)::u5::u6::u7::u8::u9::jy::kC::l_::lK::mU::mV::u16::mW::mX::nG::u20::u21::u22::u23::u24::u25::u26::u27::u28::u29::u30::u31::u32::u33::u34::u35::u36::u37::u38::tT::u40::tV::u42::tX::u44::u45::u46::yF::u48::u49::yG::u51::yH::u53::yI::u55::yJ::Co::u58::u59::u60::Cq::Cr::u63::u64::Cs::u66::Ct::u68::(.bool (V6))::U::U::U::U::U::U::U::U::U::U::U::U::U::U::U::U::U::U::U::U::U::U::U::U::U::U::U::U::U::U::U::[]),defers:=[] }/\Hid (Below ((w.alloc (.cells (cs x P) 58)).alloc (.cells #[.bool a1,.bool a2,.bool a3,.bool a4,.bool a5,.bool a6,.bool a7,.bool a8,.bool a9] 158)).heap.size ((w.alloc (.cells (cs x P) 58)).alloc (.cells #[.bool a1,.bool a2,.bool a3,.bool a4,.bool a5,.bool a6,.bool a7,.bool a8,.bool a9] 158)) w'))) ?_ ?_
           · intro Q1 lG;have ow:=hid lG;clear lG
             repeat rw[List.take_succ_cons]
             rw[List.take_zero];have q:=FX.out _ y8.out;have ca:w5.cell? ⟨w.heap.size+1,5,ae⟩=af (.bool a6):=rE q.2 rfl;have b0:=q.1.c12;have b1:=q.1.c13;have b2:=q.1.c14;have b3:=q.1.c15;have b4:=q.1.c16;have b5:=q.1.c17;clear q
             cases V5 with
             | true=>
              obtain rfl:V6=true:=by simpa using E6.out
              exact aeI
             | false=>
              cases a6 with
              | true=>
               obtain rfl:V6=false:=by simpa using E6.out
               exact aeI
              | false=>
               cases n6 with
               | true=>
                obtain rfl:V6=true:=by simpa using E6.out
                simp only[Bool.not_true] at C6;exact aeF
               | false=>
                obtain rfl:V6=false:=by simpa using E6.out
                simp only[Bool.not_false] at C6;exact aeF
           · repeat rw[List.drop_succ_cons]
             rw[List.drop_zero];rintro a w6 ⟨u5,u6,u7,u8,u9,jy,kC,l_,lK,mU,mV,u16,mW,mX,nG,u20,u21,u22,u23,u24,u25,u26,u27,u28,u29,u30,u31,u32,u33,u34,u35,u36,u37,u38,tT,u40,tV,u42,tX,u44,u45,u46,yF,u48,u49,yG,u51,yH,u53,yI,u55,yJ,Co,u58,u59,u60,Cq,Cr,u63,u64,Cs,u66,Ct,u68,rfl,WJ⟩;refine Cv (((((((((0+1)+1)+1)+1)+1)+1)+1)+1)+1) (R:=(fun a w'=>∃u5 u6 u7 u8 u9 jy kC l_ lK mU mV u16 mW mX nG u20 u21 u22 u23 u24 u25 u26 u27 u28 u29 u30 u31 u32 u33 u34 u35 u36 u37 u38 tT u40 tV u42 tX u44 u45 u46 yF u48 u49 yG u51 yH u53 yI u55 yJ Co u58 u59 u60 Cq Cr u63 u64 Cs u66 Ct u68 u69 u70 wU u72 u73 Kn u75 Ko Kq:Value,a={ tmps:=List.toArray ((.agg (cs x P))::(.agg #[.bool a1,.bool a2,.bool a3,.bool a4,.bool a5,.bool a6,.bool a7,.bool a8,.bool a9])::(.pointer (af ⟨w.heap.size,0,ae⟩))::(.pointer (af ⟨w.heap.size+1,0,ae⟩))::(.bool false)::u5::u6::u7::u8::u9::jy::kC::l_::lK::mU::mV::u16::mW::mX::nG::u20::u21::u22::u23::u24::u25::u26::u27::u28::u29::u30::u31::u32::u33::u34::u35::u36::u37::u38::tT::u40::tV::u42::tX::u44::u45::u46::yF::u48::u49::yG::u51::yH::u53::yI::u55::yJ::Co::u58::u59::u60::Cq::Cr::u63::u64::Cs::u66::Ct::u68::u69::u70::wU::u72::u73::Kn::u75::Ko::Kq::(.bool (V7))::U::U::U::U::U::U::U::U::U::U::U::U::U::U::U::U::U::U::U::U::U::U::[]),defers:=[] }/\Hid (Below ((w.alloc (.cells (cs x P) 58)).alloc (.cells #[.bool a1,.bool a2,.bool a3,.bool a4,.bool a5,.bool a6,.bool a7,.bool a8,.bool a9] 158)).heap.size ((w.alloc (.cells (cs x P) 58)).alloc (.cells #[.bool a1,.bool a2,.bool a3,.bool a4,.bool a5,.bool a6,.bool a7,.bool a8,.bool a9] 158)) w'))) ?_ ?_
             · intro Q1 lG;have ow:=hid lG;clear lG
               repeat rw[List.take_succ_cons]
               rw[List.take_zero];have q:=FX.out _ WJ.out;have ca:w6.cell? ⟨w.heap.size+1,6,ae⟩=af (.bool a7):=rE q.2 rfl;have b0:=q.1.c18;clear q
               cases V6 with
               | true=>
                obtain rfl:V7=true:=by simpa using E7.out
                exact Pg
               | false=>
                cases a7 with
                | true=>
                 obtain rfl:V7=false:=by simpa using E7.out
                 exact Pg
                | false=>
                 cases n7 with
                 | true=>
                  obtain rfl:V7=true:=by simpa using E7.out
                  rw[N7.out] at b0;exact Pg
                 | false=>
                  obtain rfl:V7=false:=by simpa using E7.out
                  rw[N7.out] at b0;exact Pg
             · repeat rw[List.drop_succ_cons]
               rw[List.drop_zero];rintro a w7 ⟨u5,u6,u7,u8,u9,jy,kC,l_,lK,mU,mV,u16,mW,mX,nG,u20,u21,u22,u23,u24,u25,u26,u27,u28,u29,u30,u31,u32,u33,u34,u35,u36,u37,u38,tT,u40,tV,u42,tX,u44,u45,u46,yF,u48,u49,yG,u51,yH,u53,yI,u55,yJ,Co,u58,u59,u60,Cq,Cr,u63,u64,Cs,u66,Ct,u68,u69,u70,wU,u72,u73,Kn,u75,Ko,Kq,rfl,EY⟩;refine Cv (((((((((((0+1)+1)+1)+1)+1)+1)+1)+1)+1)+1)+1) (R:=(fun a w'=>∃u5 u6 u7 u8 u9 jy kC l_ lK mU mV u16 mW mX nG u20 u21 u22 u23 u24 u25 u26 u27 u28 u29 u30 u31 u32 u33 u34 u35 u36 u37 u38 tT u40 tV u42 tX u44 u45 u46 yF u48 u49 yG u51 yH u53 yI u55 yJ Co u58 u59 u60 Cq Cr u63 u64 Cs u66 Ct u68 u69 u70 wU u72 u73 Kn u75 Ko Kq u78 u79 u80 u81 u82 u83 u84 u85 u86 u87 u88:Value,a={ tmps:=List.toArray ((.agg (cs x P))::(.agg #[.bool a1,.bool a2,.bool a3,.bool a4,.bool a5,.bool a6,.bool a7,.bool a8,.bool a9])::(.pointer (af ⟨w.heap.size,0,ae⟩))::(.pointer (af ⟨w.heap.size+1,0,ae⟩))::(.bool false)::u5::u6::u7::u8::u9::jy::kC::l_::lK::mU::mV::u16::mW::mX::nG::u20::u21::u22::u23::u24::u25::u26::u27::u28::u29::u30::u31::u32::u33::u34::u35::u36::u37::u38::tT::u40::tV::u42::tX::u44::u45::u46::yF::u48::u49::yG::u51::yH::u53::yI::u55::yJ::Co::u58::u59::u60::Cq::Cr::u63::u64::Cs::u66::Ct::u68::u69::u70::wU::u72::u73::Kn::u75::Ko::Kq::u78::u79::u80::u81::u82::u83::u84::u85::u86::u87::u88::(.bool (V8))::U::U::U::U::U::U::U::U::U::U::U::[]),defers:=[] }/\Hid (Below ((w.alloc (.cells (cs x P) 58)).alloc (.cells #[.bool a1,.bool a2,.bool a3,.bool a4,.bool a5,.bool a6,.bool a7,.bool a8,.bool a9] 158)).heap.size ((w.alloc (.cells (cs x P) 58)).alloc (.cells #[.bool a1,.bool a2,.bool a3,.bool a4,.bool a5,.bool a6,.bool a7,.bool a8,.bool a9] 158)) w'))) ?_ ?_
               · intro Q1 lG;have ow:=hid lG;clear lG
                 repeat rw[List.take_succ_cons]
                 rw[List.take_zero];have q:=FX.out _ EY.out;have ca:w7.cell? ⟨w.heap.size+1,7,ae⟩=af (.bool a8):=rE q.2 rfl;have b0:=q.1.c19;clear q
                 cases V7 with
                 | true=>
                  obtain rfl:V8=true:=by simpa using E8.out
                  exact Pf
                 | false=>
                  cases a8 with
                  | true=>
                   obtain rfl:V8=false:=by simpa using E8.out
                   exact Pf
                  | false=>
                   cases n8 with
                   | true=>
                    obtain rfl:V8=true:=by simpa using E8.out
                    exact Pf
                   | false=>
                    obtain rfl:V8=false:=by simpa using E8.out
                    exact Pf
               · repeat rw[List.drop_succ_cons]
                 rw[List.drop_zero];rintro a w8 ⟨u5,u6,u7,u8,u9,jy,kC,l_,lK,mU,mV,u16,mW,mX,nG,u20,u21,u22,u23,u24,u25,u26,u27,u28,u29,u30,u31,u32,u33,u34,u35,u36,u37,u38,tT,u40,tV,u42,tX,u44,u45,u46,yF,u48,u49,yG,u51,yH,u53,yI,u55,yJ,Co,u58,u59,u60,Cq,Cr,u63,u64,Cs,u66,Ct,u68,u69,u70,wU,u72,u73,Kn,u75,Ko,Kq,u78,u79,u80,u81,u82,u83,u84,u85,u86,u87,u88,rfl,Hz⟩;have q:=FX.out _ Hz.out;have ca:w8.cell? ⟨w.heap.size+1,8,ae⟩=af (.bool a9):=rE q.2 rfl;have b0:=q.1.c20;clear q
                 cases V8 with
                 | true=>
                  obtain rfl:V9=true:=by simpa using E9.out
                  exact Pk
                 | false=>
                  cases a9 with
                  | true=>
                   obtain rfl:V9=false:=by simpa using E9.out
                   exact Pk
                  | false=>
                   cases n9 with
                   | true=>
                    obtain rfl:V9=true:=by simpa using E9.out
                    exact Pk
                   | false=>
                    obtain rfl:V9=false:=by simpa using E9.out
                    exact Pk
end Sm
end Go.Proofs.YthnillhnjhalmaaGreatDoor
