/-
  Parts of this proof: The contract of the reference's Same.
-/
import Derived.Test.YtbgodajefaahdaaGreatDoorZPSame
import Derived.Test.YtbgodajefaahdaaGreatDoorZPRSame
set_option linter.unusedVariables false
open Go.Lib (hid)
namespace Go.Proofs.YtbgodajefaahdaaGreatDoor.Sm
open Go.RowKit
open Go.Proofs.YtbgodajefaahdaaGreatDoor.Na (bs)
open Go.Proofs.YtbgodajefaahdaaGreatDoor.Ex (Ex Gives bl_drew bl_call eq_yes eq_no)
attribute [local go_sem] cs0 cs1 cs2 cs3 cs4 cs5 cs6 cs7 cs8 cs9 cs10 cs11 cs12 cs13 cs14 cs15 cs16 cs17 cs18 cs19 cs20
set_option maxHeartbeats 4000000
theorem rdsame_any {w:World} {x y:St} {P Q:Pl} (hx:SIn w x P) (hy:SIn w y Q):Calls Tryz.prog 22 #[.agg #[.int .i64 x.di.op,.int .i64 x.di.a,.int .i64 x.di.b,.int .i64 x.di.n,.slice P.vp P.vm P.vc,.slice P.wp P.wm P.wc],.agg #[.int .i64 y.di.op,.int .i64 y.di.a,.int .i64 y.di.b,.int .i64 y.di.n,.slice Q.vp Q.vm Q.vc,.slice Q.wp Q.wm Q.wc]] w (Gives (.bool (sameDt x.di y.di)) w):=by
 have h:=Di.rsame_any x.di.op x.di.a x.di.b x.di.n P.vp x.di.vs.length P.vc P.wp x.di.ws.length P.wc _ _ y.di.op y.di.a y.di.b y.di.n Q.vp y.di.vs.length Q.vc Q.wp y.di.ws.length Q.wc _ _ w hx.vs hx.ws hy.vs hy.ws;rw[sameD_list,hx.vlen,hx.wlen,hy.vlen,hy.wlen] at h;exact h
def BoxCut (wr:World) (x y:St) (P Q:Pl) (a b:Value) (wc:World):Prop:=∃g1 g2:Nat,a=.pointer (some ⟨g1,0,none⟩)/\b=.pointer (some ⟨g2,0,none⟩)/\box21 wc g1 x P/\box21 wc g2 y Q/\Below wr.heap.size wr wc
theorem setRow_prev (w:World) (c c':Array Value) (t:TypeId) (o:Obj):((w.alloc (.cells c t)).alloc o).setRow w.heap.size c'=(w.alloc (.cells c' t)).alloc o:=by
 simp only[World.setRow,World.alloc]
 congr 1
 apply Array.ext_getElem?
 intro i;rw[Array.getElem?_modify];by_cases h:w.heap.size=i
 · subst h;rw[if_pos rfl,Array.getElem?_push,Array.getElem?_push];simp[Array.getElem?_push]
 · have h':¬i=w.heap.size:=fun e=>h e.symm;simp[h,h',Array.getElem?_push]
theorem heap_prev (w:World) (a o:Obj):((w.alloc a).alloc o).heap[w.heap.size]?=some a:=by
 show((w.heap.push a).push o)[w.heap.size]?=some a
 simp[Array.getElem?_push]
theorem st_prevV (x:St) (P:Pl) (z:Array Value) (hz:z.size=21) (W:World) (o:Obj) (B:Nat) (hB:W.heap.size=B):(storeVar 60 ⟨B,0,none⟩ (.agg (cs x P))).run Tryz.prog ((W.alloc (.cells z 60)).alloc o)=.ok () ((W.alloc (.cells (cs x P) 60)).alloc o):=by
 subst hB;rw[run_storeVar_row _ _ 60 60 z (cs x P) (heap_prev _ _ _) (by rw[st_info];rfl) hz (cs_one x P),setRow_prev]
theorem st_prevC (x:St) (P:Pl) (z:Array Value) (hz:z.size=21) (W:World) (o:Obj) (B:Nat) (hB:W.heap.size=B):(storeCells ⟨B,0,none⟩ (cs x P).toList 0).run Tryz.prog ((W.alloc (.cells z 60)).alloc o)=.ok () ((W.alloc (.cells (cs x P) 60)).alloc o):=by
 have h:=st_prevV x P z hz W o B hB;obtain⟨i0,hi0,hi1,hi2,hi3⟩:=parts_of' fld_info
 simpa [storeVar,sizeOf,typeInfo,hi0,Value.cells,hi2,cs_size] using h
theorem st_prevA (x:St) (P:Pl) (z:Array Value) (hz:z.size=21) (W:World) (o:Obj) (B:Nat) (hB:W.heap.size=B):(Instr.storeAt 60 (.pointer (some ⟨B,0,none⟩)) (.agg (cs x P))).run Tryz.prog ((W.alloc (.cells z 60)).alloc o)=.ok () ((W.alloc (.cells (cs x P) 60)).alloc o):=by
 simp only[Instr.storeAt,Instr.sureAddr,Sem.run_bind,Sem.run_pure,Result.andThen];exact st_prevV x P z hz W o B hB
theorem st_prevDV (x:St) (P:Pl) (z:Array Value) (hz:z.size=21) (W:World) (o:Obj) (B:Nat) (hB:W.heap.size=B):(storeVar 60 ⟨B,0,none⟩ (.agg (cs x P))).run Tryz.prog ((W.alloc (.cells z 60)).alloc o).drew=.ok () ((W.alloc (.cells (cs x P) 60)).alloc o).drew:=st_prevV x P z hz W.drew o B hB
theorem st_anyDV (x:St) (P:Pl) (z:Array Value) (hz:z.size=21) (W:World) (B:Nat) (hB:W.heap.size=B):(storeVar 60 ⟨B,0,none⟩ (.agg (cs x P))).run Tryz.prog (W.alloc (.cells z 60)).drew=.ok () (W.alloc (.cells (cs x P) 60)).drew:=st_anyV x P z hz W.drew B hB
theorem st_prevDC (x:St) (P:Pl) (z:Array Value) (hz:z.size=21) (W:World) (o:Obj) (B:Nat) (hB:W.heap.size=B):(storeCells ⟨B,0,none⟩ (cs x P).toList 0).run Tryz.prog ((W.alloc (.cells z 60)).alloc o).drew=.ok () ((W.alloc (.cells (cs x P) 60)).alloc o).drew:=st_prevC x P z hz W.drew o B hB
theorem st_anyDC (x:St) (P:Pl) (z:Array Value) (hz:z.size=21) (W:World) (B:Nat) (hB:W.heap.size=B):(storeCells ⟨B,0,none⟩ (cs x P).toList 0).run Tryz.prog (W.alloc (.cells z 60)).drew=.ok () (W.alloc (.cells (cs x P) 60)).drew:=st_anyC x P z hz W.drew B hB
theorem st_prevDA (x:St) (P:Pl) (z:Array Value) (hz:z.size=21) (W:World) (o:Obj) (B:Nat) (hB:W.heap.size=B):(Instr.storeAt 60 (.pointer (some ⟨B,0,none⟩)) (.agg (cs x P))).run Tryz.prog ((W.alloc (.cells z 60)).alloc o).drew=.ok () ((W.alloc (.cells (cs x P) 60)).alloc o).drew:=st_prevA x P z hz W.drew o B hB
theorem st_anyDA (x:St) (P:Pl) (z:Array Value) (hz:z.size=21) (W:World) (B:Nat) (hB:W.heap.size=B):(Instr.storeAt 60 (.pointer (some ⟨B,0,none⟩)) (.agg (cs x P))).run Tryz.prog (W.alloc (.cells z 60)).drew=.ok () (W.alloc (.cells (cs x P) 60)).drew:=st_anyA x P z hz W.drew B hB
theorem two_new (w:World) (x y:St) (P Q:Pl):box21 ((w.alloc (.cells (cs x P) 60)).alloc (.cells (cs y Q) 60)).drew w.heap.size x P/\box21 ((w.alloc (.cells (cs x P) 60)).alloc (.cells (cs y Q) 60)).drew (w.heap.size+1) y Q:=(two_far (w:=w) x y P Q).out _ (bl_drew (Below.refl _ _))
theorem zGC_0 {p:Prop} (h:p:=by
 go_wp2_with fail;go_ret;exact⟨by first|(rw[HR.out];rfl)|(simp[HR.out];done),by with_reducible first|exact HWC.out|exact HWL.out⟩
 ):p:=h
theorem zGC_1 {p:Prop} (h:p:=by
 have HR:=hid (HS.out (by simp));exact zGC_0
 ):p:=h
theorem zGC_2 {p:Prop} (h:p:=by have h1:=HWC.out;exact bl):p:=h
set_option maxRecDepth 100000 in
theorem rsameS_any (sl:List St):SameC 9 sl:=by
 induction sl using lst_ind with
 | h sl ih=>
  intro l2 p m c p2 m2 c2 w h h2;have HH:=hid h;have HH2:=hid h2;have HI:=hid ih;obtain⟨hl,hm⟩:=h.len;obtain⟨hl2,hm2⟩:=h2.len;have HL:=hid hl;have HL2:=hid hl2;clear ih h h2 hl hl2;by_cases hmm:m=m2
  · subst hmm;obtain⟨n21,hn21⟩:∃n:Nat,21=n:=⟨_,rfl⟩
    have hsz:∀w,(sizeOf 60).run Tryz.prog w=.ok n21 w:=fun w=>by rw[Tryz.sizeOf60,hn21]
    have HN21:=hid hn21;clear hn21;go_enter Tryz.func9,Tryz.ntmps9;go_wp2_with fail;go_loopw [5] (fun i wr=>∃k:Nat,k<=m/\Hid (sl.take k=l2.take k)/\i=.int .i64 (k:Nat)/\Hid (Below w.heap.size w wr)) (fun i _=>m-(intOf i).toNat)
    case atStart=>exact⟨0,Nat.zero_le _,hid rfl,rfl,hid bl⟩
    case round=>
     obtain⟨k,hk,HT0,rfl,HW⟩:=hrel;have k0:(0:Int)<=(k:Int):=by omega
     rcases Nat.lt_or_ge k m with h|h
     · have k1:(k:Int)<(m:Int):=by omega
       obtain⟨b,o',rfl,-,hG,hcell⟩:=HH.out.rows (by omega);have hkl:k<sl.length:=by rw[HL.out];omega
       obtain⟨P,hc21,hsin⟩:=hcell.out k hkl;have hmem:sl[k]∈sl:=List.getElem_mem hkl;have hgx:sl[k]?=some sl[k]:=List.getElem?_eq_getElem hkl;obtain⟨x,hx⟩:∃x,sl[k]=x:=⟨_,rfl⟩
       rw[hx] at hc21 hsin hmem hgx;have HSIN:=hid hsin;have HX:=hid hgx;have HM:=hid hmem;have hcw:=(hc21.on HW.out hG).at HN21.out;have hbr:b<wr.heap.size:=Nat.lt_of_lt_of_le hG HW.out.size;have hcsz:(cs x P).size=n21:=HN21.out;have ld1:=(hcw).ldN HN21.out;have ld2:=(hcw).loadVar;have ld3:=(hcw).loadAt;have st1:=st_store x P;have st2:=st_storeVar x P;have st3:=st_storeAt x P;have HCW:=hid hcw;clear hcell hc21 hsin hx hmem hgx hkl hcw;obtain⟨b2,o2,rfl,-,hG2,hcell2⟩:=HH2.out.rows (by omega);have hkl2:k<l2.length:=by rw[HL2.out];omega
       obtain⟨Q,hcy,hsy⟩:=hcell2.out k hkl2;have hgy:l2[k]?=some l2[k]:=List.getElem?_eq_getElem hkl2;obtain⟨y,hy⟩:∃y,l2[k]=y:=⟨_,rfl⟩
       rw[hy] at hcy hsy hgy;have hcyw:=(hcy.on HW.out hG2).at HN21.out;have hbr2:b2<wr.heap.size:=Nat.lt_of_lt_of_le hG2 HW.out.size;have hcsz2:(cs y Q).size=n21:=HN21.out;have hb1w:b<wr.heap.size:=hbr;have FL:Hid (∀W,Below wr.heap.size wr W->(loadCellsFrom ⟨b,o'+k*n21,none⟩ 0 n21 #[]).run Tryz.prog W=.ok (cs x P) W/\(loadCellsFrom ⟨b2,o2+k*n21,none⟩ 0 n21 #[]).run Tryz.prog W=.ok (cs y Q) W):=hid fun W hb=>⟨(HCW.out.on hb hbr).ldN HN21.out,(hcyw.on hb hbr2).ldN HN21.out⟩
       have sp1:=st_anyC;have sp2:=st_anyV;have sp3:=st_anyA;have sp4:=st_prevC;have sp5:=st_prevV;have sp6:=st_prevA;have sp7:=st_prevDC;have sp8:=st_prevDV;have sp9:=st_prevDA;have sq7:=st_anyDC;have sq8:=st_anyDV;have sq9:=st_anyDA;clear ld1 ld2 ld3 st1 st2 st3;have HSY:=hid hsy;have HS:=hid (sameSL_stop HX.out hgy);have HE:=hid (takeS_same HX.out hgy);have HI1:=hid (HI.out x HM.out).1;have HI2:=hid (HI.out x HM.out).2;clear hcell2 hkl2 hcy hsy hgy hy hcyw
       go_upto_region 6 with fail
       go_cut [6,7] from 13 to 98 (BoxCut wr x y P Q)
       case first=>
        go_region_held3 (fun w'=>(loadCellsFrom ⟨b,o'+k*n21,none⟩ 0 n21 #[]).run Tryz.prog w'=.ok (cs x P) w'/\(loadCellsFrom ⟨b2,o2+k*n21,none⟩ 0 n21 #[]).run Tryz.prog w'=.ok (cs y Q) w') (first|(refine FL.out _ ?_;exact bl;done)|(go_keep;done)) (fail)
        all_goals
         go_wp2_with fail
         go_meet
         first
          | exact⟨_,_,rfl,rfl,(two_new wr x y P Q).1,(two_new wr x y P Q).2,bl⟩
          | exact⟨_,_,rfl,rfl,(two_new wr y x Q P).2,(two_new wr y x Q P).1,bl⟩
       case rest=>
        obtain⟨g1,g2,rfl,rfl,B1,B2,hBc⟩:=hcut
        rename_i wc
        have FX:Hid (∀W,Below wc.heap.size wc W->box21 W g1 x P/\box21 W g2 y Q):=hid fun W hb=>⟨B1.on hb,B2.on hb⟩
        have HWC:Hid (Below w.heap.size w wc):=hid (by have h1:=HW.out;exact bl);have HXS:Hid (∀W,Below wc.heap.size wc W->SIn W x P/\SIn W y Q):=hid fun W hb=>by
         have hbb:Below w.heap.size w W:=bl_call HWC.out hb;exact⟨HSIN.out.on hbb,HSY.out.on hbb⟩
        clear B1 B2 hBc sp1 sp2 sp3 sp4 sp5 sp6 sp7 sp8 sp9 sq7 sq8 sq9 FL hcsz hcsz2 HCW hbr hbr2 hb1w;have q:=FX.out wc (Below.refl _ _);have c0:=q.1.c0;have c1:=q.1.c1;have c2:=q.1.c2;have c18:=q.1.c18;have c3:=q.1.c3;have c4:=q.1.c4;have c5:=q.1.c5;have c6:=q.1.c6;have d0:=q.2.c0;have d1:=q.2.c1;have d2:=q.2.c2;have d18:=q.2.c18;have d3:=q.2.c3;have d4:=q.2.c4;have d5:=q.2.c5;have d6:=q.2.c6;clear q;by_cases t1:x.o=y.o
        case neg=>
         have u:=(show(x.o==y.o)=false from beq_eq_false_iff_ne.2 t1)
         have v1:(x.o != y.o)=true:=bne_iff_ne.2 t1;have HR:=hid (HS.out (sameS_no (by unfold same0;rw[decide_eq_false t1];simp)));exact zGC_0
        have u1:(x.o==y.o)=true:=beq_iff_eq.2 t1;have v1:(x.o != y.o)=false:=by rw[t1];simp
        by_cases t2:bs x.nm=bs y.nm
        case neg=>
         have u:=eq_no t2;have v2:=u;have HR:=hid (HS.out (sameS_no (by unfold same0;rw[decide_eq_false t2];simp)));exact zGC_0
        have u2:=eq_yes t2;by_cases t3:bs x.f=bs y.f
        case neg=>
         have u:=eq_no t3;have v3:=u;have HR:=hid (HS.out (sameS_no (by unfold same0;rw[decide_eq_false t3];simp)));exact zGC_0
        have u3:=eq_yes t3
        cases t4:(x.fl==y.fl) with
        | false=>
         have v4:(x.fl != y.fl)=true:=by unfold bne;rw[t4];rfl
         have HR:=hid (HS.out (sameS_no (by unfold same0;rw[t4];simp)));exact zGC_0
        | true=>
        have v4:(x.fl != y.fl)=false:=by unfold bne;rw[t4];rfl
        have e:sameS x y=(Ex.same x.e y.e&&Ex.same x.g y.g&&Ex.sameL x.ar y.ar&&sameDt x.di y.di&&sameSL x.bo y.bo&&sameSL x.el y.el):=by rw[sameS_one];unfold same0;rw[decide_eq_true t1,decide_eq_true t2,decide_eq_true t3,t4];simp only[Bool.true_and]
        rw[e] at HS HE;have C1:=hid (fun W (hb:Below wc.heap.size wc W)=>Ex.rsame_any x.e y.e P.ep P.em P.ec Q.ep Q.em Q.ec W (HXS.out W hb).1.e (HXS.out W hb).2.e);have C2:=hid (fun W (hb:Below wc.heap.size wc W)=>Ex.rsame_any x.g y.g P.gp P.gm P.gc Q.gp Q.gm Q.gc W (HXS.out W hb).1.g (HXS.out W hb).2.g);have C3:=hid (fun W (hb:Below wc.heap.size wc W)=>rexprs_any x.ar y.ar P.ap P.am P.ac Q.ap Q.am Q.ac W (HXS.out W hb).1.ar (HXS.out W hb).2.ar);have C4:=hid (fun W (hb:Below wc.heap.size wc W)=>rdsame_any (HXS.out W hb).1 (HXS.out W hb).2);have C5:=hid (fun W (hb:Below wc.heap.size wc W)=>HI1.out y.bo P.bp P.bm P.bc Q.bp Q.bm Q.bc W (HXS.out W hb).1.bo (HXS.out W hb).2.bo);have C6:=hid (fun W (hb:Below wc.heap.size wc W)=>HI2.out y.el P.lp P.lm P.lc Q.lp Q.lm Q.lc W (HXS.out W hb).1.el (HXS.out W hb).2.el);obtain⟨b1,hb1⟩:∃v,Ex.same x.e y.e=v:=⟨_,rfl⟩
        rw[hb1] at C1 HS HE;obtain⟨b2,hb2⟩:∃v,Ex.same x.g y.g=v:=⟨_,rfl⟩
        rw[hb2] at C2 HS HE;obtain⟨b3,hb3⟩:∃v,Ex.sameL x.ar y.ar=v:=⟨_,rfl⟩
        rw[hb3] at C3 HS HE;obtain⟨b4,hb4⟩:∃v,sameDt x.di y.di=v:=⟨_,rfl⟩
        rw[hb4] at C4 HS HE;obtain⟨b5,hb5⟩:∃v,sameSL x.bo y.bo=v:=⟨_,rfl⟩
        rw[hb5] at C5 HS HE;obtain⟨b6,hb6⟩:∃v,sameSL x.el y.el=v:=⟨_,rfl⟩
        rw[hb6] at C6 HS HE;clear hb1 hb2 hb3 hb4 hb5 hb6 e t1 t2 t3;go_wp2_with fail;clear c0 d0 c1 d1 c2 d2 c18 d18 c3 d3 c4 d4 c5 d5 c6 d6;refine(C1.out _ bl).mono ?_;rintro e w1 ⟨rfl,hw1⟩;have HWL:Hid (Below w.heap.size w w1):=hid zGC_2
        cases b1 with
        | false=>
         exact zGC_1
        | true=>
        clear HWL;have q:=FX.out w1 bl;have c7:=q.1.c7;have d7:=q.2.c7;have c8:=q.1.c8;have d8:=q.2.c8;have c9:=q.1.c9;have d9:=q.2.c9;have c10:=q.1.c10;have d10:=q.2.c10;clear q;go_wp2_with fail;clear c7 d7 c8 d8 c9 d9 c10 d10;refine(C2.out _ bl).mono ?_;rintro e w2 ⟨rfl,hw2⟩;have HWL:Hid (Below w.heap.size w w2):=hid zGC_2
        cases b2 with
        | false=>
         exact zGC_1
        | true=>
        clear HWL;have q:=FX.out w2 bl;have c11:=q.1.c11;have d11:=q.2.c11;clear q;go_wp2_with fail;clear c11 d11;refine(C3.out _ bl).mono ?_;rintro e w3 ⟨rfl,hw3⟩;have HWL:Hid (Below w.heap.size w w3):=hid zGC_2
        cases b3 with
        | false=>
         exact zGC_1
        | true=>
        clear HWL;have q:=FX.out w3 bl;have c12:=q.1.c12;have d12:=q.2.c12;have c13:=q.1.c13;have d13:=q.2.c13;have c14:=q.1.c14;have d14:=q.2.c14;have c15:=q.1.c15;have d15:=q.2.c15;have c16:=q.1.c16;have d16:=q.2.c16;have c17:=q.1.c17;have d17:=q.2.c17;clear q;go_wp2_with fail;clear c12 d12 c13 d13 c14 d14 c15 d15 c16 d16 c17 d17;refine(C4.out _ bl).mono ?_;rintro e w4 ⟨rfl,hw4⟩;have HWL:Hid (Below w.heap.size w w4):=hid zGC_2
        cases b4 with
        | false=>
         exact zGC_1
        | true=>
        clear HWL;have q:=FX.out w4 bl;have c19:=q.1.c19;have d19:=q.2.c19;clear q;go_wp2_with fail;clear c19 d19;refine(C5.out _ bl).mono ?_;rintro e w5 ⟨rfl,hw5⟩;have HWL:Hid (Below w.heap.size w w5):=hid zGC_2
        cases b5 with
        | false=>
         exact zGC_1
        | true=>
        clear HWL;have q:=FX.out w5 bl;have c20:=q.1.c20;have d20:=q.2.c20;clear q;go_wp2_with fail;clear c20 d20;refine(C6.out _ bl).mono ?_;rintro e w6 ⟨rfl,hw6⟩;have HWL:Hid (Below w.heap.size w w6):=hid zGC_2
        cases b6 with
        | false=>
         exact zGC_1
        | true=>
        have HR:=hid (HE.out (by simp) HT0.out);go_wp2_with fail;go_roundw
        case rel=>exact⟨k+1,by omega,HR,by go_num,HWL⟩
        case measure=>simp[intOf];omega
     · obtain rfl:m=k:=by omega
       have HR:Hid (sameSL sl l2=true):=hid (by
        have h1:=HT0.out;rw[List.take_of_length_le (by rw[HL.out];exact Nat.le_refl _),List.take_of_length_le (by rw[HL2.out];exact Nat.le_refl _)] at h1;rw[h1];exact sameSL_self _)
       go_wp2_with fail;go_ret;exact⟨by rw[HR.out];rfl,HW.out⟩
  · rw[sameSL_len (by rw[HL.out,HL2.out];exact hmm)];have t1:((m:Int)==(m2:Int))=false:=beq_eq_false_iff_ne.2 (by omega);have t2:((m:Int) != (m2:Int))=true:=bne_iff_ne.2 (by omega);clear hmm;go_enter Tryz.func9,Tryz.ntmps9;go_wp2_with fail;go_ret;exact⟨rfl,bl⟩
end Go.Proofs.YtbgodajefaahdaaGreatDoor.Sm
