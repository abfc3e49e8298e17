/-
  Parts of this proof: The contract of the reference's Same.
-/
import Derived.Test.YtbgodajefaahdaaGreatDoorYPSame
open Go.Proofs.Tryz renaming prog->ae
open Go.RowKit renaming Below->af
open Go renaming World->ag
open Go.Lib renaming hid->ah
set_option linter.unusedVariables false
open Go.Lib (hid)
namespace Go.Proofs.YtbgodajefaahdaaGreatDoor
namespace Sm
open Go.RowKit
open Na (bs)
open Ex (Ex Gives qB tT vo xZ)
attribute [local go_sem] cs0 cs1 cs2 wU wV wW wX wY wZ w_ wJ wK wL wM wN wO wP wQ wR wS wT
set_option maxHeartbeats 4000000
theorem ap2 {w:ag} {x y:St} {P Q:Pl} (hx:wE w x P) (hy:wE w y Q):Calls ae 22 #[.agg #[.int .i64 x.di.op,.int .i64 x.di.a,.int .i64 x.di.b,.int .i64 x.di.n,.slice P.vp P.vm P.vc,.slice P.wp P.wm P.wc],.agg #[.int .i64 y.di.op,.int .i64 y.di.a,.int .i64 y.di.b,.int .i64 y.di.n,.slice Q.vp Q.vm Q.vc,.slice Q.wp Q.wm Q.wc]] w (Gives (.bool (kQ x.di y.di)) w):=by
 have h:=Di.Fb x.di.op x.di.a x.di.b x.di.n P.vp x.di.vs.length P.vc P.wp x.di.ws.length P.wc _ _ y.di.op y.di.a y.di.b y.di.n Q.vp y.di.vs.length Q.vc Q.wp y.di.ws.length Q.wc _ _ w hx.vs hx.ws hy.vs hy.ws;rw[G9,hx.Lu,hx.LJ,hy.Lu,hy.LJ] at h;exact h
def ahu (wr:ag) (x y:St) (P Q:Pl) (a b:Value) (wc:ag):Prop:=∃g1 g2:Nat,a=.pointer (some ⟨g1,0,none⟩)/\b=.pointer (some ⟨g2,0,none⟩)/\dK wc g1 x P/\dK wc g2 y Q/\af wr.heap.size wr wc
theorem VM (w:ag) (c c':Array Value) (t:TypeId) (o:Obj):((w.alloc (.cells c t)).alloc o).setRow w.heap.size c'=(w.alloc (.cells c' t)).alloc o:=by
 simp only[World.setRow,World.alloc]
 congr 1
 apply Array.ext_getElem?
 intro i;rw[Array.getElem?_modify];by_cases h:w.heap.size=i
 · subst h;rw[if_pos rfl,Array.getElem?_push,Array.getElem?_push];simp[Array.getElem?_push]
 · have h':¬i=w.heap.size:=fun e=>h e.symm;simp[h,h',Array.getElem?_push]
theorem Uc (w:ag) (a o:Obj):((w.alloc a).alloc o).heap[w.heap.size]?=some a:=by
 show((w.heap.push a).push o)[w.heap.size]?=some a
 simp[Array.getElem?_push]
theorem Qg (x:St) (P:Pl) (z:Array Value) (hz:z.size=21) (W:ag) (o:Obj) (B:Nat) (hB:W.heap.size=B):(storeVar 60 ⟨B,0,none⟩ (.agg (cs x P))).run ae ((W.alloc (.cells z 60)).alloc o)=.ok () ((W.alloc (.cells (cs x P) 60)).alloc o):=by
 subst hB;rw[run_storeVar_row _ _ 60 60 z (cs x P) (Uc _ _ _) (by rw[Ld];rfl) hz (jL x P),VM]
theorem afn (x:St) (P:Pl) (z:Array Value) (hz:z.size=21) (W:ag) (o:Obj) (B:Nat) (hB:W.heap.size=B):(storeCells ⟨B,0,none⟩ (cs x P).toList 0).run ae ((W.alloc (.cells z 60)).alloc o)=.ok () ((W.alloc (.cells (cs x P) 60)).alloc o):=by
 have h:=Qg x P z hz W o B hB;obtain⟨i0,hi0,hi1,hi2,hi3⟩:=apy amh
 simpa [storeVar,sizeOf,typeInfo,hi0,Value.cells,hi2,aac] using h
theorem afm (x:St) (P:Pl) (z:Array Value) (hz:z.size=21) (W:ag) (o:Obj) (B:Nat) (hB:W.heap.size=B):(Instr.storeAt 60 (.pointer (some ⟨B,0,none⟩)) (.agg (cs x P))).run ae ((W.alloc (.cells z 60)).alloc o)=.ok () ((W.alloc (.cells (cs x P) 60)).alloc o):=by
 simp only[Instr.storeAt,Instr.sureAddr,Sem.run_bind,Sem.run_pure,Result.andThen];exact Qg x P z hz W o B hB
theorem arC (x:St) (P:Pl) (z:Array Value) (hz:z.size=21) (W:ag) (o:Obj) (B:Nat) (hB:W.heap.size=B):(storeVar 60 ⟨B,0,none⟩ (.agg (cs x P))).run ae ((W.alloc (.cells z 60)).alloc o).drew=.ok () ((W.alloc (.cells (cs x P) 60)).alloc o).drew:=Qg x P z hz W.drew o B hB
theorem arv (x:St) (P:Pl) (z:Array Value) (hz:z.size=21) (W:ag) (B:Nat) (hB:W.heap.size=B):(storeVar 60 ⟨B,0,none⟩ (.agg (cs x P))).run ae (W.alloc (.cells z 60)).drew=.ok () (W.alloc (.cells (cs x P) 60)).drew:=afk x P z hz W.drew B hB
theorem arB (x:St) (P:Pl) (z:Array Value) (hz:z.size=21) (W:ag) (o:Obj) (B:Nat) (hB:W.heap.size=B):(storeCells ⟨B,0,none⟩ (cs x P).toList 0).run ae ((W.alloc (.cells z 60)).alloc o).drew=.ok () ((W.alloc (.cells (cs x P) 60)).alloc o).drew:=afn x P z hz W.drew o B hB
theorem aru (x:St) (P:Pl) (z:Array Value) (hz:z.size=21) (W:ag) (B:Nat) (hB:W.heap.size=B):(storeCells ⟨B,0,none⟩ (cs x P).toList 0).run ae (W.alloc (.cells z 60)).drew=.ok () (W.alloc (.cells (cs x P) 60)).drew:=afj x P z hz W.drew B hB
theorem arA (x:St) (P:Pl) (z:Array Value) (hz:z.size=21) (W:ag) (o:Obj) (B:Nat) (hB:W.heap.size=B):(Instr.storeAt 60 (.pointer (some ⟨B,0,none⟩)) (.agg (cs x P))).run ae ((W.alloc (.cells z 60)).alloc o).drew=.ok () ((W.alloc (.cells (cs x P) 60)).alloc o).drew:=afm x P z hz W.drew o B hB
theorem art (x:St) (P:Pl) (z:Array Value) (hz:z.size=21) (W:ag) (B:Nat) (hB:W.heap.size=B):(Instr.storeAt 60 (.pointer (some ⟨B,0,none⟩)) (.agg (cs x P))).run ae (W.alloc (.cells z 60)).drew=.ok () (W.alloc (.cells (cs x P) 60)).drew:=afi x P z hz W.drew B hB
theorem Qi (w:ag) (x y:St) (P Q:Pl):dK ((w.alloc (.cells (cs x P) 60)).alloc (.cells (cs y Q) 60)).drew w.heap.size x P/\dK ((w.alloc (.cells (cs x P) 60)).alloc (.cells (cs y Q) 60)).drew (w.heap.size+1) y Q:=(asf (w:=w) x y P Q).out _ (qB (Below.refl _ _))
theorem L_ {p:Prop} (h:p:=by
 go_wp2_with fail;go_ret;exact⟨by first|(rw[HR.out];rfl)|(simp[HR.out];done),by with_reducible first|exact RA.out|exact wy.out⟩
 ):p:=h
theorem Ij {p:Prop} (h:p:=by
 have HR:=ah (HS.out (by simp));exact L_
 ):p:=h
theorem Ik {p:Prop} (h:p:=by have h1:=RA.out;exact bl):p:=h
set_option maxRecDepth 100000 in
theorem aeH (sl:List St):aid 9 sl:=by
 induction sl using UK with
 | h sl ih=>
  intro l2 p m c p2 m2 c2 w h h2;have HH:=ah h;have qm:=ah h2;have HI:=ah ih;obtain⟨hl,hm⟩:=h.len;obtain⟨hl2,hm2⟩:=h2.len;have HL:=ah hl;have HL2:=ah hl2;clear ih h h2 hl hl2;by_cases hmm:m=m2
  · subst hmm;obtain⟨n21,oU⟩:∃n:Nat,21=n:=⟨_,rfl⟩
    have hsz:∀w,(sizeOf 60).run ae w=.ok n21 w:=fun w=>by rw[Tryz.sizeOf60,oU]
    have lV:=ah oU;clear oU;go_enter Tryz.func9,Tryz.ntmps9;go_wp2_with fail;go_loopw [5] (fun i wr=>∃k:Nat,k<=m/\Hid (sl.take k=l2.take k)/\i=.int .i64 (k:Nat)/\Hid (af w.heap.size w wr)) (fun i _=>m-(intOf i).toNat)
    case atStart=>exact⟨0,Nat.zero_le _,ah rfl,rfl,ah bl⟩
    case round=>
     obtain⟨k,hk,HT0,rfl,HW⟩:=hrel;have k0:(0:Int)<=(k:Int):=by omega
     rcases Nat.lt_or_ge k m with h|h
     · have k1:(k:Int)<(m:Int):=by omega
       obtain⟨b,o',rfl,-,hG,hcell⟩:=HH.out.rows (by omega);have hkl:k<sl.length:=by rw[HL.out];omega
       obtain⟨P,hc21,yo⟩:=hcell.out k hkl;have hmem:sl[k]∈sl:=List.getElem_mem hkl;have hgx:sl[k]?=some sl[k]:=List.getElem?_eq_getElem hkl;obtain⟨x,hx⟩:∃x,sl[k]=x:=⟨_,rfl⟩
       rw[hx] at hc21 yo hmem hgx;have Ai:=ah yo;have HX:=ah hgx;have HM:=ah hmem;have hcw:=(hc21.on HW.out hG).at lV.out;have hbr:b<wr.heap.size:=Nat.lt_of_lt_of_le hG HW.out.size;have hcsz:(cs x P).size=n21:=lV.out;have ld1:=(hcw).dW lV.out;have lI:=(hcw).loadVar;have nD:=(hcw).loadAt;have st1:=Le x P;have st2:=Lg x P;have rM:=Lf x P;have Ac:=ah hcw;clear hcell hc21 yo hx hmem hgx hkl hcw;obtain⟨b2,o2,rfl,-,hG2,hcell2⟩:=qm.out.rows (by omega);have dM:k<l2.length:=by rw[HL2.out];omega
       obtain⟨Q,hcy,hsy⟩:=hcell2.out k dM;have Ct:l2[k]?=some l2[k]:=List.getElem?_eq_getElem dM;obtain⟨y,hy⟩:∃y,l2[k]=y:=⟨_,rfl⟩
       rw[hy] at hcy hsy Ct;have acg:=(hcy.on HW.out hG2).at lV.out;have ace:b2<wr.heap.size:=Nat.lt_of_lt_of_le hG2 HW.out.size;have sF:(cs y Q).size=n21:=lV.out;have amZ:b<wr.heap.size:=hbr;have FL:Hid (∀W,af wr.heap.size wr W->(loadCellsFrom ⟨b,o'+k*n21,none⟩ 0 n21 #[]).run ae W=.ok (cs x P) W/\(loadCellsFrom ⟨b2,o2+k*n21,none⟩ 0 n21 #[]).run ae W=.ok (cs y Q) W):=ah fun W hb=>⟨(Ac.out.on hb hbr).dW lV.out,(acg.on hb ace).dW lV.out⟩
       have sp1:=afj;have sp2:=afk;have K6:=afi;have K7:=afn;have K8:=Qg;have K9:=afm;have K_:=arB;have La:=arC;have Lb:=arA;have sq7:=aru;have sq8:=arv;have sq9:=art;clear ld1 lI nD st1 st2 rM;have HSY:=ah hsy;have HS:=ah (aqF HX.out Ct);have HE:=ah (ar6 HX.out Ct);have HI1:=ah (HI.out x HM.out).1;have HI2:=ah (HI.out x HM.out).2;clear hcell2 dM hcy hsy Ct hy acg
       go_upto_region 6 with fail
       go_cut [6,7] from 13 to 98 (ahu wr x y P Q)
       case first=>
        go_region_held3 (fun w'=>(loadCellsFrom ⟨b,o'+k*n21,none⟩ 0 n21 #[]).run ae w'=.ok (cs x P) w'/\(loadCellsFrom ⟨b2,o2+k*n21,none⟩ 0 n21 #[]).run ae w'=.ok (cs y Q) w') (first|(refine FL.out _ ?_;exact bl;done)|(go_keep;done)) (fail)
        all_goals
         go_wp2_with fail
         go_meet
         first
          | exact⟨_,_,rfl,rfl,(Qi wr x y P Q).1,(Qi wr x y P Q).2,bl⟩
          | exact⟨_,_,rfl,rfl,(Qi wr y x Q P).2,(Qi wr y x Q P).1,bl⟩
       case rest=>
        obtain⟨g1,g2,rfl,rfl,B1,B2,Et⟩:=hcut
        rename_i wc
        have FX:Hid (∀W,af wc.heap.size wc W->dK W g1 x P/\dK W g2 y Q):=ah fun W hb=>⟨B1.on hb,B2.on hb⟩
        have RA:Hid (af w.heap.size w wc):=ah (by have h1:=HW.out;exact bl);have wB:Hid (∀W,af wc.heap.size wc W->wE W x P/\wE W y Q):=ah fun W hb=>by
         have hbb:af w.heap.size w W:=tT RA.out hb;exact⟨Ai.out.on hbb,HSY.out.on hbb⟩
        clear B1 B2 Et sp1 sp2 K6 K7 K8 K9 K_ La Lb sq7 sq8 sq9 FL hcsz sF Ac hbr ace amZ;have q:=FX.out wc (Below.refl _ _);have c0:=q.1.c0;have c1:=q.1.c1;have c2:=q.1.c2;have c18:=q.1.c18;have c3:=q.1.c3;have c4:=q.1.c4;have c5:=q.1.c5;have c6:=q.1.c6;have d0:=q.2.c0;have d1:=q.2.c1;have d2:=q.2.c2;have d18:=q.2.c18;have d3:=q.2.c3;have d4:=q.2.c4;have d5:=q.2.c5;have d6:=q.2.c6;clear q;by_cases t1:x.o=y.o
        case neg=>
         have u:=(show(x.o==y.o)=false from beq_eq_false_iff_ne.2 t1)
         have v1:(x.o != y.o)=true:=bne_iff_ne.2 t1;have HR:=ah (HS.out (Qb (by unfold Bo;rw[decide_eq_false t1];simp)));exact L_
        have u1:(x.o==y.o)=true:=beq_iff_eq.2 t1;have v1:(x.o != y.o)=false:=by rw[t1];simp
        by_cases t2:bs x.nm=bs y.nm
        case neg=>
         have u:=xZ t2;have v2:=u;have HR:=ah (HS.out (Qb (by unfold Bo;rw[decide_eq_false t2];simp)));exact L_
        have u2:=vo t2;by_cases t3:bs x.f=bs y.f
        case neg=>
         have u:=xZ t3;have v3:=u;have HR:=ah (HS.out (Qb (by unfold Bo;rw[decide_eq_false t3];simp)));exact L_
        have u3:=vo t3
        cases t4:(x.fl==y.fl) with
        | false=>
         have v4:(x.fl != y.fl)=true:=by unfold bne;rw[t4];rfl
         have HR:=ah (HS.out (Qb (by unfold Bo;rw[t4];simp)));exact L_
        | true=>
        have v4:(x.fl != y.fl)=false:=by unfold bne;rw[t4];rfl
        have e:zP x y=(Ex.same x.e y.e&&Ex.same x.g y.g&&Ex.ky x.ar y.ar&&kQ x.di y.di&&jN x.bo y.bo&&jN x.el y.el):=by rw[VG];unfold Bo;rw[decide_eq_true t1,decide_eq_true t2,decide_eq_true t3,t4];simp only[Bool.true_and]
        rw[e] at HS HE;have C1:=ah (fun W (hb:af wc.heap.size wc W)=>Ex.Fb x.e y.e P.ep P.em P.ec Q.ep Q.em Q.ec W (wB.out W hb).1.e (wB.out W hb).2.e);have C2:=ah (fun W (hb:af wc.heap.size wc W)=>Ex.Fb x.g y.g P.gp P.gm P.gc Q.gp Q.gm Q.gc W (wB.out W hb).1.g (wB.out W hb).2.g);have C3:=ah (fun W (hb:af wc.heap.size wc W)=>ap9 x.ar y.ar P.ap P.am P.ac Q.ap Q.am Q.ac W (wB.out W hb).1.ar (wB.out W hb).2.ar);have C4:=ah (fun W (hb:af wc.heap.size wc W)=>ap2 (wB.out W hb).1 (wB.out W hb).2);have C5:=ah (fun W (hb:af wc.heap.size wc W)=>HI1.out y.bo P.bp P.bm P.bc Q.bp Q.bm Q.bc W (wB.out W hb).1.bo (wB.out W hb).2.bo);have C6:=ah (fun W (hb:af wc.heap.size wc W)=>HI2.out y.el P.lp P.lm P.lc Q.lp Q.lm Q.lc W (wB.out W hb).1.el (wB.out W hb).2.el);obtain⟨b1,hb1⟩:∃v,Ex.same x.e y.e=v:=⟨_,rfl⟩
        rw[hb1] at C1 HS HE;obtain⟨b2,hb2⟩:∃v,Ex.same x.g y.g=v:=⟨_,rfl⟩
        rw[hb2] at C2 HS HE;obtain⟨b3,hb3⟩:∃v,Ex.ky x.ar y.ar=v:=⟨_,rfl⟩
        rw[hb3] at C3 HS HE;obtain⟨b4,hb4⟩:∃v,kQ x.di y.di=v:=⟨_,rfl⟩
        rw[hb4] at C4 HS HE;obtain⟨b5,hb5⟩:∃v,jN x.bo y.bo=v:=⟨_,rfl⟩
        rw[hb5] at C5 HS HE;obtain⟨b6,hb6⟩:∃v,jN x.el y.el=v:=⟨_,rfl⟩
        rw[hb6] at C6 HS HE;clear hb1 hb2 hb3 hb4 hb5 hb6 e t1 t2 t3;go_wp2_with fail;clear c0 d0 c1 d1 c2 d2 c18 d18 c3 d3 c4 d4 c5 d5 c6 d6;refine(C1.out _ bl).mono ?_;rintro e w1 ⟨rfl,hw1⟩;have wy:Hid (af w.heap.size w w1):=ah Ik
        cases b1 with
        | false=>
         exact Ij
        | true=>
        clear wy;have q:=FX.out w1 bl;have c7:=q.1.c7;have d7:=q.2.c7;have c8:=q.1.c8;have d8:=q.2.c8;have c9:=q.1.c9;have d9:=q.2.c9;have c10:=q.1.c10;have d10:=q.2.c10;clear q;go_wp2_with fail;clear c7 d7 c8 d8 c9 d9 c10 d10;refine(C2.out _ bl).mono ?_;rintro e w2 ⟨rfl,hw2⟩;have wy:Hid (af w.heap.size w w2):=ah Ik
        cases b2 with
        | false=>
         exact Ij
        | true=>
        clear wy;have q:=FX.out w2 bl;have c11:=q.1.c11;have d11:=q.2.c11;clear q;go_wp2_with fail;clear c11 d11;refine(C3.out _ bl).mono ?_;rintro e w3 ⟨rfl,hw3⟩;have wy:Hid (af w.heap.size w w3):=ah Ik
        cases b3 with
        | false=>
         exact Ij
        | true=>
        clear wy;have q:=FX.out w3 bl;have c12:=q.1.c12;have d12:=q.2.c12;have c13:=q.1.c13;have d13:=q.2.c13;have c14:=q.1.c14;have d14:=q.2.c14;have c15:=q.1.c15;have d15:=q.2.c15;have c16:=q.1.c16;have d16:=q.2.c16;have c17:=q.1.c17;have d17:=q.2.c17;clear q;go_wp2_with fail;clear c12 d12 c13 d13 c14 d14 c15 d15 c16 d16 c17 d17;refine(C4.out _ bl).mono ?_;rintro e w4 ⟨rfl,hw4⟩;have wy:Hid (af w.heap.size w w4):=ah Ik
        cases b4 with
        | false=>
         exact Ij
        | true=>
        clear wy;have q:=FX.out w4 bl;have c19:=q.1.c19;have d19:=q.2.c19;clear q;go_wp2_with fail;clear c19 d19;refine(C5.out _ bl).mono ?_;rintro e w5 ⟨rfl,xc⟩;have wy:Hid (af w.heap.size w w5):=ah Ik
        cases b5 with
        | false=>
         exact Ij
        | true=>
        clear wy;have q:=FX.out w5 bl;have c20:=q.1.c20;have d20:=q.2.c20;clear q;go_wp2_with fail;clear c20 d20;refine(C6.out _ bl).mono ?_;rintro e w6 ⟨rfl,hw6⟩;have wy:Hid (af w.heap.size w w6):=ah Ik
        cases b6 with
        | false=>
         exact Ij
        | true=>
        have HR:=ah (HE.out (by simp) HT0.out);go_wp2_with fail;go_roundw
        case rel=>exact⟨k+1,by omega,HR,by go_num,wy⟩
        case measure=>simp[intOf];omega
     · obtain rfl:m=k:=by omega
       have HR:Hid (jN sl l2=true):=ah (by
        have h1:=HT0.out;rw[List.take_of_length_le (by rw[HL.out];exact Nat.le_refl _),List.take_of_length_le (by rw[HL2.out];exact Nat.le_refl _)] at h1;rw[h1];exact VE _)
       go_wp2_with fail;go_ret;exact⟨by rw[HR.out];rfl,HW.out⟩
  · rw[aqE (by rw[HL.out,HL2.out];exact hmm)];have t1:((m:Int)==(m2:Int))=false:=beq_eq_false_iff_ne.2 (by omega);have t2:((m:Int) != (m2:Int))=true:=bne_iff_ne.2 (by omega);clear hmm;go_enter Tryz.func9,Tryz.ntmps9;go_wp2_with fail;go_ret;exact⟨rfl,bl⟩
end Sm
end Go.Proofs.YtbgodajefaahdaaGreatDoor
