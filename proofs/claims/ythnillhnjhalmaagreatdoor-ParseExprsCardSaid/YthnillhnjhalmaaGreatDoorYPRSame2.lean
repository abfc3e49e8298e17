/-
  Parts of this proof: The contract of the reference's Same. The contract of the laws' awake. The law of expressions, walked.
-/
import Derived.Test.YthnillhnjhalmaaGreatDoorYTPart
open Go.Proofs.Tryz
open Go.World renaming cell?->ae
open Option renaming none->V,some->X
open Go.Proofs.Tryz renaming prog->af
open Go.RowKit renaming Below->ag
open Go renaming World->ah
open Go.Lib renaming hid->Y
open Go.RowKit.Below renaming refl->ai
set_option linter.unusedVariables false
set_option maxRecDepth 100000
set_option maxHeartbeats 4000000
open Go.Lib (hid)
namespace Go.Proofs.YthnillhnjhalmaaGreatDoor
namespace Sm
open Go.RowKit
open Na (bs)
open Ex (Ex Gives rC sQ nS pE)
attribute [local go_sem] cs0 cs1 cs2 wo wu wy wB wC wD wE vQ vR vS vT vU vV vW vX vY vZ v_
theorem anu {w:ah} {x y:St} {P Q:Pl} (hx:vK w x P) (hy:vK w y Q):Calls af 27 #[.agg #[.int .i64 x.di.op,.int .i64 x.di.a,.int .i64 x.di.b,.int .i64 x.di.n,.slice P.vp P.vm P.vc,.slice P.wp P.wm P.wc],.agg #[.int .i64 y.di.op,.int .i64 y.di.a,.int .i64 y.di.b,.int .i64 y.di.n,.slice Q.vp Q.vm Q.vc,.slice Q.wp Q.wm Q.wc]] w (Gives (.bool (lW x.di y.di)) w):=by
 have h:=Di.Gv x.di.op x.di.a x.di.b x.di.n P.vp x.di.vs.length P.vc P.wp x.di.ws.length P.wc _ _ y.di.op y.di.a y.di.b y.di.n Q.vp y.di.vs.length Q.vc Q.wp y.di.ws.length Q.wc _ _ w hx.vs hx.ws hy.vs hy.ws;rw[NW,hx.Kr,hx.Kt,hy.Kr,hy.Kt] at h;exact h
def afz (wr:ah) (x y:St) (P Q:Pl) (a b:Value) (wc:ah):Prop:=∃g1 g2:Nat,a=.pointer (X ⟨g1,0,V⟩)/\b=.pointer (X ⟨g2,0,V⟩)/\dG wc g1 x P/\dG wc g2 y Q/\ag wr.heap.size wr wc
theorem aoR (w:ah) (c c':Array Value) (t:TypeId) (o:Obj):((w.alloc (.cells c t)).alloc o).setRow w.heap.size c'=(w.alloc (.cells c' t)).alloc o:=by
 simp only[World.setRow,World.alloc]
 congr 1
 apply Array.ext_getElem?
 intro i;rw[Array.getElem?_modify];by_cases h:w.heap.size=i
 · subst h;rw[if_pos rfl,Array.getElem?_push,Array.getElem?_push];simp[Array.getElem?_push]
 · have h':¬i=w.heap.size:=fun e=>h e.symm;simp[h,h',Array.getElem?_push]
theorem aks (w:ah) (a o:Obj):((w.alloc a).alloc o).heap[w.heap.size]?=X a:=by
 show((w.heap.push a).push o)[w.heap.size]?=X a
 simp[Array.getElem?_push]
theorem Og (x:St) (P:Pl) (z:Array Value) (hz:z.size=21) (W:ah) (o:Obj) (B:Nat) (hB:W.heap.size=B):(storeVar 58 ⟨B,0,V⟩ (.agg (cs x P))).run af ((W.alloc (.cells z 58)).alloc o)=.ok () ((W.alloc (.cells (cs x P) 58)).alloc o):=by
 subst hB;rw[run_storeVar_row _ _ 58 58 z (cs x P) (aks _ _ _) (by rw[Ke];rfl) hz (jV x P),aoR]
theorem ada (x:St) (P:Pl) (z:Array Value) (hz:z.size=21) (W:ah) (o:Obj) (B:Nat) (hB:W.heap.size=B):(storeCells ⟨B,0,V⟩ (cs x P).toList 0).run af ((W.alloc (.cells z 58)).alloc o)=.ok () ((W.alloc (.cells (cs x P) 58)).alloc o):=by
 have h:=Og x P z hz W o B hB;obtain⟨i0,hi0,hi1,hi2,hi3⟩:=amN ajJ
 simpa [storeVar,sizeOf,typeInfo,hi0,Value.cells,hi2,Yg] using h
theorem ac_ (x:St) (P:Pl) (z:Array Value) (hz:z.size=21) (W:ah) (o:Obj) (B:Nat) (hB:W.heap.size=B):(Instr.storeAt 58 (.pointer (X ⟨B,0,V⟩)) (.agg (cs x P))).run af ((W.alloc (.cells z 58)).alloc o)=.ok () ((W.alloc (.cells (cs x P) 58)).alloc o):=by
 simp only[Instr.storeAt,Instr.sureAddr,Sem.run_bind,Sem.run_pure,Result.andThen];exact Og x P z hz W o B hB
theorem apj (x:St) (P:Pl) (z:Array Value) (hz:z.size=21) (W:ah) (o:Obj) (B:Nat) (hB:W.heap.size=B):(storeVar 58 ⟨B,0,V⟩ (.agg (cs x P))).run af ((W.alloc (.cells z 58)).alloc o).drew=.ok () ((W.alloc (.cells (cs x P) 58)).alloc o).drew:=Og x P z hz W.drew o B hB
theorem apc (x:St) (P:Pl) (z:Array Value) (hz:z.size=21) (W:ah) (B:Nat) (hB:W.heap.size=B):(storeVar 58 ⟨B,0,V⟩ (.agg (cs x P))).run af (W.alloc (.cells z 58)).drew=.ok () (W.alloc (.cells (cs x P) 58)).drew:=ac8 x P z hz W.drew B hB
theorem api (x:St) (P:Pl) (z:Array Value) (hz:z.size=21) (W:ah) (o:Obj) (B:Nat) (hB:W.heap.size=B):(storeCells ⟨B,0,V⟩ (cs x P).toList 0).run af ((W.alloc (.cells z 58)).alloc o).drew=.ok () ((W.alloc (.cells (cs x P) 58)).alloc o).drew:=ada x P z hz W.drew o B hB
theorem apb (x:St) (P:Pl) (z:Array Value) (hz:z.size=21) (W:ah) (B:Nat) (hB:W.heap.size=B):(storeCells ⟨B,0,V⟩ (cs x P).toList 0).run af (W.alloc (.cells z 58)).drew=.ok () (W.alloc (.cells (cs x P) 58)).drew:=ac7 x P z hz W.drew B hB
theorem aph (x:St) (P:Pl) (z:Array Value) (hz:z.size=21) (W:ah) (o:Obj) (B:Nat) (hB:W.heap.size=B):(Instr.storeAt 58 (.pointer (X ⟨B,0,V⟩)) (.agg (cs x P))).run af ((W.alloc (.cells z 58)).alloc o).drew=.ok () ((W.alloc (.cells (cs x P) 58)).alloc o).drew:=ac_ x P z hz W.drew o B hB
theorem apa (x:St) (P:Pl) (z:Array Value) (hz:z.size=21) (W:ah) (B:Nat) (hB:W.heap.size=B):(Instr.storeAt 58 (.pointer (X ⟨B,0,V⟩)) (.agg (cs x P))).run af (W.alloc (.cells z 58)).drew=.ok () (W.alloc (.cells (cs x P) 58)).drew:=ac6 x P z hz W.drew B hB
theorem Oo (w:ah) (x y:St) (P Q:Pl):dG ((w.alloc (.cells (cs x P) 58)).alloc (.cells (cs y Q) 58)).drew w.heap.size x P/\dG ((w.alloc (.cells (cs x P) 58)).alloc (.cells (cs y Q) 58)).drew (w.heap.size+1) y Q:=(ap3 (w:=w) x y P Q).out _ (rC (ai _ _))
theorem ato {p:Prop} (h:p:=by
 go_wp2_with fail;go_ret;exact⟨by first|(rw[HR.out];rfl)|(simp[HR.out];done),by with_reducible first|exact P8.out|exact vG.out⟩
 ):p:=h
theorem atf {p:Prop} (h:p:=by
 have HR:=Y (HS.out cz);exact ato
 ):p:=h
theorem atg {p:Prop} (h:p:=by have h1:=P8.out;exact bl):p:=h
theorem aoj (sl:List St):afZ 10 sl:=by
 induction sl using TC with
 | h sl ih=>
  intro l2 p m c p2 m2 c2 w h h2;have HH:=Y h;have xg:=Y h2;have HI:=Y ih;obtain⟨hl,hm⟩:=h.len;obtain⟨hl2,hm2⟩:=h2.len;have HL:=Y hl;have HL2:=Y hl2;clear ih h h2 hl hl2;by_cases hmm:m=m2
  · subst hmm;obtain⟨n21,nT⟩:∃n:Nat,21=n:=⟨_,rfl⟩
    have hsz:∀w,(sizeOf 58).run af w=.ok n21 w:=fun w=>by rw[sizeOf58,nT]
    have lg:=Y nT;clear nT;go_enter func10,ntmps10;go_wp2_with fail;go_loopw [5] (fun i wr=>∃k:Nat,k<=m/\Hid (sl.take k=l2.take k)/\i=.int .i64 (k:Nat)/\Hid (ag w.heap.size w wr)) (fun i _=>m-(intOf i).toNat)
    case atStart=>exact⟨0,Nat.zero_le _,Y rfl,rfl,Y bl⟩
    case round=>
     obtain⟨k,hk,HT0,rfl,HW⟩:=hrel;have k0:(0:Int)<=(k:Int):=by omega
     rcases Nat.lt_or_ge k m with h|h
     · have k1:(k:Int)<(m:Int):=by omega
       obtain⟨b,o',rfl,-,hG,hcell⟩:=HH.out.rows bU;have hkl:k<sl.length:=by rw[HL.out];omega
       obtain⟨P,hc21,xI⟩:=hcell.out k hkl;have hmem:sl[k]∈sl:=List.getElem_mem hkl;have hgx:sl[k]?=X sl[k]:=List.getElem?_eq_getElem hkl;obtain⟨x,hx⟩:∃x,sl[k]=x:=⟨_,rfl⟩
       rw[hx] at hc21 xI hmem hgx;have Ag:=Y xI;have HX:=Y hgx;have HM:=Y hmem;have hcw:=(hc21.on HW.out hG).at lg.out;have hbr:b<wr.heap.size:=Nat.lt_of_lt_of_le hG HW.out.size;have hcsz:(cs x P).size=n21:=lg.out;have ld1:=(hcw).gJ lg.out;have pI:=(hcw).loadVar;have pJ:=(hcw).loadAt;have st1:=Kg x P;have st2:=Ki x P;have qZ:=Kh x P;have PV:=Y hcw;clear hcell hc21 xI hx hmem hgx hkl hcw;obtain⟨b2,o2,rfl,-,hG2,hcell2⟩:=xg.out.rows bU;have oG:k<l2.length:=by rw[HL2.out];omega
       obtain⟨Q,hcy,hsy⟩:=hcell2.out k oG;have BJ:l2[k]?=X l2[k]:=List.getElem?_eq_getElem oG;obtain⟨y,hy⟩:∃y,l2[k]=y:=⟨_,rfl⟩
       rw[hy] at hcy hsy BJ;have aar:=(hcy.on HW.out hG2).at lg.out;have aap:b2<wr.heap.size:=Nat.lt_of_lt_of_le hG2 HW.out.size;have akq:(cs y Q).size=n21:=lg.out;have akj:b<wr.heap.size:=hbr;have FL:Hid (∀W,ag wr.heap.size wr W->(loadCellsFrom ⟨b,o'+k*n21,V⟩ 0 n21 #[]).run af W=.ok (cs x P) W/\(loadCellsFrom ⟨b2,o2+k*n21,V⟩ 0 n21 #[]).run af W=.ok (cs y Q) W):=Y fun W hb=>⟨(PV.out.on hb hbr).gJ lg.out,(aar.on hb aap).gJ lg.out⟩
       have sp1:=ac7;have sp2:=ac8;have sp3:=ac6;have sp4:=ada;have sp5:=Og;have sp6:=ac_;have sp7:=api;have sp8:=apj;have sp9:=aph;have sq7:=apb;have sq8:=apc;have sq9:=apa;clear ld1 pI pJ st1 st2 qZ;have HSY:=Y hsy;have HS:=Y (aov HX.out BJ);have HE:=Y (apP HX.out BJ);have HI1:=Y (HI.out x HM.out).1;have HI2:=Y (HI.out x HM.out).2;clear hcell2 oG hcy hsy BJ hy aar
       go_upto_region 6 with fail
       go_cut [6,7] from 13 to 98 (afz wr x y P Q)
       case first=>
        go_region_held3 (fun w'=>(loadCellsFrom ⟨b,o'+k*n21,V⟩ 0 n21 #[]).run af w'=.ok (cs x P) w'/\(loadCellsFrom ⟨b2,o2+k*n21,V⟩ 0 n21 #[]).run af w'=.ok (cs y Q) w') (first|(refine FL.out _ ?_;exact bl;done)|(go_keep;done)) (fail)
        all_goals
         go_wp2_with fail
         go_meet
         first
          | exact⟨_,_,rfl,rfl,(Oo wr x y P Q).1,(Oo wr x y P Q).2,bl⟩
          | exact⟨_,_,rfl,rfl,(Oo wr y x Q P).2,(Oo wr y x Q P).1,bl⟩
       case rest=>
        obtain⟨g1,g2,rfl,rfl,B1,B2,hBc⟩:=hcut
        rename_i wc
        have FX:Hid (∀W,ag wc.heap.size wc W->dG W g1 x P/\dG W g2 y Q):=Y fun W hb=>⟨B1.on hb,B2.on hb⟩
        have P8:Hid (ag w.heap.size w wc):=Y (by have h1:=HW.out;exact bl);have vH:Hid (∀W,ag wc.heap.size wc W->vK W x P/\vK W y Q):=Y fun W hb=>by
         have hbb:ag w.heap.size w W:=sQ P8.out hb;exact⟨Ag.out.on hbb,HSY.out.on hbb⟩
        clear B1 B2 hBc sp1 sp2 sp3 sp4 sp5 sp6 sp7 sp8 sp9 sq7 sq8 sq9 FL hcsz akq PV hbr aap akj;have q:=FX.out wc (ai _ _);have c0:=q.1.c0;have c1:=q.1.c1;have c2:=q.1.c2;have c18:=q.1.c18;have c3:=q.1.c3;have c4:=q.1.c4;have c5:=q.1.c5;have c6:=q.1.c6;have d0:=q.2.c0;have d1:=q.2.c1;have d2:=q.2.c2;have d18:=q.2.c18;have d3:=q.2.c3;have d4:=q.2.c4;have d5:=q.2.c5;have d6:=q.2.c6;clear q;by_cases t1:x.o=y.o
        case neg=>
         have u:=(show(x.o==y.o)=false from beq_eq_false_iff_ne.2 t1)
         have v1:(x.o != y.o)=true:=bne_iff_ne.2 t1;have HR:=Y (HS.out (NZ (by unfold Ba;rw[decide_eq_false t1];simp)));exact ato
        have u1:(x.o==y.o)=true:=beq_iff_eq.2 t1;have v1:(x.o != y.o)=false:=by rw[t1];simp
        by_cases t2:bs x.nm=bs y.nm
        case neg=>
         have u:=pE t2;have v2:=u;have HR:=Y (HS.out (NZ (by unfold Ba;rw[decide_eq_false t2];simp)));exact ato
        have u2:=nS t2;by_cases t3:bs x.f=bs y.f
        case neg=>
         have u:=pE t3;have v3:=u;have HR:=Y (HS.out (NZ (by unfold Ba;rw[decide_eq_false t3];simp)));exact ato
        have u3:=nS t3
        cases t4:(x.fl==y.fl) with
        | false=>
         have v4:(x.fl != y.fl)=true:=by unfold bne;rw[t4];rfl
         have HR:=Y (HS.out (NZ (by unfold Ba;rw[t4];simp)));exact ato
        | true=>
        have v4:(x.fl != y.fl)=false:=by unfold bne;rw[t4];rfl
        have e:zJ x y=(Ex.same x.e y.e&&Ex.same x.g y.g&&Ex.jY x.ar y.ar&&lW x.di y.di&&kK x.bo y.bo&&kK x.el y.el):=by rw[Uq];unfold Ba;rw[decide_eq_true t1,decide_eq_true t2,decide_eq_true t3,t4];simp only[Bool.true_and]
        rw[e] at HS HE;have C1:=Y (fun W (hb:ag wc.heap.size wc W)=>Ex.Gv x.e y.e P.ep P.em P.ec Q.ep Q.em Q.ec W (vH.out W hb).1.e (vH.out W hb).2.e);have C2:=Y (fun W (hb:ag wc.heap.size wc W)=>Ex.Gv x.g y.g P.gp P.gm P.gc Q.gp Q.gm Q.gc W (vH.out W hb).1.g (vH.out W hb).2.g);have C3:=Y (fun W (hb:ag wc.heap.size wc W)=>anG x.ar y.ar P.ap P.am P.ac Q.ap Q.am Q.ac W (vH.out W hb).1.ar (vH.out W hb).2.ar);have C4:=Y (fun W (hb:ag wc.heap.size wc W)=>anu (vH.out W hb).1 (vH.out W hb).2);have C5:=Y (fun W (hb:ag wc.heap.size wc W)=>HI1.out y.bo P.bp P.bm P.bc Q.bp Q.bm Q.bc W (vH.out W hb).1.bo (vH.out W hb).2.bo);have C6:=Y (fun W (hb:ag wc.heap.size wc W)=>HI2.out y.el P.lp P.lm P.lc Q.lp Q.lm Q.lc W (vH.out W hb).1.el (vH.out W hb).2.el);obtain⟨b1,hb1⟩:∃v,Ex.same x.e y.e=v:=⟨_,rfl⟩
        rw[hb1] at C1 HS HE;obtain⟨b2,hb2⟩:∃v,Ex.same x.g y.g=v:=⟨_,rfl⟩
        rw[hb2] at C2 HS HE;obtain⟨b3,hb3⟩:∃v,Ex.jY x.ar y.ar=v:=⟨_,rfl⟩
        rw[hb3] at C3 HS HE;obtain⟨b4,hb4⟩:∃v,lW x.di y.di=v:=⟨_,rfl⟩
        rw[hb4] at C4 HS HE;obtain⟨b5,hb5⟩:∃v,kK x.bo y.bo=v:=⟨_,rfl⟩
        rw[hb5] at C5 HS HE;obtain⟨b6,hb6⟩:∃v,kK x.el y.el=v:=⟨_,rfl⟩
        rw[hb6] at C6 HS HE;clear hb1 hb2 hb3 hb4 hb5 hb6 e t1 t2 t3;go_wp2_with fail;clear c0 d0 c1 d1 c2 d2 c18 d18 c3 d3 c4 d4 c5 d5 c6 d6;refine(C1.out _ bl).mono ?_;rintro e w1 ⟨rfl,hw1⟩;have vG:Hid (ag w.heap.size w w1):=Y atg
        cases b1 with
        | false=>
         exact atf
        | true=>
        clear vG;have q:=FX.out w1 bl;have c7:=q.1.c7;have d7:=q.2.c7;have c8:=q.1.c8;have d8:=q.2.c8;have c9:=q.1.c9;have d9:=q.2.c9;have c10:=q.1.c10;have d10:=q.2.c10;clear q;go_wp2_with fail;clear c7 d7 c8 d8 c9 d9 c10 d10;refine(C2.out _ bl).mono ?_;rintro e w2 ⟨rfl,hw2⟩;have vG:Hid (ag w.heap.size w w2):=Y atg
        cases b2 with
        | false=>
         exact atf
        | true=>
        clear vG;have q:=FX.out w2 bl;have c11:=q.1.c11;have d11:=q.2.c11;clear q;go_wp2_with fail;clear c11 d11;refine(C3.out _ bl).mono ?_;rintro e w3 ⟨rfl,hw3⟩;have vG:Hid (ag w.heap.size w w3):=Y atg
        cases b3 with
        | false=>
         exact atf
        | true=>
        clear vG;have q:=FX.out w3 bl;have c12:=q.1.c12;have d12:=q.2.c12;have c13:=q.1.c13;have d13:=q.2.c13;have c14:=q.1.c14;have d14:=q.2.c14;have c15:=q.1.c15;have d15:=q.2.c15;have c16:=q.1.c16;have d16:=q.2.c16;have c17:=q.1.c17;have d17:=q.2.c17;clear q;go_wp2_with fail;clear c12 d12 c13 d13 c14 d14 c15 d15 c16 d16 c17 d17;refine(C4.out _ bl).mono ?_;rintro e w4 ⟨rfl,hw4⟩;have vG:Hid (ag w.heap.size w w4):=Y atg
        cases b4 with
        | false=>
         exact atf
        | true=>
        clear vG;have q:=FX.out w4 bl;have c19:=q.1.c19;have d19:=q.2.c19;clear q;go_wp2_with fail;clear c19 d19;refine(C5.out _ bl).mono ?_;rintro e w5 ⟨rfl,wI⟩;have vG:Hid (ag w.heap.size w w5):=Y atg
        cases b5 with
        | false=>
         exact atf
        | true=>
        clear vG;have q:=FX.out w5 bl;have c20:=q.1.c20;have d20:=q.2.c20;clear q;go_wp2_with fail;clear c20 d20;refine(C6.out _ bl).mono ?_;rintro e w6 ⟨rfl,hw6⟩;have vG:Hid (ag w.heap.size w w6):=Y atg
        cases b6 with
        | false=>
         exact atf
        | true=>
        have HR:=Y (HE.out cz HT0.out);go_wp2_with fail;go_roundw
        case rel=>exact⟨k+1,by omega,HR,by go_num,vG⟩
        case measure=>simp[intOf];omega
     · obtain rfl:m=k:=by omega
       have HR:Hid (kK sl l2=true):=Y (by
        have h1:=HT0.out;rw[List.take_of_length_le t_,List.take_of_length_le (by rw[HL2.out];exact Nat.le_refl _)] at h1;rw[h1];exact aou _)
       exact K7
  · rw[aot Ht];have t1:((m:Int)==(m2:Int))=false:=beq_eq_false_iff_ne.2 bU;have t2:((m:Int) != (m2:Int))=true:=bne_iff_ne.2 bU;clear hmm;go_enter func10,ntmps10;exact dS
end Sm
namespace Ps
open Go.RowKit
open Lx (bs mt)
open Ex (Ex Gives In iw sQ bW)
open Sm (St dE qB cs pQ zD)
open Md (Rw bX)
theorem MG {s:ByteArray} {q:Ex×Int×Int} (h:nD (bs s)=q) (w:ah) (hE:Nu.Env w) (hs:s.size<=1000000):Calls af 5 #[.string s] w (EO q w):=by rw[← h];exact Zv s w bU hE
theorem ade {s:ByteArray} {q:List St×Int×Int} (h:Eo (bs s)=q) (w:ah) (hE:Nu.Env w) (hs:s.size<=1000000):Calls af 9 #[.string s] w (SO q w):=by rw[← h];exact apG s w bU hE
theorem abE {s:ByteArray} {q:Md.dM×Int×Int} (h:En (bs s)=q) (w:ah) (hE:Nu.Env w) (hs:s.size<=1000000):Calls af 8 #[.string s] w (MO q w):=by rw[← h];exact amI s w bU hE
abbrev TX:TypeId:=26
abbrev aw1 (w:ah):ah:=w.alloc (.cells #[.int .i64 1,.string ⟨#[]⟩,.int .i64 3,.slice V 0 0] 26)
abbrev LB (w:ah):ah:=(aw1 w).alloc (.cells #[.int .i64 3,.string ⟨#[120]⟩,.int .i64 0,.slice V 0 0] 26)
abbrev Ik (w:ah):ah:=(LB w).alloc (.cells #[.int .i64 1,.string ⟨#[]⟩,.int .i64 1,.slice V 0 0,.int .i64 1,.string ⟨#[]⟩,.int .i64 2,.slice V 0 0] 26)
abbrev Qy (w:ah):ah:=(Ik w).alloc (.cells #[.int .i64 10,.string ⟨#[]⟩,.int .i64 0,.slice (X ⟨w.heap.size+1+1,0,V⟩) 2 2,.int .i64 3,.string ⟨#[120]⟩,.int .i64 0,.slice V 0 0] 26)
abbrev LC (w:ah):ah:=(Qy w).alloc (.cells #[.int .i64 10,.string ⟨#[]⟩,.int .i64 0,.slice (X ⟨w.heap.size+1+1+1,0,V⟩) 2 2] 26)
def RU:Ex:=.mk 10 mt 0 [.mk 10 mt 0 [fo 1 1,fo 1 2],uQ 3 ⟨#[120]⟩]
theorem JO {w W:ah} {t:TypeId} {c:Array Value} (h:ag (w.alloc (.cells c t)).heap.size (w.alloc (.cells c t)) W):ag w.heap.size w W:=sQ (iw (ai _ _)) h
theorem agi {w W:ah} (hb:ag (LC w).heap.size (LC w) W):bX W w.heap.size TX #[.int .i64 1,.string ⟨#[]⟩,.int .i64 3,.slice V 0 0]/\bX W (w.heap.size+1+1+1+1) TX #[.int .i64 10,.string ⟨#[]⟩,.int .i64 0,.slice (X ⟨w.heap.size+1+1+1,0,V⟩) 2 2]/\In W RU (X ⟨w.heap.size+1+1+1,0,V⟩) 2:=by
 have b4:=JO hb;have b3:=JO b4;have b2:=JO b3;have b1:=JO b2;have z2:(LB w).heap.size=w.heap.size+1+1:=by simp
 have z3:(Ik w).heap.size=w.heap.size+1+1+1:=by simp
 have z4:(Qy w).heap.size=w.heap.size+1+1+1+1:=by simp
 have k3:bW (fun _=>True) (Ik w) (.mk 10 mt 0 [fo 1 1,fo 1 2]) (X ⟨(LB w).heap.size,0,V⟩) 2:=wL (w:=LB w) (x:=fo 1 1) (y:=fo 1 2) (p:=V) (q:=V) (m:=0) (n:=0) (c:=0) (d:=0) 10 Ex.bW.zero Ex.bW.zero trivial;rw[z2] at k3;have k4:bW (fun _=>True) (Qy w) RU (X ⟨(Ik w).heap.size,0,V⟩) 2:=wL (w:=Ik w) (x:=.mk 10 mt 0 [fo 1 1,fo 1 2]) (y:=uQ 3 ⟨#[120]⟩) (q:=V) (n:=0) (c:=2) (d:=0) 10 k3 Ex.bW.zero trivial;rw[z3] at k4;refine⟨bX.new.on b1,?_,?_⟩
 · rw[← z4];exact bX.new.on hb
 · exact(Jq k4 (bT.of b4)).all
abbrev Qx (u:ah):ah:=u.alloc (.cells #[.int .i64 1,.string ⟨#[]⟩,.int .i64 3,.slice V 0 0] 26)
abbrev Ij (u:ah) (n:Nat):ah:=(Qx u).alloc (.cells #[.int .i64 5,.string ⟨#[]⟩,.int .i64 0,.slice (X ⟨n,0,V⟩) 1 1] 26)
def ME:Ex:=.mk 5 mt 0 [fo 1 3]
theorem agj {u W:ah} {n:Nat} (hn:u.heap.size=n) (hb:ag (Ij u n).heap.size (Ij u n) W):bX W (n+1) TX #[.int .i64 5,.string ⟨#[]⟩,.int .i64 0,.slice (X ⟨n,0,V⟩) 1 1]/\In W ME (X ⟨n,0,V⟩) 1:=by
 have b1:=JO hb;have z1:(Qx u).heap.size=n+1:=by simp[hn]
 have k1:bW (fun _=>True) (Qx u) ME (X ⟨u.heap.size,0,V⟩) 1:=DY (w:=u) (x:=fo 1 3) (p:=V) (m:=0) (c:=0) 5 Ex.bW.zero trivial;rw[hn] at k1;refine⟨?_,(Jq k1 (bT.of b1)).all⟩;rw[← z1];exact bX.new.on hb
theorem acv {e y:Ex} {b:Bool} (h:Ex.same e y=b) {p:Option Addr} {m c:Nat} {p2:Option Addr} {m2 c2:Nat} {w:ah} (hx:In w e p m) (hy:In w y p2 m2):Calls af 7 #[.agg #[.int .i64 e.o,.string e.s,.int .i64 e.n,.slice p m c],.agg #[.int .i64 y.o,.string y.s,.int .i64 y.n,.slice p2 m2 c2]] w (Gives (.bool b) w):=by
 rw[← h];exact Ex.Gv e y p m c p2 m2 c2 w hx hy
theorem Uh {e y:Ex} {b:Bool} (h:Ex.same e y=b) {o n:Int} {s:ByteArray} (h1:y.o=o) (h2:y.s=s) (h3:y.n=n) {p:Option Addr} {m c:Nat} {p2:Option Addr} {m2 c2:Nat} {w:ah} (hx:In w e p m) (hy:In w y p2 m2):Calls af 7 #[.agg #[.int .i64 e.o,.string e.s,.int .i64 e.n,.slice p m c],.agg #[.int .i64 o,.string s,.int .i64 n,.slice p2 m2 c2]] w (Gives (.bool b) w):=by
 subst h1 h2 h3;exact acv h hx hy
theorem aoi {a b:List St} {v:Bool} (h:Sm.kK a b=v) {p:Option Addr} {m c:Nat} {p2:Option Addr} {m2 c2:Nat} {w:ah} (ha:qB w a p m) (hb:qB w b p2 m2):Calls af 10 #[.slice p m c,.slice p2 m2 c2] w (Gives (.bool v) w):=by
 rw[← h];exact Sm.aoj a b p m c p2 m2 c2 w ha hb
def RV:St:=.mk 6 ⟨#[114]⟩ mt (fo 1 2) (fo 1 1) [] zD true [] []
theorem alq (w:ah):qB (w.alloc (.cells (cs RV P0) 58)) MF (X ⟨w.heap.size,0,V⟩) 1:=by
 have o1:cu 58 21 ll (fun _=>True) (w.alloc (.cells (cs RV P0) 58)) (.slice (X ⟨w.heap.size,0,V⟩) 1 1) [RV]:=cu.one ⟨P0,rfl,pQ.2 ⟨⟨Ex.bW.zero,Ex.bW.zero,Ex.bW.zero,mG,mG⟩,Sm.dE.nil,Sm.dE.nil⟩⟩ ll.map Ev trivial;obtain⟨p,c,e,hrw⟩:=o1.rw ll.map Ev bS;have e1:X (⟨w.heap.size,0,V⟩:Addr)=p:=by injection e
 rw[← e1] at hrw;exact(abA hrw).all
theorem atD {p:Prop} (h:p:=by have q1:=Hz.out;exact bl):p:=h
theorem Xc (w:ah) (hE:Nu.Env w):Calls af 4 #[] w (Gives (.bool true) w):=by
 have HE:=Y hE;clear hE;go_enter func4,ntmps4;go_wp2_with fail;have F0:=Y (fun W (hb:ag (LC w).heap.size (LC w) W)=>agi hb);refine(MG ank _ (HE.out.below bl) bS).mono ?_;rintro e w1 ⟨hb1,p1,m1,c1,rfl,k1⟩;have K1:Hid (∀W,ag w1.heap.size w1 W->In W Ar p1 m1):=Y fun W hW=>(k1.all).on hW;have A1:=Md.far (w:=w1) TX (b_ Ar p1 m1 c1);dsimp only [b_] at A1 ⊢;clear k1;go_wp2_with fail;refine(MG anl _ (HE.out.below bl) bS).mono ?_;rintro e w2 ⟨hb2,p2,m2,c2,rfl,k2⟩;have K2:Hid (∀W,ag w2.heap.size w2 W->In W Au p2 m2):=Y fun W hW=>(k2.all).on hW;have A2:=Md.far (w:=w2) TX (b_ Au p2 m2 c2);dsimp only [b_] at A2 ⊢;clear k2;go_wp2_with fail;refine(MG rd_c _ (HE.out.below bl) bS).mono ?_;rintro e w3 ⟨hb3,p3,m3,c3,rfl,k3⟩;have K3:Hid (∀W,ag w3.heap.size w3 W->In W BF p3 m3):=Y fun W hW=>(k3.all).on hW;have A3:=Md.far (w:=w3) TX (b_ BF p3 m3 c3);dsimp only [b_] at A3 ⊢;clear k3;go_wp2_with fail;refine(MG anm _ (HE.out.below bl) bS).mono ?_;rintro e w4 ⟨hb4,p4,m4,c4,rfl,k4⟩;dsimp only [b_];clear k4;obtain⟨u,hu⟩:∃u,w4.alloc (.cells #[.int .i64 nX.o,.string nX.s,.int .i64 nX.n,.slice p4 m4 c4] 26)=u:=⟨_,rfl⟩
 have hbu:ag w4.heap.size w4 u:=by rw[← hu];exact bl
 have zu:u.heap.size=w4.heap.size+1:=by rw[← hu];simp
 have B0:=(F0.out u bl).1;have t0:ae u ⟨w.heap.size,0,V⟩=X (.int .i64 1):=B0.get rfl;have t1:ae u ⟨w.heap.size,1,V⟩=X (.string ⟨#[]⟩):=B0.get rfl;have t2:ae u ⟨w.heap.size,2,V⟩=X (.int .i64 3):=B0.get rfl;have t3:ae u ⟨w.heap.size,3,V⟩=X (.slice V 0 0):=B0.get rfl;clear B0;obtain⟨U,hU⟩:∃U,(u.alloc (.cells #[.int .i64 1,.string ⟨#[]⟩,.int .i64 3,.slice V 0 0] 26)).alloc (.cells #[.int .i64 5,.string ⟨#[]⟩,.int .i64 0,.slice (X ⟨w4.heap.size+1,0,V⟩) 1 1] 26)=U:=⟨_,rfl⟩
 have zU:U.heap.size=w4.heap.size+1+1+1:=by rw[← hU];simp[zu]
 have hbU:ag u.heap.size u U:=by rw[← hU];exact bl
 have M0:=Y (fun W (hb:ag U.heap.size U W)=>agj (W:=W) zu (by show ag (Ij u (w4.heap.size+1)).heap.size (Ij u (w4.heap.size+1)) W;rw[show Ij u (w4.heap.size+1)=U from hU];exact hb));have M1:=Y (fun W (hb:ag U.heap.size U W)=>F0.out W bl);have M2:=Y (fun W (hb:ag U.heap.size U W)=>K1.out W bl);have M3:=Y (fun W (hb:ag U.heap.size U W)=>K2.out W bl);have M4:=Y (fun W (hb:ag U.heap.size U W)=>K3.out W bl);have N1:=Y (fun W (hb:ag U.heap.size U W)=>A1.out W bl);have N2:=Y (fun W (hb:ag U.heap.size U W)=>A2.out W bl);have N3:=Y (fun W (hb:ag U.heap.size U W)=>A3.out W bl);have HB:Hid (ag w.heap.size w U):=Y bl;have d0:=(M0.out U (ai _ _)).1;have d1:=(M1.out U (ai _ _)).2.1;have d2:=N1.out U (ai _ _);have r0:ae U ⟨w4.heap.size+1+1,0,V⟩=X (.int .i64 5):=d0.get rfl;have r1:ae U ⟨w4.heap.size+1+1,1,V⟩=X (.string ⟨#[]⟩):=d0.get rfl;have r2:ae U ⟨w4.heap.size+1+1,2,V⟩=X (.int .i64 0):=d0.get rfl;have r3:ae U ⟨w4.heap.size+1+1,3,V⟩=X (.slice (X ⟨w4.heap.size+1,0,V⟩) 1 1):=d0.get rfl;have s0:ae U ⟨w.heap.size+1+1+1+1,0,V⟩=X (.int .i64 10):=d1.get rfl;have s1:ae U ⟨w.heap.size+1+1+1+1,1,V⟩=X (.string ⟨#[]⟩):=d1.get rfl;have s2:ae U ⟨w.heap.size+1+1+1+1,2,V⟩=X (.int .i64 0):=d1.get rfl;have s3:ae U ⟨w.heap.size+1+1+1+1,3,V⟩=X (.slice (X ⟨w.heap.size+1+1+1,0,V⟩) 2 2):=d1.get rfl;have a0:ae U ⟨w1.heap.size,0,V⟩=X (.int .i64 Ar.o):=d2.get rfl;have a1:ae U ⟨w1.heap.size,1,V⟩=X (.string Ar.s):=d2.get rfl;have a2:ae U ⟨w1.heap.size,2,V⟩=X (.int .i64 Ar.n):=d2.get rfl;have a3:ae U ⟨w1.heap.size,3,V⟩=X (.slice p1 m1 c1):=d2.get rfl;clear d0 d1 d2 F0 K1 K2 K3 A1 A2 A3 hb1 hb2 hb3 hb4 hbu hbU;go_wp2_with fail;clear r0 r1 r2 r3 s0 s1 s2 s3 a0 a1 a2 a3 t0 t1 t2 t3 hu;have J1:bW (fun _=>True) (U.alloc (.cells #[.int .i64 5,.string ⟨#[]⟩,.int .i64 0,.slice (X ⟨w4.heap.size+1,0,V⟩) 1 1,.int .i64 10,.string ⟨#[]⟩,.int .i64 0,.slice (X ⟨w.heap.size+1+1+1,0,V⟩) 2 2] 26)) Ar (X ⟨U.heap.size,0,V⟩) 2:=wL (w:=U) (x:=ME) (y:=RU) (c:=1) (d:=2) 16 ((M0.out U (ai _ _)).2.mono fun _ _ _=>trivial) ((M1.out U (ai _ _)).2.2.mono fun _ _ _=>trivial) trivial;rw[zU] at J1;refine(Uh (e:=Ar) (y:=Ar) (b:=true) (o:=16) (n:=0) (s:=⟨#[]⟩) dA rfl rfl rfl (M2.out _ bl) (J1.all)).mono ?_;rintro e w5 ⟨rfl,hb5⟩;have Q5:Hid (ag U.heap.size U w5):=Y bl;clear hb5 J1;have d0:=(M0.out w5 Q5.out).1;have d2:=N2.out w5 Q5.out;have r0:ae w5 ⟨w4.heap.size+1+1,0,V⟩=X (.int .i64 5):=d0.get rfl;have r1:ae w5 ⟨w4.heap.size+1+1,1,V⟩=X (.string ⟨#[]⟩):=d0.get rfl;have r2:ae w5 ⟨w4.heap.size+1+1,2,V⟩=X (.int .i64 0):=d0.get rfl;have r3:ae w5 ⟨w4.heap.size+1+1,3,V⟩=X (.slice (X ⟨w4.heap.size+1,0,V⟩) 1 1):=d0.get rfl;have a0:ae w5 ⟨w2.heap.size,0,V⟩=X (.int .i64 Au.o):=d2.get rfl;have a1:ae w5 ⟨w2.heap.size,1,V⟩=X (.string Au.s):=d2.get rfl;have a2:ae w5 ⟨w2.heap.size,2,V⟩=X (.int .i64 Au.n):=d2.get rfl;have a3:ae w5 ⟨w2.heap.size,3,V⟩=X (.slice p2 m2 c2):=d2.get rfl;clear d0 d2;go_wp2_with fail;clear r0 r1 r2 r3 a0 a1 a2 a3;have J2:bW (fun _=>True) (w5.alloc (.cells #[.int .i64 5,.string ⟨#[]⟩,.int .i64 0,.slice (X ⟨w4.heap.size+1,0,V⟩) 1 1] 26)) Au (X ⟨w5.heap.size,0,V⟩) 1:=DY (w:=w5) (x:=ME) (c:=1) 7 ((M0.out w5 Q5.out).2.mono fun _ _ _=>trivial) trivial;refine(Uh (e:=Au) (y:=Au) (b:=true) (o:=7) (n:=0) (s:=⟨#[]⟩) dA rfl rfl rfl (M3.out _ (by have q:=Q5.out;exact bl)) (J2.all)).mono ?_;rintro e w6 ⟨rfl,hb6⟩;have Q6:Hid (ag U.heap.size U w6):=Y (by have q:=Q5.out;exact bl);clear hb6 J2;have d2:=N3.out w6 Q6.out;have a0:ae w6 ⟨w3.heap.size,0,V⟩=X (.int .i64 BF.o):=d2.get rfl;have a1:ae w6 ⟨w3.heap.size,1,V⟩=X (.string BF.s):=d2.get rfl;have a2:ae w6 ⟨w3.heap.size,2,V⟩=X (.int .i64 BF.n):=d2.get rfl;have a3:ae w6 ⟨w3.heap.size,3,V⟩=X (.slice p3 m3 c3):=d2.get rfl;clear d2;go_wp2_with fail;clear a0 a1 a2 a3;refine(Uh (e:=BF) (y:=BF) (b:=true) (o:=1) (n:=-3) (s:=⟨#[]⟩) dA rfl rfl rfl (M4.out _ Q6.out) (Ex.bW.all (G:=fun _=>True) Ex.bW.zero)).mono ?_;rintro e w7 ⟨rfl,I8⟩;have EY:Hid (ag w.heap.size w w7):=Y (by have q1:=HB.out;have q2:=Q6.out;exact bl);clear I8 M0 M1 M2 M3 M4 N1 N2 N3 Q5 Q6 HB;go_wp2_with fail;refine(abE ann _ (HE.out.below EY.out) bS).mono ?_;rintro e w8 ⟨rO,P,rfl,k8⟩;have SI:=k8.si;have hsm:P.yu=1:=SI.1.symm;obtain⟨q,o,hsp,-,hlt,hcc⟩:=Rw.rows SI (by rw[hsm];decide);obtain⟨cc,hc1,hc2,P',rfl,-⟩:=hcc.out 0 bS;have hnm:ae w8 ⟨q,o,V⟩=X (.string ⟨#[97]⟩):=by
  have h:=hc2.get (r:=0) rfl;have e0:o+0*13+0=o:=by omega
  rw[e0] at h;exact h
 have N8:=Y (fun W (hb:ag w8.heap.size w8 W)=>(World.cell?_of_block (w:=w8) (w':=W) (a:=⟨q,o,V⟩) (hb.block q hlt)).trans hnm);have A8:=Md.far (w:=w8) 36 (Md.dX Zu P);have Hz:Hid (ag w.heap.size w w8):=Y (by have q1:=EY.out;exact bl);clear k8 SI hlt hcc hc1 hc2 hnm rO EY;dsimp only [Md.dX] at A8 ⊢;rw[hsp,hsm] at A8;go_wp2_with fail;clear hsp hsm;refine(abE ano _ (HE.out.below atD) bS).mono ?_;rintro e w9 ⟨DR,P9,rfl,k9⟩;clear k9;dsimp only [Md.dX];go_wp2_with fail;refine(ade anp _ (HE.out.below atD) bS).mono ?_;rintro e gG ⟨SC,pM,m10,c10,rfl,k10⟩;clear k10;go_wp2_with fail;refine(ade anq _ (HE.out.below atD) bS).mono ?_;rintro e kM ⟨aki,Gq,m11,c11,rfl,k11⟩;have d8:=A8.out kM bl;have z0:ae kM ⟨w8.heap.size,0,V⟩=X (.string ⟨#[109]⟩):=d8.get rfl;have z2:ae kM ⟨w8.heap.size,2,V⟩=X (.slice (X ⟨q,o,V⟩) 1 P.Cc):=d8.get rfl;have zn:=N8.out kM bl;have afD:Hid (ag w.heap.size w kM):=Y atD;have KS:=Y (fun W (hb:ag kM.heap.size kM W)=>(k11.all).on hb);clear d8 k11 N8 A8 DR SC aki Hz;go_wp2_with fail;have J3:=alq kM;refine(aoi (a:=MF) (b:=MF) (v:=true) dA (KS.out _ bl) J3).mono ?_;rintro e wW ⟨rfl,aao⟩;have afE:Hid (ag w.heap.size w wW):=Y (by have q1:=afD.out;exact sQ (iw q1) aao);clear J3 KS aao z0 z2 zn;go_wp2_with fail;go_ret;exact⟨rfl,afE.out⟩
end Ps
namespace Ps
open Go.RowKit
open Lx (bs)
open Ex (Ex Gives bW)
open Md (bX)
theorem amH (s:ByteArray) (w:ah) (hs:s.size<=140737488355328) (hE:Nu.Env w):Calls af 3 #[.string s] w (Gives (.bool true) w):=by
 have HE:=Y hE;have hs':(s.size:Int)<=9223372036854775807:=by omega
 clear hE;by_cases h1:4000<s.size
 · have q:decide ((4000:Int)<(s.size:Int))=true:=decide_eq_true bU;go_enter func3,ntmps3;go_wp2_with fail;refine(Xc _ (HE.out.below bl)).mono ?_;rintro e' wz ⟨rfl,hbz⟩;exact dS
 · have q:decide ((4000:Int)<(s.size:Int))=false:=decide_eq_false bU;have HZ:Hid (s.size<=4000):=Y bU;obtain⟨⟨x,l,d⟩,hq⟩:∃q,nD (bs s)=q:=⟨_,rfl⟩
   have CP:=Y (fun W (hW:Nu.Env W)=>Zv s W bU hW);have CR:=Y (fun W=>anF s W bU);rw[hq] at CP CR;have hdd:(d==d)=true:=by simp
   clear hq h1;go_enter func3,ntmps3;go_wp2_with fail;refine(CP.out _ (HE.out.below bl)).mono ?_;rintro e' w1 ⟨b1,p1,m1,c1,rfl,k1⟩;have B1:ag w.heap.size w w1:=bl;have HB1:=Y B1;have Y1:=Y (bX.new (w:=w1) (t:=26) (c:=#[.int .i64 x.o,.string x.s,.int .i64 x.n,.slice p1 m1 c1]));have K1:Hid (bW (fun b=>b<w1.heap.size) w1 x p1 m1):=Y (k1.mono fun b _ hlt=>hlt);clear b1 B1 k1;dsimp only [b_];go_wp2_with fail;refine(CR.out _).mono ?_;rintro e' w2 ⟨b2,p2,m2,c2,rfl,k2⟩;have B2:ag w1.heap.size w1 w2:=⟨b2.os,b2.tape,b2.output,by have h:=b2.size;simp at h;omega,fun k hk=>(b2.block k vD).trans (by show(w1.heap.push _)[k]?=_;rw[Array.getElem?_push,if_neg bU])⟩
   replace HB1:Hid (ag w.heap.size w w2):=Y (by have q1:=HB1.out;exact bl);replace K1:Hid (bW (fun b=>b<w1.heap.size) w2 x p1 m1):=Y (Ex.bW.map B2.size (fun b hb hlt=>⟨hb,B2.block b hlt⟩) _ K1.out);replace Y1:=Y (Y1.out.on b2);have CW:=Y k2;have l0:ae _ ⟨w1.heap.size,0,V⟩=X (.int .i64 x.o):=Y1.out.get rfl;have l1:ae _ ⟨w1.heap.size,1,V⟩=X (.string x.s):=Y1.out.get rfl;have l2:ae _ ⟨w1.heap.size,2,V⟩=X (.int .i64 x.n):=Y1.out.get rfl;have l3:ae _ ⟨w1.heap.size,3,V⟩=X (.slice p1 m1 c1):=Y1.out.get rfl;have hy1:=Y1.out.lt;have up:∀(G:Nat->Prop) (p:Option Addr) (m:Nat),bW G w2 x p m->Ex.In (w2.alloc (.cells #[.int .i64 x.o,.string x.s,.int .i64 x.n,.slice p2 m2 c2] 26)) x p m:=fun G p m h=>bW.all (Ex.bW.map (H:=G) cz (fun b hb hlt=>⟨hb,by show(w2.heap.push _)[b]?=_;rw[Array.getElem?_push,if_neg bU]⟩) _ h);have CS:=Y (acv (c:=c1) (c2:=c2) (Ex.N_ x) (up _ _ _ K1.out) (up _ _ _ CW.out));clear b2 B2 k2 up;dsimp only [b_];go_wp2_with fail;refine(CS.out).mono ?_;rintro e' w3 ⟨rfl,b3⟩;have HB3:Hid (ag w.heap.size w w3):=Y (by have q1:=HB1.out;exact bl);clear b3 l0 l1 l2 l3;go_wp2_with fail;refine(Xc _ (HE.out.below (by have q1:=HB3.out;exact bl))).mono ?_;rintro e' wz ⟨rfl,hbz⟩;have HBZ:Hid (ag w.heap.size w wz):=Y (by have q1:=HB3.out;exact bl);clear hbz;go_wp2_with fail;go_ret;exact⟨rfl,HBZ.out⟩
end Ps
end Go.Proofs.YthnillhnjhalmaaGreatDoor
