/-
  Parts of this proof: The contract of the reader's seize. The contract of the reader's statement, where it. The contracts of the reader's loop and choice. The contract of the reader's statements, where a. The contract of the reader's statements, by leve.
-/
import Derived.Test.YthnillhnjhalmaaGreatDoorYTSta
import Derived.Test.YthnillhnjhalmaaGreatDoorYTEnd
open Go.Proofs.Tryz
open Option renaming none->U,some->ak
open Go.World renaming setCell->ae,cell?->ah,frozen?->au
open Go.Lib renaming hid->V
open Go renaming bodyPost_ret->af,World->ai,Calls->av
open Go.Proofs.Tryz renaming prog->ag
open Nat renaming le_refl->aj
set_option linter.unusedVariables false
set_option maxRecDepth 100000
set_option maxHeartbeats 4000000
open Go.Lib (hid)
namespace Go.Proofs.YthnillhnjhalmaaGreatDoor
namespace Ps
open Ps.P (rt bd acc exp)
open Go.RowKit
open Lx (Tk mt)
open Ex (Ex bW)
open Sm (St dC Pl cs pQ zD)
open Md (bX)
theorem ahN {o:Int} {t u:List Tk} {x:St} (h:run (uu o) t=.ok x u):∃s e,x=fJ o s mt e/\∀{α:Type} (K:ByteArray->Ex->P α),run (bd f_ fun s=>bd jO fun e=>K s e) t=run (K s e) u:=by
 unfold uu at h
 cases hn:run f_ t with
 | no v=>rw[eU hn] at h;cases h
 | ok s v=>
  rw[dN hn] at h
  cases he:run jO v with
  | no v2=>rw[eU he] at h;cases h
  | ok e v2=>
   rw[dN he,jX] at h;cases h
   exact⟨s,e,rfl,fun K=>by rw[dN hn,dN he]⟩
theorem ahM {o:Int} {t u:List Tk} (h:run (uu o) t=.no u) {α:Type} (K:ByteArray->Ex->P α):run (bd f_ fun s=>bd jO fun e=>K s e) t=.no u:=by
 unfold uu at h
 cases hn:run f_ t with
 | no v=>rw[eU hn] at h ⊢; cases h;rfl
 | ok s v=>
  rw[dN hn] at h ⊢
  cases he:run jO v with
  | no v2=>rw[eU he] at h ⊢; cases h;rfl
  | ok e v2=>rw[dN he,jX] at h;cases h
def PG (P:Pl) (p:Option Addr) (m c:Nat):Pl:={ P with gp:=p,gm:=m,gc:=c }
theorem aoZ {G:Nat->Prop} {w:ai} {s:ByteArray} {e x:Ex} {P:Pl} {p:Option Addr} {m c:Nat} {b:Bool} (h:dC G w (fJ 6 s mt e) P) (hx:bW G w x p m):dC G w (.mk 6 s mt e x [] zD b [] []) (PG P p m c):=by
 obtain⟨⟨h1,-,h3,h4,h5⟩,h6,h7⟩:=pQ.1 h;exact pQ.2 ⟨⟨h1,hx,h3,h4,h5⟩,h6,h7⟩
section
variable {L:Lk} {g:Nat} {t:List Tk}
theorem ara {p:Prop} (h:p:=by first|(left;simp;done)|(left;simp;omega)|(right;simp;done)|(right;simp;omega)):p:=h
theorem aoM (w:ai) (hR:Rd L g t w):av ag 163 #[.pointer (ak ⟨g,0,U⟩)] w (PO L g xu (run (bd f_ fun s=>bd jO fun e=>bd (exp aa0) fun _=>bd jO fun g=>bd (acc Tn (rt true) (rt false)) fun b=>rt (St.mk 6 s mt e g [] zD b [] [])) t) w):=by
 refine eD hR ?_;clear hR;intro r HS HR HB hg;have Z:=EW w;have hz0:=Z.out.lt;go_enter func163,ntmps163;go_wp2_with fail;refine(Fy 6 _ (HR.out.low qe)).mono ?_;rintro ee w1 h1;rcases h1.cases with⟨x1,u1,v1,r1,rfl,b1,V1,R1⟩|⟨u1,r1,rfl,b1⟩
 rotate_left 1
 · have bZ:=HB.out;go_wp2_with fail;exact⟨rfl,PO.no (HS.out.symm.trans (ahM r1 _)) qe⟩
 obtain⟨s,e,rfl,hK⟩:=ahN r1;replace HS:=V ((hK _).symm.trans HS.out);replace Z:=bV Z w1;obtain⟨P1,rfl,k1⟩:=V1;have KS:Hid (dC (fun b=>w.heap.size<b) w1 (fJ 6 s mt e) P1):=V (k1.mono fun b hb hlt=>(by have hb':_<=b:=hb;simp at hb';omega));replace HB:=dJ HB w1;replace HR:=V R1;clear b1 R1;clear k1 h1 r1 hK;have hz1:=Z.out.lt;have Y:=V (bX.new (w:=w1) (t:=58) (c:=cs (fJ 6 s mt e) P1));go_wp2_with (refine Ox rfl _ _ rfl _ (cs (fJ 6 s mt e) P1) rfl rfl rfl rfl (Sm.jV _ _) ?_)
 refine po HS HB (gX _ _ (HR.out.low qe) bS) ?_;clear HS HB HR;rintro x3 u3 v3 w3-HS b3 rfl HR HB;replace Z:=bV Z w3;replace Y:=bV Y w3;have QP:Hid (bT (fun b=>b<w1.heap.size/\w.heap.size<b) w1 w3):=V qe;clear b3;have KP:Hid (dC (fun b=>w.heap.size<b/\¬b=w1.heap.size) w3 (fJ 6 s mt e) P1):=V (by
  have q:=QP.out;exact Sm.dC.map q.size (fun b hb hlt=>⟨⟨hb,by omega⟩,q.block b hlt ⟨hlt,hb⟩⟩) _ KS.out)
 clear QP;clear KS;have hz3:=Z.out.lt;have hy3:=Y.out.lt;go_wp2_with fail;refine po HS HB (Be _ (HR.out.low qe)) ?_;clear HS HB HR;rintro x4 u4 v4 w4-HS b4 ⟨p4,m4,c4,rfl,k4⟩ HR HB;replace Z:=bV Z w4;replace Y:=bV Y w4;replace KP:=V (Sm.dC.map b4.size (fun b hb hlt=>⟨hb,bT.block (S:=fun b=>w.heap.size<b/\¬b=w1.heap.size) qe b hlt hb⟩) _ KP.out);clear b4;have K4:Hid (∀z,dC (fun b=>w.heap.size<b/\¬b=w1.heap.size) ((((w4.setCell ⟨w1.heap.size,7,U⟩ (.int .i64 x4.o)).setCell ⟨w1.heap.size,8,U⟩ (.string x4.s)).setCell ⟨w1.heap.size,9,U⟩ (.int .i64 x4.n)).setCell ⟨w1.heap.size,10,U⟩ (.slice p4 m4 c4)) (.mk 6 s mt e x4 [] zD z [] []) (PG P1 p4 m4 c4)):=V fun z=>by
  have q:bT (fun b=>w.heap.size<b/\¬b=w1.heap.size) w4 ((((w4.setCell ⟨w1.heap.size,7,U⟩ (.int .i64 x4.o)).setCell ⟨w1.heap.size,8,U⟩ (.string x4.s)).setCell ⟨w1.heap.size,9,U⟩ (.int .i64 x4.n)).setCell ⟨w1.heap.size,10,U⟩ (.slice p4 m4 c4)):=by exact qe
  exact Sm.dC.map q.size (fun b hb hlt=>⟨hb,q.block b hlt hb⟩) _ (aoZ KP.out (k4.mono fun b hb hlt=>by
   have hb':w3.heap.size<=b:=hb;exact⟨by omega,by omega⟩))
 clear KP k4;dsimp only [b_];have l7:ah _ ⟨_,7,U⟩=ak (.int .i64 0):=Y.out.get rfl;have l8:ah _ ⟨_,8,U⟩=ak (.string ⟨#[]⟩):=Y.out.get rfl;have l9:ah _ ⟨_,9,U⟩=ak (.int .i64 0):=Y.out.get rfl;have l10:ah _ ⟨_,10,U⟩=ak (.slice P1.gp P1.gm P1.gc):=Y.out.get rfl;have fy:∀i,au _ ⟨_,i,U⟩=false:=fun i=>eu (i:=i) Y.out;go_wp2_with fail;replace Y:=V (eX (i:=7) (v:=.int .i64 x4.o) Y.out);replace Z:=V (cO (w2:=ae w4 ⟨w1.heap.size,7,U⟩ (.int .i64 x4.o)) Z.out qe);replace HR:=V (HR.out.low (w2:=ae w4 ⟨w1.heap.size,7,U⟩ (.int .i64 x4.o)) qe);replace HB:=V (bT.set (p:=⟨w1.heap.size,7,U⟩) (v:=.int .i64 x4.o) HB.out ara);replace Y:=V (eX (i:=8) (v:=.string x4.s) Y.out);replace Z:=V (cO (w2:=ae (w4.setCell ⟨w1.heap.size,7,U⟩ (.int .i64 x4.o)) ⟨w1.heap.size,8,U⟩ (.string x4.s)) Z.out qe);replace HR:=V (HR.out.low (w2:=ae (w4.setCell ⟨w1.heap.size,7,U⟩ (.int .i64 x4.o)) ⟨w1.heap.size,8,U⟩ (.string x4.s)) qe);replace HB:=V (bT.set (p:=⟨w1.heap.size,8,U⟩) (v:=.string x4.s) HB.out ara);replace Y:=V (eX (i:=9) (v:=.int .i64 x4.n) Y.out);replace Z:=V (cO (w2:=ae ((w4.setCell ⟨w1.heap.size,7,U⟩ (.int .i64 x4.o)).setCell ⟨w1.heap.size,8,U⟩ (.string x4.s)) ⟨w1.heap.size,9,U⟩ (.int .i64 x4.n)) Z.out qe);replace HR:=V (HR.out.low (w2:=ae ((w4.setCell ⟨w1.heap.size,7,U⟩ (.int .i64 x4.o)).setCell ⟨w1.heap.size,8,U⟩ (.string x4.s)) ⟨w1.heap.size,9,U⟩ (.int .i64 x4.n)) qe);replace HB:=V (bT.set (p:=⟨w1.heap.size,9,U⟩) (v:=.int .i64 x4.n) HB.out ara);replace Y:=V (eX (i:=10) (v:=.slice p4 m4 c4) Y.out);replace Z:=V (cO (w2:=ae (((w4.setCell ⟨w1.heap.size,7,U⟩ (.int .i64 x4.o)).setCell ⟨w1.heap.size,8,U⟩ (.string x4.s)).setCell ⟨w1.heap.size,9,U⟩ (.int .i64 x4.n)) ⟨w1.heap.size,10,U⟩ (.slice p4 m4 c4)) Z.out qe);replace HR:=V (HR.out.low (w2:=ae (((w4.setCell ⟨w1.heap.size,7,U⟩ (.int .i64 x4.o)).setCell ⟨w1.heap.size,8,U⟩ (.string x4.s)).setCell ⟨w1.heap.size,9,U⟩ (.int .i64 x4.n)) ⟨w1.heap.size,10,U⟩ (.slice p4 m4 c4)) qe);replace HB:=V (bT.set (p:=⟨w1.heap.size,10,U⟩) (v:=.slice p4 m4 c4) HB.out ara);replace Y:Hid (bX ((((w4.setCell ⟨w1.heap.size,7,U⟩ (.int .i64 x4.o)).setCell ⟨w1.heap.size,8,U⟩ (.string x4.s)).setCell ⟨w1.heap.size,9,U⟩ (.int .i64 x4.n)).setCell ⟨w1.heap.size,10,U⟩ (.slice p4 m4 c4)) w1.heap.size 58 (cs (.mk 6 s mt e x4 [] zD false [] []) (PG P1 p4 m4 c4))):=V Y.out;clear l7 l8 l9 l10 fy;refine(dH Tn _ (HR.out.low qe) bS).mono ?_;rintro e w5 ⟨b5,⟨i5,rfl,R5⟩|⟨i5,rfl,R5⟩⟩
 · replace HS:=mI (yz HS i5);replace Z:=bV Z w5;replace Y:=bV Y w5;have K5:Hid (dC (fun b=>w.heap.size<b/\¬b=w1.heap.size) w5 (.mk 6 s mt e x4 [] zD true [] []) (PG P1 p4 m4 c4)):=V (by
    have q:bT (fun b=>w.heap.size<b/\¬b=w1.heap.size) ((((w4.setCell ⟨w1.heap.size,7,U⟩ (.int .i64 x4.o)).setCell ⟨w1.heap.size,8,U⟩ (.string x4.s)).setCell ⟨w1.heap.size,9,U⟩ (.int .i64 x4.n)).setCell ⟨w1.heap.size,10,U⟩ (.slice p4 m4 c4)) w5:=by exact qe
    exact Sm.dC.map q.size (fun b hb hlt=>⟨hb,q.block b hlt hb⟩) _ (K4.out true))
   replace HB:=dJ HB w5;replace HR:=V R5;clear b5 R5;clear i5 K4;have l18:ah _ ⟨_,18,U⟩=ak (.bool false):=Y.out.get rfl;have fy:∀i,au _ ⟨_,i,U⟩=false:=fun i=>eu (i:=i) Y.out;replace Y:=V (eX (i:=18) (v:=.bool true) Y.out);replace Z:=V (cO (w2:=ae w5 ⟨w1.heap.size,18,U⟩ (.bool true)) Z.out qe);replace HR:=V (HR.out.low (w2:=ae w5 ⟨w1.heap.size,18,U⟩ (.bool true)) qe);replace HB:=V (bT.set (p:=⟨w1.heap.size,18,U⟩) (v:=.bool true) HB.out ara);replace Y:Hid (bX (w5.setCell ⟨w1.heap.size,18,U⟩ (.bool true)) w1.heap.size 58 (cs (.mk 6 s mt e x4 [] zD true [] []) (PG P1 p4 m4 c4))):=V Y.out;obtain⟨W,hP⟩:=jM (c:=cs (.mk 6 s mt e x4 [] zD true [] []) (PG P1 p4 m4 c4)) Z.out pU (Sm.jV _ _) rfl;have j4:=hP.bt;have ig:=V hP.box;have j5:=hP.size;go_wp2_with (first|(refine wpList_load_row rfl 58 _ rfl _ rfl 58 _ (0,0) _ Y.out underlying58 rfl dA ?_)|(refine jN rfl 58 _ _ rfl w.heap.size _ rfl rfl hP ?_))
   have q:∀W,bT (fun b=>w.heap.size<b/\¬b=w1.heap.size) w5 W->dC (fun b=>w.heap.size<=b) W (.mk 6 s mt e x4 [] zD true [] []) (PG P1 p4 m4 c4):=fun W q=>Sm.dC.map q.size (fun b hb hlt=>⟨Nat.le_of_lt hb.1,q.block b hlt hb⟩) _ K5.out;have bZ:=HB.out;refine af (v:=.agg (cs (.mk 6 s mt e x4 [] zD true [] []) (PG P1 p4 m4 c4))) ?_ rfl (PO.ok ((dD HS)) qe ⟨(PG P1 p4 m4 c4),rfl,q _ qe⟩ (HR.out.low qe));exact EX
 · replace HS:=mI (yx HS i5);replace Z:=bV Z w5;replace Y:=bV Y w5;have K5:Hid (dC (fun b=>w.heap.size<b/\¬b=w1.heap.size) w5 (.mk 6 s mt e x4 [] zD false [] []) (PG P1 p4 m4 c4)):=V (by
    have q:bT (fun b=>w.heap.size<b/\¬b=w1.heap.size) ((((w4.setCell ⟨w1.heap.size,7,U⟩ (.int .i64 x4.o)).setCell ⟨w1.heap.size,8,U⟩ (.string x4.s)).setCell ⟨w1.heap.size,9,U⟩ (.int .i64 x4.n)).setCell ⟨w1.heap.size,10,U⟩ (.slice p4 m4 c4)) w5:=by exact qe
    exact Sm.dC.map q.size (fun b hb hlt=>⟨hb,q.block b hlt hb⟩) _ (K4.out false))
   replace HB:=dJ HB w5;replace HR:=V R5;clear b5 R5;clear i5 K4;have l18:ah _ ⟨_,18,U⟩=ak (.bool false):=Y.out.get rfl;have fy:∀i,au _ ⟨_,i,U⟩=false:=fun i=>eu (i:=i) Y.out;replace Y:=V (eX (i:=18) (v:=.bool false) Y.out);replace Z:=V (cO (w2:=ae w5 ⟨w1.heap.size,18,U⟩ (.bool false)) Z.out qe);replace HR:=V (HR.out.low (w2:=ae w5 ⟨w1.heap.size,18,U⟩ (.bool false)) qe);replace HB:=V (bT.set (p:=⟨w1.heap.size,18,U⟩) (v:=.bool false) HB.out ara);replace Y:Hid (bX (w5.setCell ⟨w1.heap.size,18,U⟩ (.bool false)) w1.heap.size 58 (cs (.mk 6 s mt e x4 [] zD false [] []) (PG P1 p4 m4 c4))):=V Y.out;obtain⟨W,hP⟩:=jM (c:=cs (.mk 6 s mt e x4 [] zD false [] []) (PG P1 p4 m4 c4)) Z.out pU (Sm.jV _ _) rfl;have j4:=hP.bt;have ig:=V hP.box;have j5:=hP.size;go_wp2_with (first|(refine wpList_load_row rfl 58 _ rfl _ rfl 58 _ (0,0) _ Y.out underlying58 rfl dA ?_)|(refine jN rfl 58 _ _ rfl w.heap.size _ rfl rfl hP ?_))
   have q:∀W,bT (fun b=>w.heap.size<b/\¬b=w1.heap.size) w5 W->dC (fun b=>w.heap.size<=b) W (.mk 6 s mt e x4 [] zD false [] []) (PG P1 p4 m4 c4):=fun W q=>Sm.dC.map q.size (fun b hb hlt=>⟨Nat.le_of_lt hb.1,q.block b hlt hb⟩) _ K5.out;have bZ:=HB.out;refine af (v:=.agg (cs (.mk 6 s mt e x4 [] zD false [] []) (PG P1 p4 m4 c4))) ?_ rfl (PO.ok ((dD HS)) qe ⟨(PG P1 p4 m4 c4),rfl,q _ qe⟩ (HR.out.low qe));exact EX
end
end Ps
namespace Ps
open Ps.P (rt bd acc kw exp)
open Go.RowKit
open Lx (Tk mt)
open Ex (Ex bW)
open Sm (St Dt Ints dE dC Pl cs pQ zE zD)
def PD (vp:Option Addr) (vm vc:Nat) (wp:Option Addr) (wm wc:Nat):Pl:=⟨U,0,0,U,0,0,U,0,0,vp,vm,vc,wp,wm,wc,U,0,0,U,0,0⟩
theorem aoY {G:Nat->Prop} {w:ai} {o:Int} {nm f:ByteArray} {d:Dt} {b:Bool} {vp:Option Addr} {vm vc:Nat} {wp:Option Addr} {wm wc:Nat} (h:Ints G w d.vs vp vm) (h2:Ints G w d.ws wp wm):dC G w (.mk o nm f zE zE [] d b [] []) (PD vp vm vc wp wm wc):=pQ.2 ⟨⟨Ex.bW.zero,Ex.bW.zero,Ex.bW.zero,h,h2⟩,Sm.dE.nil,Sm.dE.nil⟩
def rIf (B:P (List St)):P St:=bd cnd fun e=>bd B fun b=>bd (acc BN (bd fM fun _=>B) (rt [])) fun l=>bd (exp pG) fun _=>rt (.mk 3 mt mt e zE [] zD false b l)
def rWh (B:P (List St)):P St:=bd cnd fun e=>bd B fun b=>bd (exp pG) fun _=>rt (.mk 4 mt mt e zE [] zD false b [])
section
variable {L:Lk} {g:Nat} {t:List Tk}
theorem aqY {p:Prop} (h:p:=by
 exact EX
 ):p:=h
theorem aqQ {p:Prop} (h:p:=by
 clear HB HR;rintro nH wU v71 q_-afK uo ⟨Ql,rfl,BM⟩ HR HB;replace Z:=bV Z q_;clear uo;have afL:=ksU BM w.heap.size;clear BM;obtain⟨W,hP⟩:=jM (c:=cs nH Ql) Z.out pU (Sm.jV _ _) rfl;have j4:=hP.bt;have ig:=V hP.box;have j5:=hP.size;go_wp2_with (refine jN rfl 58 _ _ rfl w.heap.size _ rfl rfl hP ?_)
 have bZ:=HB.out;refine af (v:=.agg (cs (nH) (Ql))) ?_ rfl (PO.ok (afK.out) qe ⟨(Ql),rfl,Ob afL.out qe⟩ (HR.out.low qe));exact aqY
 ):p:=h
theorem apq (B:P (List St)) (w:ai) (hR:Rd L g t w) (hCh:∀W u,Rd L g u W->u.length+1<=t.length->av ag 161 #[.pointer (ak ⟨g,0,U⟩)] W (PO L g xu (run (rIf B) u) W)) (hLo:∀W u,Rd L g u W->u.length+1<=t.length->av ag 162 #[.pointer (ak ⟨g,0,U⟩)] W (PO L g xu (run (rWh B) u) W)):av ag 103 #[.pointer (ak ⟨g,0,U⟩)] w (PO L g xu (run (stt B) t) w):=by
 have HCH:=V hCh;have HLO:=V hLo;have nK:Hid (t.tail.length+1<=t.length):=V (by have:=hR.gd.ne;rw[List.length_tail];omega);clear hCh hLo;refine eD hR ?_;clear hR;intro r HS HR HB hg;have Z:=EW w;go_enter func103,ntmps103;go_wp2_with fail;refine ac HS HB (dH aa9 _ (HR.out.low qe) bS) ?_ ?_
 · clear HS HB HR;rintro iB-HS iq HR HB;replace Z:=bV Z iB;clear iq;go_wp2_with fail;have uK:=Z.out.lt;refine pl HS HB (aoS _ (HR.out.low qe)) ?_;exact aqQ
 clear HS HB HR;rintro w1-HS b1 HR HB;replace Z:=bV Z w1;clear b1;go_wp2_with fail;refine ac HS HB (dH aaR _ (HR.out.low qe) bS) ?_ ?_
 · clear HS HB HR;rintro w2-HS b2 HR HB;replace Z:=bV Z w2;clear b2;go_wp2_with fail;refine po HS HB (jK _ (HR.out.low qe)) ?_;clear HS HB HR;rintro x70 u70 v70 iB-HS iq rfl HR HB;replace Z:=bV Z iB;clear iq;have aqs:=Z.out.lt;go_wp2_with fail;refine po HS HB (Nr _ _ (HR.out.low qe) bS) ?_;clear HS HB HR;rintro nH wU v71 q_-HS uo rfl HR HB;replace Z:=bV Z q_;clear uo;have uK:=Z.out.lt;go_wp2_with fail;refine po HS HB (IE _ (HR.out.low qe)) ?_;clear HS HB HR;rintro zY u72 v72 Bd-HS Im ⟨vp,vm,vc,wp,wm,wc,rfl,kv,kw⟩ HR HB;replace Z:=bV Z Bd;clear Im;have KV:Hid (∀W,bT (fun b=>w.heap.size<b) Bd W->Ints (fun b=>w.heap.size<=b) W zY.vs vp vm/\Ints (fun b=>w.heap.size<=b) W zY.ws wp wm):=V fun W q=>by
    have hk:∀b,(fun b=>q_.heap.size<=b) b->b<Bd.heap.size->(fun b=>w.heap.size<=b) b/\W.heap[b]?=Bd.heap[b]?:=fun b hb hlt=>⟨by show w.heap.size<=b;have hb':q_.heap.size<=b:=hb;omega,q.block b hlt (by have hb':q_.heap.size<=b:=hb;omega)⟩
    exact⟨Sm.Ints.map q.size hk kv,Sm.Ints.map q.size hk kw⟩
   clear kv kw;dsimp only [vO];obtain⟨W,hP⟩:=jM (c:=cs (.mk 2 x70 nH zE zE [] zY false [] []) (PD vp vm vc wp wm wc)) Z.out pU (Sm.jV _ _) rfl;have j4:=hP.bt;have ig:=V hP.box;have j5:=hP.size;go_wp2_with (refine jN rfl 58 _ _ rfl w.heap.size _ rfl rfl hP ?_)
   have bZ:=HB.out;refine af (v:=.agg (cs (.mk 2 x70 nH zE zE [] zY false [] []) (PD vp vm vc wp wm wc))) ?_ rfl (PO.ok ((dD HS)) qe ⟨(PD vp vm vc wp wm wc),rfl,aoY (KV.out _ qe).1 (KV.out _ qe).2⟩ (HR.out.low qe));exact aqY
 clear HS HB HR;rintro w2-HS b2 HR HB;replace Z:=bV Z w2;clear b2;go_wp2_with fail;refine ac HS HB (dH kIf _ (HR.out.low qe) bS) ?_ ?_
 · clear HS HB HR;rintro iB-HS iq HR HB;replace Z:=bV Z iB;clear iq;go_wp2_with fail;have uK:=Z.out.lt;refine pl HS HB (HCH.out _ _ (HR.out.low qe) nK.out) ?_;exact aqQ
 clear HS HB HR;rintro w3-HS b3 HR HB;replace Z:=bV Z w3;clear b3;go_wp2_with fail;refine ac HS HB (dH abn _ (HR.out.low qe) bS) ?_ ?_
 · clear HS HB HR;rintro iB-HS iq HR HB;replace Z:=bV Z iB;clear iq;go_wp2_with fail;have uK:=Z.out.lt;refine pl HS HB (HLO.out _ _ (HR.out.low qe) nK.out) ?_;exact aqQ
 clear HS HB HR;rintro w4-HS b4 HR HB;replace Z:=bV Z w4;clear b4;go_wp2_with fail;refine ac HS HB (dH aaW _ (HR.out.low qe) bS) ?_ ?_
 · clear HS HB HR;rintro iB-HS iq HR HB;replace Z:=bV Z iB;clear iq;go_wp2_with fail;have uK:=Z.out.lt;refine po HS HB (Be _ (HR.out.low qe)) ?_;clear HS HB HR;rintro nH wU v71 q_-HS uo ⟨p71,Ec,Dq,rfl,BM⟩ HR HB;replace Z:=bV Z q_;clear uo;have Ic:=jv BM w.heap.size;clear BM;dsimp only [b_];obtain⟨W,hP⟩:=jM (c:=cs (fJ 5 mt mt nH) (sN p71 Ec Dq)) Z.out pU (Sm.jV _ _) rfl;have j4:=hP.bt;have ig:=V hP.box;have j5:=hP.size;go_wp2_with (refine jN rfl 58 _ _ rfl w.heap.size _ rfl rfl hP ?_)
   have bZ:=HB.out;refine af (v:=.agg (cs (fJ 5 mt mt nH) (sN p71 Ec Dq))) ?_ rfl (PO.ok ((dD HS)) qe ⟨(sN p71 Ec Dq),rfl,Ce (iQ Ic.out qe)⟩ (HR.out.low qe));exact aqY
 clear HS HB HR;rintro w5-HS b5 HR HB;replace Z:=bV Z w5;clear b5;go_wp2_with fail;refine ac HS HB (dH aa7 _ (HR.out.low qe) bS) ?_ ?_
 · clear HS HB HR;rintro iB-HS iq HR HB;replace Z:=bV Z iB;clear iq;go_wp2_with fail;have uK:=Z.out.lt;refine pl HS HB (aoM _ (HR.out.low qe)) ?_;exact aqQ
 clear HS HB HR;rintro w6-HS b6 HR HB;replace Z:=bV Z w6;clear b6;go_wp2_with fail;refine ac HS HB (dH aa3 _ (HR.out.low qe) bS) ?_ ?_
 · clear HS HB HR;rintro iB-HS iq HR HB;replace Z:=bV Z iB;clear iq;go_wp2_with fail;have uK:=Z.out.lt;refine pl HS HB (Fy 7 _ (HR.out.low qe)) ?_;exact aqQ
 clear HS HB HR;rintro w7-HS b7 HR HB;replace Z:=bV Z w7;clear b7;go_wp2_with fail;refine ac HS HB (dH aa1 _ (HR.out.low qe) bS) ?_ ?_
 · clear HS HB HR;rintro iB-HS iq HR HB;replace Z:=bV Z iB;clear iq;go_wp2_with fail;have uK:=Z.out.lt;refine po HS HB (Be _ (HR.out.low qe)) ?_;clear HS HB HR;rintro nH wU v71 q_-HS uo ⟨p71,Ec,Dq,rfl,BM⟩ HR HB;replace Z:=bV Z q_;clear uo;have Ic:=jv BM w.heap.size;clear BM;dsimp only [b_];go_wp2_with fail;refine po HS HB (Nr _ _ (HR.out.low qe) bS) ?_;clear HS HB HR;rintro zY u72 v72 Bd-HS Im rfl HR HB;replace Z:=bV Z Bd;replace Ic:=V (ja (w2:=Bd) Ic.out qe);clear Im;obtain⟨W,hP⟩:=jM (c:=cs (fJ 8 zY mt nH) (sN p71 Ec Dq)) Z.out pU (Sm.jV _ _) rfl;have j4:=hP.bt;have ig:=V hP.box;have j5:=hP.size;go_wp2_with (refine jN rfl 58 _ _ rfl w.heap.size _ rfl rfl hP ?_)
   have bZ:=HB.out;refine af (v:=.agg (cs (fJ 8 zY mt nH) (sN p71 Ec Dq))) ?_ rfl (PO.ok ((dD HS)) qe ⟨(sN p71 Ec Dq),rfl,Ce (iQ Ic.out qe)⟩ (HR.out.low qe));exact aqY
 clear HS HB HR;rintro w8-HS b8 HR HB;replace Z:=bV Z w8;clear b8;go_wp2_with fail;refine ac HS HB (dH aaV _ (HR.out.low qe) bS) ?_ ?_
 · clear HS HB HR;rintro iB-HS iq HR HB;replace Z:=bV Z iB;clear iq;go_wp2_with fail;refine po HS HB (jK _ (HR.out.low qe)) ?_;clear HS HB HR;rintro nH wU v71 q_-HS uo rfl HR HB;replace Z:=bV Z q_;clear uo;go_wp2_with fail;refine po HS HB (Nr _ _ (HR.out.low qe) bS) ?_;clear HS HB HR;rintro zY u72 v72 Bd-HS Im rfl HR HB;replace Z:=bV Z Bd;clear Im;obtain⟨W,hP⟩:=jM (c:=cs (fJ 9 zY nH zE) (P0)) Z.out pU (Sm.jV _ _) rfl;have j4:=hP.bt;have ig:=V hP.box;have j5:=hP.size;go_wp2_with (refine jN rfl 58 _ _ rfl w.heap.size _ rfl rfl hP ?_)
   have bZ:=HB.out;refine af (v:=.agg (cs (fJ 9 zY nH zE) (P0))) ?_ rfl (PO.ok ((dD HS)) qe ⟨(P0),rfl,Ce Ex.bW.zero⟩ (HR.out.low qe));exact aqY
 clear HS HB HR;rintro w9-HS b9 HR HB;replace Z:=bV Z w9;clear b9;go_wp2_with fail;refine ac HS HB (dH aa5 _ (HR.out.low qe) bS) ?_ ?_
 · clear HS HB HR;rintro iB-HS iq HR HB;replace Z:=bV Z iB;clear iq;go_wp2_with fail;refine po HS HB (jK _ (HR.out.low qe)) ?_;clear HS HB HR;rintro nH wU v71 q_-HS uo rfl HR HB;replace Z:=bV Z q_;clear uo;obtain⟨W,hP⟩:=jM (c:=cs (fJ 10 nH mt zE) (P0)) Z.out pU (Sm.jV _ _) rfl;have j4:=hP.bt;have ig:=V hP.box;have j5:=hP.size;go_wp2_with (refine jN rfl 58 _ _ rfl w.heap.size _ rfl rfl hP ?_)
   have bZ:=HB.out;refine af (v:=.agg (cs (fJ 10 nH mt zE) (P0))) ?_ rfl (PO.ok ((dD HS)) qe ⟨(P0),rfl,Ce Ex.bW.zero⟩ (HR.out.low qe));exact aqY
 clear HS HB HR;rintro gG-HS b10 HR HB;replace Z:=bV Z gG;clear b10;go_wp2_with fail;refine ac HS HB (dH abm _ (HR.out.low qe) bS) ?_ ?_
 · clear HS HB HR;rintro iB-HS iq HR HB;replace Z:=bV Z iB;clear iq;go_wp2_with fail;refine po HS HB (jK _ (HR.out.low qe)) ?_;clear HS HB HR;rintro nH wU v71 q_-HS uo rfl HR HB;replace Z:=bV Z q_;clear uo;obtain⟨W,hP⟩:=jM (c:=cs (fJ 11 nH mt zE) (P0)) Z.out pU (Sm.jV _ _) rfl;have j4:=hP.bt;have ig:=V hP.box;have j5:=hP.size;go_wp2_with (refine jN rfl 58 _ _ rfl w.heap.size _ rfl rfl hP ?_)
   have bZ:=HB.out;refine af (v:=.agg (cs (fJ 11 nH mt zE) (P0))) ?_ rfl (PO.ok ((dD HS)) qe ⟨(P0),rfl,Ce Ex.bW.zero⟩ (HR.out.low qe));exact aqY
 clear HS HB HR;rintro kM-HS b11 HR HB;replace Z:=bV Z kM;clear b11;go_wp2_with fail;refine ac HS HB (dH aa_ _ (HR.out.low qe) bS) ?_ ?_
 · clear HS HB HR;rintro iB-HS iq HR HB;replace Z:=bV Z iB;clear iq;go_wp2_with fail;have uK:=Z.out.lt;refine pl HS HB (Fy 12 _ (HR.out.low qe)) ?_;exact aqQ
 clear HS HB HR;rintro wW-HS b12 HR HB;replace Z:=bV Z wW;clear b12;go_wp2_with fail;refine ac HS HB (dH aa8 _ (HR.out.low qe) bS) ?_ ?_
 · clear HS HB HR;rintro iB-HS iq HR HB;replace Z:=bV Z iB;clear iq;go_wp2_with fail;have uK:=Z.out.lt;refine pl HS HB (aoN _ (HR.out.low qe)) ?_;exact aqQ
 clear HS HB HR;rintro GI-HS b13 HR HB;replace Z:=bV Z GI;clear b13;go_wp2_with fail;refine ac HS HB (dH abb _ (HR.out.low qe) bS) ?_ ?_
 · clear HS HB HR;rintro iB-HS iq HR HB;replace Z:=bV Z iB;clear iq;go_wp2_with fail;have uK:=Z.out.lt;refine pl HS HB (Xn 14 ⟨#[]⟩ _ (HR.out.low qe)) ?_;exact aqQ
 clear HS HB HR;rintro w14-HS b14 HR HB;replace Z:=bV Z w14;clear b14;go_wp2_with fail;refine ac HS HB (dH aaY _ (HR.out.low qe) bS) ?_ ?_
 · clear HS HB HR;rintro iB-HS iq HR HB;replace Z:=bV Z iB;clear iq;go_wp2_with fail;have uK:=Z.out.lt;refine pl HS HB (Fy 15 _ (HR.out.low qe)) ?_;exact aqQ
 clear HS HB HR;rintro w15-HS b15 HR HB;replace Z:=bV Z w15;clear b15;go_wp2_with fail;refine ac HS HB (dH Nc _ (HR.out.low qe) bS) ?_ ?_
 · clear HS HB HR;rintro iB-HS iq HR HB;replace Z:=bV Z iB;clear iq;go_wp2_with fail;have uK:=Z.out.lt;refine pl HS HB (Fy 16 _ (HR.out.low qe)) ?_;exact aqQ
 clear HS HB HR;rintro w16-HS b16 HR HB;replace Z:=bV Z w16;clear b16;go_wp2_with fail;refine ac HS HB (dH aaM _ (HR.out.low qe) bS) ?_ ?_
 · clear HS HB HR;rintro iB-HS iq HR HB;replace Z:=bV Z iB;clear iq;go_wp2_with fail;have uK:=Z.out.lt;refine pl HS HB (Fy 17 _ (HR.out.low qe)) ?_;exact aqQ
 clear HS HB HR;rintro w17-HS b17 HR HB;replace Z:=bV Z w17;clear b17;go_wp2_with fail;refine ac HS HB (dH abe _ (HR.out.low qe) bS) ?_ ?_
 · clear HS HB HR;rintro iB-HS iq HR HB;replace Z:=bV Z iB;clear iq;obtain⟨W,hP⟩:=jM (c:=cs (fJ 18 mt mt zE) (P0)) Z.out pU (Sm.jV _ _) rfl;have j4:=hP.bt;have ig:=V hP.box;have j5:=hP.size;go_wp2_with (refine jN rfl 58 _ _ rfl w.heap.size _ rfl rfl hP ?_)
   have bZ:=HB.out;refine af (v:=.agg (cs (fJ 18 mt mt zE) (P0))) ?_ rfl (PO.ok ((dD HS)) qe ⟨(P0),rfl,Ce Ex.bW.zero⟩ (HR.out.low qe));exact aqY
 clear HS HB HR;rintro w18-HS b18 HR HB;replace Z:=bV Z w18;clear b18;go_wp2_with fail;refine(Cw _ (HR.out.low qe)).mono ?_;rintro e U4 ⟨rfl,Qz⟩;have bZ:=HB.out;go_wp2_with fail;exact⟨rfl,PO.no (Oe HS) (by have q:Bt g _ U4:=bT.of Qz;exact qe)⟩
end
end Ps
namespace Ps
open Go.RowKit
open Lx (Tk mt)
open Ex (Ex bW)
open Sm (St dE dC Pl cs pQ zE zD)
open Md (bX)
def Bu (lo:Nat) (w:ai) (l:List St) (v:Value):Prop:=∃p m c,v=.slice p m c/\dE (fun b=>lo<=b) w l p m
def PL (ep:Option Addr) (em ec:Nat) (bp:Option Addr) (bm bc:Nat) (lp:Option Addr) (lm lc:Nat):Pl:=⟨ep,em,ec,U,0,0,U,0,0,U,0,0,U,0,0,bp,bm,bc,lp,lm,lc⟩
theorem Uu {a:Nat} {w w2:ai} {x:St} {P:Pl} (h:dC (fun b=>a<b) w x P) (hb:bT (fun b=>a<b) w w2):dC (fun b=>a<b) w2 x P:=Sm.dC.map hb.size (fun b hg hlt=>⟨hg,hb.block b hlt hg⟩) x h
theorem Jq {S:Nat->Prop} {w w2:ai} {x:Ex} {p:Option Addr} {m:Nat} (h:bW S w x p m) (hb:bT S w w2):bW S w2 x p m:=Ex.bW.map hb.size (fun b hg hlt=>⟨hg,hb.block b hlt hg⟩) x h
theorem JE {S:Nat->Prop} {w w2:ai} {x:List St} {p:Option Addr} {m:Nat} (h:dE S w x p m) (hb:bT S w w2):dE S w2 x p m:=Sm.dE.map hb.size (fun b hg hlt=>⟨hg,hb.block b hlt hg⟩) h
theorem Uv {S:Nat->Prop} {w w2:ai} {x:St} {P:Pl} (h:dC S w x P) (hb:bT S w w2):dC S w2 x P:=Sm.dC.map hb.size (fun b hg hlt=>⟨hg,hb.block b hlt hg⟩) x h
theorem Uw {G:Nat->Prop} {w:ai} {o:Int} {e:Ex} {b l:List St} {ep:Option Addr} {em ec:Nat} {bp:Option Addr} {bm bc:Nat} {lp:Option Addr} {lm lc:Nat} (h:bW G w e ep em) (h2:dE G w b bp bm) (h3:dE G w l lp lm):dC G w (.mk o mt mt e zE [] zD false b l) (PL ep em ec bp bm bc lp lm lc):=pQ.2 ⟨⟨h,Ex.bW.zero,Ex.bW.zero,mG,mG⟩,h2,h3⟩
section
variable {L:Lk} {g:Nat} {t:List Tk}
theorem arT {p:Prop} (h:p:=by
 exact EX
 ):p:=h
theorem alC (B:P (List St)) (w:ai) (hR:Rd L g t w) (hB:∀W u,Rd L g u W->u.length<=t.length->av ag 56 #[.pointer (ak ⟨g,0,U⟩)] W (PO L g Bu (run B u) W)):av ag 162 #[.pointer (ak ⟨g,0,U⟩)] w (PO L g xu (run (rWh B) t) w):=by
 have Lg:=V hB;have HD:Hid (∀x u,run cnd t=.ok x u->u.length<=t.length):=V fun x u h=>by have:=(Mo.out hR.gd h).2;omega
 clear hB;refine eD hR ?_;clear hR;intro r HS HR HB hg;have Z:=EW w;go_enter func162,ntmps162;go_wp2_with fail;have hz0:=Z.out.lt;refine po HS HB (Yf _ (HR.out.low qe)) ?_;clear HS HB HR;rintro x1 u1 v1 w1 r1 HS b1 ⟨p1,m1,c1,rfl,k1⟩ HR HB;replace Z:=bV Z w1;have HT:=V (HD.out _ _ r1);clear b1 r1;have eB:=jv k1 w.heap.size;clear k1;dsimp only [b_];have hz1:=Z.out.lt;go_wp2_with fail;refine po HS HB (Lg.out _ _ (HR.out.low qe) HT.out) ?_;clear HS HB HR;rintro x2 u2 v2 w2-HS b2 ⟨p2,m2,c2,rfl,k2⟩ HR HB;replace Z:=bV Z w2;replace eB:=V (ja (w2:=w2) eB.out qe);clear b2;have hz2:=Z.out.lt;have KS:Hid (dC (fun b=>w.heap.size<b) w2 (.mk 4 mt mt x1 zE [] zD false x2 []) (PL p1 m1 c1 p2 m2 c2 U 0 0)):=V (Uw eB.out (k2.mono fun b hb hlt=>by
  have hb':w1.heap.size<=b:=hb;omega) Sm.dE.nil)
 clear k2 eB;have Y:=V (bX.new (w:=w2) (t:=58) (c:=cs (.mk 4 mt mt x1 zE [] zD false x2 []) (PL p1 m1 c1 p2 m2 c2 U 0 0)));go_wp2_with (refine Ox rfl _ _ rfl _ (cs (.mk 4 mt mt x1 zE [] zD false x2 []) (PL p1 m1 c1 p2 m2 c2 U 0 0)) rfl rfl rfl rfl (Sm.jV _ _) ?_)
 refine po HS HB (gX _ _ (HR.out.low qe) bS) ?_;clear HS HB HR;rintro x3 u3 v3 w3-HS b3 rfl HR HB;replace Z:=bV Z w3;replace Y:=bV Y w3;replace KS:=V (Uu (w2:=w3) KS.out qe);clear b3;obtain⟨W,hP⟩:=jM (c:=cs (.mk 4 mt mt x1 zE [] zD false x2 []) (PL p1 m1 c1 p2 m2 c2 U 0 0)) Z.out pU (Sm.jV _ _) rfl;have j4:=hP.bt;have ig:=V hP.box;have j5:=hP.size;go_wp2_with (first|(refine wpList_load_row rfl 58 _ rfl _ rfl 58 _ (0,0) _ Y.out underlying58 rfl dA ?_)|(refine jN rfl 58 _ _ rfl w.heap.size _ rfl rfl hP ?_))
 have bZ:=HB.out;refine af (v:=.agg (cs (.mk 4 mt mt x1 zE [] zD false x2 []) (PL p1 m1 c1 p2 m2 c2 U 0 0))) ?_ rfl (PO.ok ((dD HS)) qe ⟨(PL p1 m1 c1 p2 m2 c2 U 0 0),rfl,Ob KS.out qe⟩ (HR.out.low qe));exact arT
theorem ahS (B:P (List St)) (hBd:Dn 0 B) (w:ai) (hR:Rd L g t w) (hB:∀W u,Rd L g u W->u.length<=t.length->av ag 56 #[.pointer (ak ⟨g,0,U⟩)] W (PO L g Bu (run B u) W)):av ag 161 #[.pointer (ak ⟨g,0,U⟩)] w (PO L g xu (run (rIf B) t) w):=by
 have Lg:=V hB;have HD:Hid (∀x u,run cnd t=.ok x u->Gd u/\u.length<=t.length):=V fun x u h=>by have:=Mo.out hR.gd h;exact⟨this.1,by omega⟩
 have HD2:Hid (∀x u v,Gd u->run B u=.ok x v->Gd v/\v.length<=u.length):=V fun x u v hg h=>by have:=hBd.out hg h;exact⟨this.1,by omega⟩
 clear hB hBd;refine eD hR ?_;clear hR;intro r HS HR HB hg;have Z:=EW w;go_enter func161,ntmps161;go_wp2_with fail;have hz0:=Z.out.lt;refine po HS HB (Yf _ (HR.out.low qe)) ?_;clear HS HB HR;rintro x1 u1 v1 w1 r1 HS b1 ⟨p1,m1,c1,rfl,k1⟩ HR HB;replace Z:=bV Z w1;have HT:=V (HD.out _ _ r1);clear b1 r1;have eB:=jv k1 w.heap.size;clear k1;dsimp only [b_];have hz1:=Z.out.lt;go_wp2_with fail;refine po HS HB (Lg.out _ _ (HR.out.low qe) HT.out.2) ?_;clear HS HB HR;rintro x2 u2 v2 w2 r2 HS b2 ⟨p2,m2,c2,rfl,k2⟩ HR HB;replace Z:=bV Z w2;replace eB:=V (ja (w2:=w2) eB.out qe);have HT2:=V (HD2.out _ _ _ HT.out.1 r2);clear b2 r2;have hz2:=Z.out.lt;have KL:Hid (dE (fun b=>w.heap.size<b) w2 x2 p2 m2):=V (k2.mono fun b hb hlt=>by
  have hb':w1.heap.size<=b:=hb;omega)
 have KS:Hid (dC (fun b=>w.heap.size<b) w2 (.mk 3 mt mt x1 zE [] zD false x2 []) (PL p1 m1 c1 p2 m2 c2 U 0 0)):=V (Uw eB.out KL.out Sm.dE.nil);clear k2;have Y:=V (bX.new (w:=w2) (t:=58) (c:=cs (.mk 3 mt mt x1 zE [] zD false x2 []) (PL p1 m1 c1 p2 m2 c2 U 0 0)));go_wp2_with (refine Ox rfl _ _ rfl _ (cs (.mk 3 mt mt x1 zE [] zD false x2 []) (PL p1 m1 c1 p2 m2 c2 U 0 0)) rfl rfl rfl rfl (Sm.jV _ _) ?_)
 refine(dH BN _ (HR.out.low qe) bS).mono ?_;rintro e w3 ⟨b3,⟨i3,rfl,R3⟩|⟨i3,rfl,R3⟩⟩
 · replace HS:=jw (yz HS i3);have KE:Hid (bW (fun b=>w.heap.size<b/\¬b=w2.heap.size) w3 x1 p1 m1):=V (Jq (eB.out.mono fun b hb hlt=>⟨hb,by omega⟩) qe);have KM:Hid (dE (fun b=>w.heap.size<b/\¬b=w2.heap.size) w3 x2 p2 m2):=V (JE (KL.out.mono fun b hb hlt=>⟨hb,by omega⟩) qe);replace Z:=bV Z w3;replace Y:=bV Y w3;replace HB:=dJ HB w3;replace HR:=V R3;clear b3 R3;clear i3 eB KL KS;have hz3:=Z.out.lt;have hy3:=Y.out.lt;go_wp2_with fail;refine po HS HB (lF _ (HR.out.low qe)) ?_;clear HS HB;rintro x4 u4 v4 w4 r4 HS b4 rfl R4 HB;replace Z:=bV Z w4;replace Y:=bV Y w4;replace KE:=V (Jq (w2:=w4) KE.out qe);replace KM:=V (JE (w2:=w4) KM.out qe);have P7:=V (nR.out HR.out.gd r4).2;replace HR:=R4;clear b4 r4;have jh:=Z.out.lt;have hy4:=Y.out.lt;go_wp2_with fail;refine po HS HB (Lg.out _ _ (HR.out.low qe) (by have h1:=P7.out;have h2:=HT2.out.2;have h3:=HT.out.2;rw[List.length_tail] at h1;omega)) ?_;clear HS HB HR;rintro x5 u5 v5 w5-HS b5 ⟨p5,m5,c5,rfl,k5⟩ HR HB;replace Z:=bV Z w5;replace Y:=bV Y w5;replace KE:=V (Jq (w2:=w5) KE.out qe);replace KM:=V (JE (w2:=w5) KM.out qe);clear b5;have KA:Hid (dC (fun b=>w.heap.size<b/\¬b=w2.heap.size) (w5.setCell ⟨w2.heap.size,20,U⟩ (.slice p5 m5 c5)) (.mk 3 mt mt x1 zE [] zD false x2 x5) (PL p1 m1 c1 p2 m2 c2 p5 m5 c5)):=V (Uv (Uw KE.out KM.out (k5.mono fun b hb hlt=>by
    have hb':w4.heap.size<=b:=hb;exact⟨by omega,by omega⟩)) qe)
   clear KE KM k5;have l20:ah _ ⟨_,20,U⟩=ak (.slice U 0 0):=Y.out.get rfl;have fy:∀i,au _ ⟨_,i,U⟩=false:=fun i=>eu (i:=i) Y.out;go_wp2_with fail;replace Y:=V (eX (i:=20) (v:=.slice p5 m5 c5) Y.out);replace Z:=V (cO (w2:=ae w5 ⟨w2.heap.size,20,U⟩ (.slice p5 m5 c5)) Z.out qe);replace HR:=V (HR.out.low (w2:=ae w5 ⟨w2.heap.size,20,U⟩ (.slice p5 m5 c5)) qe);replace HB:=V (bT.set (p:=⟨w2.heap.size,20,U⟩) (v:=.slice p5 m5 c5) HB.out (by first|(left;simp;done)|(left;simp;omega)|(right;simp;done)|(right;simp;omega)));replace Y:Hid (bX (w5.setCell ⟨w2.heap.size,20,U⟩ (.slice p5 m5 c5)) w2.heap.size 58 (cs (.mk 3 mt mt x1 zE [] zD false x2 x5) (PL p1 m1 c1 p2 m2 c2 p5 m5 c5))):=V Y.out;clear l20 fy;refine po HS HB (gX _ _ (HR.out.low qe) bS) ?_;clear HS HB HR;rintro x6 u6 v6 w6-HS b6 rfl HR HB;replace Z:=bV Z w6;replace Y:=bV Y w6;replace KA:=V (Uv (w2:=w6) KA.out qe);clear b6;obtain⟨W,hP⟩:=jM (c:=cs (.mk 3 mt mt x1 zE [] zD false x2 x5) (PL p1 m1 c1 p2 m2 c2 p5 m5 c5)) Z.out pU (Sm.jV _ _) rfl;have j4:=hP.bt;have ig:=V hP.box;have j5:=hP.size;go_wp2_with (first|(refine wpList_load_row rfl 58 _ rfl _ rfl 58 _ (0,0) _ Y.out underlying58 rfl dA ?_)|(refine jN rfl 58 _ _ rfl w.heap.size _ rfl rfl hP ?_))
   have q:∀W,bT (fun b=>w.heap.size<b/\¬b=w2.heap.size) w6 W->dC (fun b=>w.heap.size<=b) W (.mk 3 mt mt x1 zE [] zD false x2 x5) (PL p1 m1 c1 p2 m2 c2 p5 m5 c5):=fun W q=>(Uv KA.out q).mono fun b hb _=>Nat.le_of_lt hb.1;have bZ:=HB.out;refine af (v:=.agg (cs (.mk 3 mt mt x1 zE [] zD false x2 x5) (PL p1 m1 c1 p2 m2 c2 p5 m5 c5))) ?_ rfl (PO.ok ((dD HS)) qe ⟨(PL p1 m1 c1 p2 m2 c2 p5 m5 c5),rfl,q _ qe⟩ (HR.out.low qe));exact arT
 · replace HS:=mI (yx HS i3);replace KS:=V (Uu (w2:=w3) KS.out qe);replace Z:=bV Z w3;replace Y:=bV Y w3;replace HB:=dJ HB w3;replace HR:=V R3;clear b3 R3;clear i3 eB KL;go_wp2_with fail;refine po HS HB (gX _ _ (HR.out.low qe) bS) ?_;clear HS HB HR;rintro x4 u4 v4 w4-HS b4 rfl HR HB;replace Z:=bV Z w4;replace Y:=bV Y w4;replace KS:=V (Uu (w2:=w4) KS.out qe);clear b4;obtain⟨W,hP⟩:=jM (c:=cs (.mk 3 mt mt x1 zE [] zD false x2 []) (PL p1 m1 c1 p2 m2 c2 U 0 0)) Z.out pU (Sm.jV _ _) rfl;have j4:=hP.bt;have ig:=V hP.box;have j5:=hP.size;go_wp2_with (first|(refine wpList_load_row rfl 58 _ rfl _ rfl 58 _ (0,0) _ Y.out underlying58 rfl dA ?_)|(refine jN rfl 58 _ _ rfl w.heap.size _ rfl rfl hP ?_))
   have bZ:=HB.out;refine af (v:=.agg (cs (.mk 3 mt mt x1 zE [] zD false x2 []) (PL p1 m1 c1 p2 m2 c2 U 0 0))) ?_ rfl (PO.ok ((dD HS)) qe ⟨(PL p1 m1 c1 p2 m2 c2 U 0 0),rfl,Ob KS.out qe⟩ (HR.out.low qe));exact arT
end
end Ps
namespace Ps
open Go.RowKit
open Lx (Tk)
open Sm (St dE dC cs)
open Md (Rec fC Rw bX Kind iC mH)
def ll:Rec St:=fun G w x c=>∃P,c=cs x P/\dC G w x P
theorem ll.map:fC ll:=by
 intro G H w w2 hs hk x c ⟨P,h1,h2⟩;exact⟨P,h1,Sm.dC.map hs hk x h2⟩
theorem Ev:iC 21 ll:=by
 intro G w x c ⟨P,h1,h2⟩;subst h1;exact⟨rfl,Sm.jV _ _⟩
theorem kSt:Kind 39 58 21:=mH underlying39 (z:=.agg #[.int .i64 0,.string ⟨#[]⟩,.string ⟨#[]⟩,.int .i64 0,.string ⟨#[]⟩,.int .i64 0,.slice U 0 0,.int .i64 0,.string ⟨#[]⟩,.int .i64 0,.slice U 0 0,.slice U 0 0,.int .i64 0,.int .i64 0,.int .i64 0,.int .i64 0,.slice U 0 0,.slice U 0 0,.bool false,.slice U 0 0,.slice U 0 0]) (b:=312) dA bS bS bS
theorem abA {G:Nat->Prop} {w:ai} {l:List St} {p:Option Addr} {m:Nat} (h:Rw 21 ll G w l p m):dE G w l p m:=by
 obtain⟨h1,h2,h3|⟨b,o,rfl,hg,hb,hc⟩⟩:=h
 · exact⟨h1,h2,.inl h3⟩
 · refine⟨h1,h2,.inr ⟨b,o,rfl,hg,hb,V fun i hi=>?_⟩⟩;obtain⟨c,h4,h5,P,rfl,h6⟩:=hc.out i hi;exact⟨P,h5,h6⟩
structure af1 (L:Lk) (g:Nat) (r:R (List St)) (m:P St) (N:Nat) (w:ai) (k:Nat) (v:Value) (wr:ai):Prop where
 ex:∃l u,run (zN m k l) u=r/\u.length<k/\u.length<=N/\l.length+u.length<=30000/\cu 58 21 ll (fun b=>w.heap.size<=b) wr v l/\Rd L g u wr
 bt:Bt g w wr
section
variable {L:Lk} {g:Nat} {t:List Tk}
theorem ayZ {p:Prop} (h:p:=by
 have HW:=V hrw;clear hrw;go_wp2_with fail;go_ret;exact PO.ok (dD HS) HB.out ⟨p,_,c,rfl,abA HW.out⟩ HR.out
 ):p:=h
theorem ayH {p:Prop} (h:p:=by have:=HL.out;omega):p:=h
theorem apr (m:P St) (hm:Dn 1 m) (w:ai) (hR:Rd L g t w) (hC:∀W u,Rd L g u W->u.length<=t.length->av ag 103 #[.pointer (ak ⟨g,0,U⟩)] W (PO L g xu (run m u) W)):av ag 56 #[.pointer (ak ⟨g,0,U⟩)] w (PO L g Bu (run (zN m FU []) t) w):=by
 have ht:=hR.small;have HC:=V hC;have HM:=V hm;clear hC hm;refine eD hR ?_;clear hR;intro r HS HR HB hg;go_enter func56,ntmps56;go_wp2_with fail;go_loopg [3] FU (af1 L g r m t.length w)
 case atStart=>exact⟨⟨[],t,HS.out,by unfold FU;omega,aj _,by simp;omega,cu.nil,HR.out⟩,HB.out⟩
 case round=>
  obtain⟨⟨l,u,hs,hk,hn,hl,ho,hR⟩,hb⟩:=hrel;clear HS HB HR;obtain⟨k,rfl⟩:∃k,gk=k+1:=⟨gk-1,by omega⟩
  rw[zN] at hs;have HL:=V hl;have HK:=V hk;have HN:=V hn;have HO:=V ho;have HR:=V hR;have HB:=V hb;have HS:=V hs;have m_:Hid (∀x v,run m u=.ok x v->Gd v/\v.length+1<=u.length):=V fun x v h=>HM.out.out hR.gd h;have q:=zl (hd u).k (hd u).n (hd u).l (hd u).t;have hup:Hid (∀W,Bt g wr W->cu 58 21 ll (fun b=>w.heap.size<=b) W u3 l):=V fun W hW=>HO.out.up ll.map (hW.mono fun k _ hk=>by have:w.heap.size<=k:=hk;omega) (aj _);clear hl hk hn ho hR hb hs
  cases i1:is pG u
  rotate_left 1
  · replace HS:=EH HS i1;go_wp2_with fail;refine gi HR HB (oM pG _ (HR.out.low qe)) ?_;clear HR HB;rintro w1 b1-HR HB;rw[i1];have B1:=V b1;clear b1;clear i1;obtain⟨p,c,rfl,hrw⟩:=(hup.out w1 B1.out).rw ll.map Ev ayH;exact ayZ
  replace HS:=EG HS i1
  cases i2:is BN u
  rotate_left 1
  · replace HS:=EH HS i2;go_wp2_with fail;refine gi HR HB (oM pG _ (HR.out.low qe)) ?_;clear HR HB;rintro w1 b1-HR HB;rw[i1];have B1:=V b1;clear b1;go_wp2_with fail;refine gi HR HB (oM BN _ (HR.out.low qe)) ?_;clear HR HB;rintro w2 b2-HR HB;rw[i2];have B2:=V (B1.out.trans b2);clear b2;clear i1 i2;obtain⟨p,c,rfl,hrw⟩:=(hup.out w2 B2.out).rw ll.map Ev ayH;exact ayZ
  replace HS:=EG HS i2;by_cases hk0:(hd u).k=0
  · have hk1:((hd u).k != 0)=false:=by simp[hk0]
    replace HS:=Uy HS hk0;clear hk0;go_wp2_with fail;refine gi HR HB (oM pG _ (HR.out.low qe)) ?_;clear HR HB;rintro w1 b1-HR HB;rw[i1];have B1:=V b1;clear b1;go_wp2_with fail;refine gi HR HB (oM BN _ (HR.out.low qe)) ?_;clear HR HB;rintro w2 b2-HR HB;rw[i2];have B2:=V (B1.out.trans b2);clear b2;clear i1 i2;go_wp2_with fail;refine gi HR HB (zP _ (HR.out.low qe)) ?_;clear HR HB;rintro w3 b3-HR HB;have B3:=V (B2.out.trans b3);clear b3;unfold tv;obtain⟨p,c,rfl,hrw⟩:=(hup.out w3 B3.out).rw ll.map Ev ayH;exact ayZ
  · have hk1:((hd u).k != 0)=true:=by simp[hk0]
    replace HS:=Uz HS hk0;clear hk0;go_wp2_with fail;refine gi HR HB (oM pG _ (HR.out.low qe)) ?_;clear HR HB;rintro w1 b1-HR HB;rw[i1];have B1:=V b1;clear b1;go_wp2_with fail;refine gi HR HB (oM BN _ (HR.out.low qe)) ?_;clear HR HB;rintro w2 b2-HR HB;rw[i2];have B2:=V (B1.out.trans b2);clear b2;clear i1 i2;go_wp2_with fail;refine gi HR HB (zP _ (HR.out.low qe)) ?_;clear HR HB;rintro w3 b3-HR HB;have B3:=V (B2.out.trans b3);clear b3;unfold tv;obtain⟨p5,c5,hv⟩:∃p c,u3=.slice p l.length c:=by
     obtain⟨p,c,h,-⟩:=HO.out.rw ll.map Ev ayH;exact⟨p,c,h⟩
    subst hv;go_wp2_with fail;clear q hk1;refine po HS HB (HC.out _ _ (HR.out.low qe) HN.out) ?_;clear HS HR;rintro x4 u4' v4 w4 r4 HS b4 V4 HR B4;have oO:=V (m_.out _ _ r4);have s3:=HB.out.size;have s4:=b4.size;obtain⟨P4,rfl,k4⟩:=V4;have xY:cu 58 21 ll (fun b=>w.heap.size<=b) w4 (.slice p5 l.length c5) l:=(hup.out w4 (B3.out.trans b4))
    have HY:Hid (ll (fun b=>w.heap.size<=b/\¬(Value.slice p5 l.length c5).ownBlock=ak b) (w4.alloc (.cells (cs x4 P4) 58)) x4 (cs x4 P4)):=V ⟨P4,rfl,Sm.dC.map (G:=fun b=>w3.heap.size<=b) cz (fun b hb hlt=>⟨⟨by have hb':w3.heap.size<=b:=hb;omega,fun e=>by have h9:=HO.out.own e;have h8:=B3.out.size;have hb':w3.heap.size<=b:=hb;omega⟩,by show(w4.heap.push _)[b]?=_;rw[Array.getElem?_push,if_neg bU]⟩) _ k4⟩;replace HO:=V xY;replace HB:=B4;clear b4 r4 xY m_ k4 hup;have o4:cu 58 21 ll (fun b=>w.heap.size<=b) (w4.alloc (.cells (cs x4 P4) 58)) (.slice p5 l.length c5) l:=HO.out.up ll.map qe (aj _);have c4:bX (w4.alloc (.cells (cs x4 P4) 58)) w4.heap.size 58 (cs x4 P4):=bX.new;obtain⟨v5,w5,hrun,o5,hg5⟩:=o4.app kSt ll.map Ev c4.cell (x:=x4) HY.out ayH;have B5:Hid (Bt g w w5):=V (bT.grown qh hg5 fun b hb=>.inl (o4.blk b hb));have R5:Hid (Rd L g u4' w5):=V (HR.out.low (bT.grown qe hg5 fun b hb=>.inr CL));have O5:Hid (cu 58 21 ll (fun b=>w.heap.size<=b) w5 v5 (l++[x4])):=V (o5.map ll.map (aj _) fun b hb _=>⟨by
     rcases hb with hb|hb
     · exact hb
     · have e:(w4.alloc (.cells (cs x4 P4) 58)).heap.size=w4.heap.size+1:=by simp
       omega,rfl⟩)
    clear o4 c4 o5 hg5 HB HR HO HY;dsimp only [cs] at hrun ⊢;go_wp2_with (at_builtin;refine Lib.wpList_append_run _ rfl _ _ _ _ rfl _ _ rfl rfl _ _ hrun ?_)
    refine(lF _ R5.out).mono ?_;rintro e w6 h6;rcases h6.cases with⟨x6,u6',v6,r6,rfl,b6,V6,R6⟩|⟨u6',r6,rfl,b6⟩
    rotate_left 1
    · have bZ:=B5.out;go_wp2_with fail;exact⟨rfl,PO.no (fI HS (by assumption)) qe⟩
    have HT6:=V ((nR.out oO.out.1 r6).2);replace HS:=fB HS r6;obtain rfl:=V6;have O6:Hid (cu 58 21 ll (fun b=>w.heap.size<=b) w6 v5 (l++[x4])):=V (O5.out.up ll.map (b6.mono fun k _ hk=>by have:w.heap.size<=k:=hk;omega) (aj _));have B6:Hid (Bt g w w6):=V (by have bZ:=B5.out;exact qe);have R6':=V R6;clear b6 R6 r6 h6 hrun B5 R5 O5;go_wp2_with fail;go_roundg k
    case measure=>omega
    case rel=>
     have h1:=oO.out.2;have h2:=HK.out;have h3:=HN.out;have h4:=HL.out;have h5:=HT6.out;exact⟨⟨_,u6',HS.out,by omega,by omega,by simp at h4 ⊢; omega,O6.out,R6'.out⟩,B6.out⟩
end
end Ps
namespace Ps
open Go.RowKit
open Lx (Tk)
open Sm (dE)
theorem UC (L:Lk) (g:Nat):∀n W u,Rd L g u W->u.length<n->av ag 56 #[.pointer (ak ⟨g,0,U⟩)] W (PO L g Bu (run (fS n) u) W)
 | 0,_,_,_,h=>absurd h (Nat.not_lt_zero _)
 | n+1,W,u,hR,h=>by
  rw[fS];refine apr (stt (fS n)) (YG (Mq n)) W hR fun W1 u1 DL h1=>?_;refine apq (fS n) W1 DL (fun W2 u2 hR2 h2=>?_) (fun W2 u2 hR2 h2=>?_)
  · exact ahS (fS n) (Mq n) W2 hR2 fun W3 u3 SA h3=>UC L g n W3 u3 SA bU
  · exact alC (fS n) W2 hR2 fun W3 u3 SA h3=>UC L g n W3 u3 SA bU
section
variable {L:Lk} {g:Nat} {t:List Tk}
theorem adg (w:ai) (hR:Rd L g t w):av ag 56 #[.pointer (ak ⟨g,0,U⟩)] w (PO L g Bu (run Cj t) w):=UC L g FU w t hR hR.fu
theorem amn (w:ai) (hR:Rd L g t w):av ag 24 #[.pointer (ak ⟨g,0,U⟩)] w (PE g Bu (run JM t) w):=by
 obtain⟨r,hr⟩:∃r,run JM t=r:=⟨_,rfl⟩
 rw[hr];have HS:=V hr;have hg:=hR.blk;have HR:=V hR;have HB:Hid (Bt g w w):=V (bT.refl _ _);clear hR hr;go_enter func24,ntmps24;go_wp2_with fail;refine(adg _ (HR.out.low qe)).mono ?_;rintro e w1 h1;rcases h1.cases with⟨x1,u1,v1,r1,rfl,b1,V1,R1⟩|⟨u1,r1,rfl,b1⟩
 rotate_left 1
 · exact afh
 replace HS:=fB HS r1;obtain⟨p1,m1,c1,rfl,k1⟩:=V1;have KL:=V k1;have hz:w.heap.size<=w1.heap.size:=b1.size;replace HB:=dJ HB w1;replace HR:=V R1;clear b1 R1;clear k1 h1 r1;go_wp2_with fail;refine(RO _ (HR.out.low qe)).mono ?_;rintro e w3 h3;rcases h3.cases with⟨x3,u3,v3,r3,rfl,b3,V3⟩|⟨u3,r3,rfl,b3⟩
 rotate_left 1
 · have bZ:=HB.out;go_wp2_with fail;exact⟨rfl,PE.no (fI HS r3) qe⟩
 replace HS:=fB HS r3;obtain rfl:=V3;have KM:Hid (dE (fun b=>w.heap.size<=b) w3 x1 p1 m1):=V (Sm.dE.map b3.size (fun b hb hlt=>⟨hb,b3.block b hlt (by have hb':w.heap.size<=b:=hb;omega)⟩) KL.out);replace HB:=dJ HB w3;clear b3 r3 h3 KL;go_wp2_with fail;go_ret;exact PE.ok (dD HS) HB.out ⟨p1,m1,c1,rfl,KM.out⟩
end
end Ps
end Go.Proofs.YthnillhnjhalmaaGreatDoor
