/-
  Parts of this proof: The contract of the reader's seize. The contract of the reader's statement, where it. The contracts of the reader's loop and choice. The contract of the reader's statements, where a. The contract of the reader's statements, by leve.
-/
import Derived.Test.YtkpekhpgdajabaaGreatDoorYTStB
open Go.Proofs.Tryz
open Option renaming none->U,some->ak
open Go.World renaming setCell->ae,cell?->ah,frozen?->au
open Go.Lib renaming hid->V
open Go renaming bodyPost_ret->af,World->ai,Calls->av
open Go.Proofs.Tryz renaming prog->ag
open Nat renaming le_refl->aj
set_option linter.unusedVariables false
set_option maxRecDepth 100000
set_option maxHeartbeats 4000000
open Go.Lib (hid)
namespace Go.Proofs.YtkpekhpgdajabaaGreatDoor
namespace Ps
open Ps.P (rt bd acc exp)
open Go.RowKit
open Lx (Tk mt)
open Ex (Ex bX)
open Sm (St dh Pl cs pq zD)
open Md (bU)
theorem agl {o:Int} {t u:List Tk} {x:St} (h:run (sJ o) t=.ok x u):∃s e,x=fC o s mt e/\∀{α:Type} (K:ByteArray->Ex->P α),run (bd fM fun s=>bd ky fun e=>K s e) t=run (K s e) u:=by
 unfold sJ at h
 cases hn:run fM t with
 | no v=>rw[iq hn] at h;cases h
 | ok s v=>
  rw[dK hn] at h
  cases he:run ky v with
  | no v2=>rw[iq he] at h;cases h
  | ok e v2=>
   rw[dK he,zW] at h;cases h
   exact⟨s,e,rfl,fun K=>by rw[dK hn,dK he]⟩
theorem agk {o:Int} {t u:List Tk} (h:run (sJ o) t=.no u) {α:Type} (K:ByteArray->Ex->P α):run (bd fM fun s=>bd ky fun e=>K s e) t=.no u:=by
 unfold sJ at h
 cases hn:run fM t with
 | no v=>rw[iq hn] at h ⊢; cases h;rfl
 | ok s v=>
  rw[dK hn] at h ⊢
  cases he:run ky v with
  | no v2=>rw[iq he] at h ⊢; cases h;rfl
  | ok e v2=>rw[dK he,zW] at h;cases h
def PG (P:Pl) (p:Option Addr) (m c:Nat):Pl:={ P with gp:=p,gm:=m,gc:=c }
theorem anh {G:Nat->Prop} {w:ai} {s:ByteArray} {e x:Ex} {P:Pl} {p:Option Addr} {m c:Nat} {b:Bool} (h:dh G w (fC 6 s mt e) P) (hx:bX G w x p m):dh G w (.mk 6 s mt e x [] zD b [] []) (PG P p m c):=by
 obtain⟨⟨h1,-,h3,h4,h5⟩,h6,h7⟩:=pq.1 h;exact pq.2 ⟨⟨h1,hx,h3,h4,h5⟩,h6,h7⟩
section
variable {L:Lk} {g:Nat} {t:List Tk}
theorem FQ {p:Prop} (h:p:=by first|(left;simp;done)|(left;simp;omega)|(right;simp;done)|(right;simp;omega)):p:=h
theorem am2 (w:ai) (hR:Rd L g t w):av ag 154 #[.pointer (ak ⟨g,0,U⟩)] w (PO L g wo (run (bd fM fun s=>bd ky fun e=>bd (exp ZY) fun _=>bd ky fun g=>bd (acc Ri (rt true) (rt false)) fun b=>rt (St.mk 6 s mt e g [] zD b [] [])) t) w):=by
 refine eQ hR ?_;clear hR;intro r HS HR HB hg;have Z:=D6 w;have hz0:=Z.out.lt;go_enter func154,ntmps154;go_wp2_with fail;refine(Eu 6 _ (HR.out.low qe)).mono ?_;rintro ee w1 h1;rcases h1.cases with⟨x1,u1,v1,r1,rfl,b1,V1,R1⟩|⟨u1,r1,rfl,b1⟩
 rotate_left 1
 · have bY:=HB.out;go_wp2_with fail;exact⟨rfl,PO.no (HS.out.symm.trans (agk r1 _)) qe⟩
 obtain⟨s,e,rfl,hK⟩:=agl r1;replace HS:=V ((hK _).symm.trans HS.out);replace Z:=bV Z w1;obtain⟨P1,rfl,k1⟩:=V1;have KS:Hid (dh (fun b=>w.heap.size<b) w1 (fC 6 s mt e) P1):=V (k1.mono fun b hb hlt=>(by have hb':_<=b:=hb;simp at hb';omega));replace HB:=eu HB w1;replace HR:=V R1;clear b1 R1;clear k1 h1 r1 hK;have hz1:=Z.out.lt;have Y:=V (bU.new (w:=w1) (t:=62) (c:=cs (fC 6 s mt e) P1));go_wp2_with (refine Nf rfl _ _ rfl _ (cs (fC 6 s mt e) P1) rfl rfl rfl rfl (Sm.jF _ _) ?_)
 refine po HS HB (gI _ _ (HR.out.low qe) bR) ?_;clear HS HB HR;rintro x3 u3 v3 w3-HS b3 rfl HR HB;replace Z:=bV Z w3;replace Y:=bV Y w3;have QP:Hid (bS (fun b=>b<w1.heap.size/\w.heap.size<b) w1 w3):=V qe;clear b3;have KP:Hid (dh (fun b=>w.heap.size<b/\¬b=w1.heap.size) w3 (fC 6 s mt e) P1):=V (by
  have q:=QP.out;exact Sm.dh.map q.size (fun b hb hlt=>⟨⟨hb,by omega⟩,q.block b hlt ⟨hlt,hb⟩⟩) _ KS.out)
 clear QP;clear KS;have hz3:=Z.out.lt;have hy3:=Y.out.lt;go_wp2_with fail;refine po HS HB (Af _ (HR.out.low qe)) ?_;clear HS HB HR;rintro x4 u4 v4 w4-HS b4 ⟨p4,m4,c4,rfl,k4⟩ HR HB;replace Z:=bV Z w4;replace Y:=bV Y w4;replace KP:=V (Sm.dh.map b4.size (fun b hb hlt=>⟨hb,bS.block (S:=fun b=>w.heap.size<b/\¬b=w1.heap.size) qe b hlt hb⟩) _ KP.out);clear b4;have K4:Hid (∀z,dh (fun b=>w.heap.size<b/\¬b=w1.heap.size) ((((w4.setCell ⟨w1.heap.size,7,U⟩ (.int .i64 x4.o)).setCell ⟨w1.heap.size,8,U⟩ (.string x4.s)).setCell ⟨w1.heap.size,9,U⟩ (.int .i64 x4.n)).setCell ⟨w1.heap.size,10,U⟩ (.slice p4 m4 c4)) (.mk 6 s mt e x4 [] zD z [] []) (PG P1 p4 m4 c4)):=V fun z=>by
  have q:bS (fun b=>w.heap.size<b/\¬b=w1.heap.size) w4 ((((w4.setCell ⟨w1.heap.size,7,U⟩ (.int .i64 x4.o)).setCell ⟨w1.heap.size,8,U⟩ (.string x4.s)).setCell ⟨w1.heap.size,9,U⟩ (.int .i64 x4.n)).setCell ⟨w1.heap.size,10,U⟩ (.slice p4 m4 c4)):=by exact qe
  exact Sm.dh.map q.size (fun b hb hlt=>⟨hb,q.block b hlt hb⟩) _ (anh KP.out (k4.mono fun b hb hlt=>by
   have hb':w3.heap.size<=b:=hb;exact⟨by omega,by omega⟩))
 clear KP k4;dsimp only [cu];have l7:ah _ ⟨_,7,U⟩=ak (.int .i64 0):=Y.out.get rfl;have l8:ah _ ⟨_,8,U⟩=ak (.string ⟨#[]⟩):=Y.out.get rfl;have l9:ah _ ⟨_,9,U⟩=ak (.int .i64 0):=Y.out.get rfl;have l10:ah _ ⟨_,10,U⟩=ak (.slice P1.gp P1.gm P1.gc):=Y.out.get rfl;have fy:∀i,au _ ⟨_,i,U⟩=false:=fun i=>fA (i:=i) Y.out;go_wp2_with fail;replace Y:=V (eX (i:=7) (v:=.int .i64 x4.o) Y.out);replace Z:=V (cZ (w2:=ae w4 ⟨w1.heap.size,7,U⟩ (.int .i64 x4.o)) Z.out qe);replace HR:=V (HR.out.low (w2:=ae w4 ⟨w1.heap.size,7,U⟩ (.int .i64 x4.o)) qe);replace HB:=V (bS.set (p:=⟨w1.heap.size,7,U⟩) (v:=.int .i64 x4.o) HB.out FQ);replace Y:=V (eX (i:=8) (v:=.string x4.s) Y.out);replace Z:=V (cZ (w2:=ae (w4.setCell ⟨w1.heap.size,7,U⟩ (.int .i64 x4.o)) ⟨w1.heap.size,8,U⟩ (.string x4.s)) Z.out qe);replace HR:=V (HR.out.low (w2:=ae (w4.setCell ⟨w1.heap.size,7,U⟩ (.int .i64 x4.o)) ⟨w1.heap.size,8,U⟩ (.string x4.s)) qe);replace HB:=V (bS.set (p:=⟨w1.heap.size,8,U⟩) (v:=.string x4.s) HB.out FQ);replace Y:=V (eX (i:=9) (v:=.int .i64 x4.n) Y.out);replace Z:=V (cZ (w2:=ae ((w4.setCell ⟨w1.heap.size,7,U⟩ (.int .i64 x4.o)).setCell ⟨w1.heap.size,8,U⟩ (.string x4.s)) ⟨w1.heap.size,9,U⟩ (.int .i64 x4.n)) Z.out qe);replace HR:=V (HR.out.low (w2:=ae ((w4.setCell ⟨w1.heap.size,7,U⟩ (.int .i64 x4.o)).setCell ⟨w1.heap.size,8,U⟩ (.string x4.s)) ⟨w1.heap.size,9,U⟩ (.int .i64 x4.n)) qe);replace HB:=V (bS.set (p:=⟨w1.heap.size,9,U⟩) (v:=.int .i64 x4.n) HB.out FQ);replace Y:=V (eX (i:=10) (v:=.slice p4 m4 c4) Y.out);replace Z:=V (cZ (w2:=ae (((w4.setCell ⟨w1.heap.size,7,U⟩ (.int .i64 x4.o)).setCell ⟨w1.heap.size,8,U⟩ (.string x4.s)).setCell ⟨w1.heap.size,9,U⟩ (.int .i64 x4.n)) ⟨w1.heap.size,10,U⟩ (.slice p4 m4 c4)) Z.out qe);replace HR:=V (HR.out.low (w2:=ae (((w4.setCell ⟨w1.heap.size,7,U⟩ (.int .i64 x4.o)).setCell ⟨w1.heap.size,8,U⟩ (.string x4.s)).setCell ⟨w1.heap.size,9,U⟩ (.int .i64 x4.n)) ⟨w1.heap.size,10,U⟩ (.slice p4 m4 c4)) qe);replace HB:=V (bS.set (p:=⟨w1.heap.size,10,U⟩) (v:=.slice p4 m4 c4) HB.out FQ);replace Y:Hid (bU ((((w4.setCell ⟨w1.heap.size,7,U⟩ (.int .i64 x4.o)).setCell ⟨w1.heap.size,8,U⟩ (.string x4.s)).setCell ⟨w1.heap.size,9,U⟩ (.int .i64 x4.n)).setCell ⟨w1.heap.size,10,U⟩ (.slice p4 m4 c4)) w1.heap.size 62 (cs (.mk 6 s mt e x4 [] zD false [] []) (PG P1 p4 m4 c4))):=V Y.out;clear l7 l8 l9 l10 fy;refine(dD Ri _ (HR.out.low qe) bR).mono ?_;rintro e w5 ⟨b5,⟨i5,rfl,R5⟩|⟨i5,rfl,R5⟩⟩
 · replace HS:=lY (xH HS i5);replace Z:=bV Z w5;replace Y:=bV Y w5;have K5:Hid (dh (fun b=>w.heap.size<b/\¬b=w1.heap.size) w5 (.mk 6 s mt e x4 [] zD true [] []) (PG P1 p4 m4 c4)):=V (by
    have q:bS (fun b=>w.heap.size<b/\¬b=w1.heap.size) ((((w4.setCell ⟨w1.heap.size,7,U⟩ (.int .i64 x4.o)).setCell ⟨w1.heap.size,8,U⟩ (.string x4.s)).setCell ⟨w1.heap.size,9,U⟩ (.int .i64 x4.n)).setCell ⟨w1.heap.size,10,U⟩ (.slice p4 m4 c4)) w5:=by exact qe
    exact Sm.dh.map q.size (fun b hb hlt=>⟨hb,q.block b hlt hb⟩) _ (K4.out true))
   replace HB:=eu HB w5;replace HR:=V R5;clear b5 R5;clear i5 K4;have l18:ah _ ⟨_,18,U⟩=ak (.bool false):=Y.out.get rfl;have fy:∀i,au _ ⟨_,i,U⟩=false:=fun i=>fA (i:=i) Y.out;replace Y:=V (eX (i:=18) (v:=.bool true) Y.out);replace Z:=V (cZ (w2:=ae w5 ⟨w1.heap.size,18,U⟩ (.bool true)) Z.out qe);replace HR:=V (HR.out.low (w2:=ae w5 ⟨w1.heap.size,18,U⟩ (.bool true)) qe);replace HB:=V (bS.set (p:=⟨w1.heap.size,18,U⟩) (v:=.bool true) HB.out FQ);replace Y:Hid (bU (w5.setCell ⟨w1.heap.size,18,U⟩ (.bool true)) w1.heap.size 62 (cs (.mk 6 s mt e x4 [] zD true [] []) (PG P1 p4 m4 c4))):=V Y.out;obtain⟨W,hP⟩:=jr (c:=cs (.mk 6 s mt e x4 [] zD true [] []) (PG P1 p4 m4 c4)) Z.out pE (Sm.jF _ _) rfl;have jK:=hP.bt;have gQ:=V hP.box;have jL:=hP.size;go_wp2_with (first|(refine wpList_load_row rfl 62 _ rfl _ rfl 62 _ (0,0) _ Y.out underlying62 rfl dx ?_)|(refine jw rfl 62 _ _ rfl w.heap.size _ rfl rfl hP ?_))
   have q:∀W,bS (fun b=>w.heap.size<b/\¬b=w1.heap.size) w5 W->dh (fun b=>w.heap.size<=b) W (.mk 6 s mt e x4 [] zD true [] []) (PG P1 p4 m4 c4):=fun W q=>Sm.dh.map q.size (fun b hb hlt=>⟨Nat.le_of_lt hb.1,q.block b hlt hb⟩) _ K5.out;have bY:=HB.out;refine af (v:=.agg (cs (.mk 6 s mt e x4 [] zD true [] []) (PG P1 p4 m4 c4))) ?_ rfl (PO.ok ((dz HS)) qe ⟨(PG P1 p4 m4 c4),rfl,q _ qe⟩ (HR.out.low qe));exact D_
 · replace HS:=lY (xG HS i5);replace Z:=bV Z w5;replace Y:=bV Y w5;have K5:Hid (dh (fun b=>w.heap.size<b/\¬b=w1.heap.size) w5 (.mk 6 s mt e x4 [] zD false [] []) (PG P1 p4 m4 c4)):=V (by
    have q:bS (fun b=>w.heap.size<b/\¬b=w1.heap.size) ((((w4.setCell ⟨w1.heap.size,7,U⟩ (.int .i64 x4.o)).setCell ⟨w1.heap.size,8,U⟩ (.string x4.s)).setCell ⟨w1.heap.size,9,U⟩ (.int .i64 x4.n)).setCell ⟨w1.heap.size,10,U⟩ (.slice p4 m4 c4)) w5:=by exact qe
    exact Sm.dh.map q.size (fun b hb hlt=>⟨hb,q.block b hlt hb⟩) _ (K4.out false))
   replace HB:=eu HB w5;replace HR:=V R5;clear b5 R5;clear i5 K4;have l18:ah _ ⟨_,18,U⟩=ak (.bool false):=Y.out.get rfl;have fy:∀i,au _ ⟨_,i,U⟩=false:=fun i=>fA (i:=i) Y.out;replace Y:=V (eX (i:=18) (v:=.bool false) Y.out);replace Z:=V (cZ (w2:=ae w5 ⟨w1.heap.size,18,U⟩ (.bool false)) Z.out qe);replace HR:=V (HR.out.low (w2:=ae w5 ⟨w1.heap.size,18,U⟩ (.bool false)) qe);replace HB:=V (bS.set (p:=⟨w1.heap.size,18,U⟩) (v:=.bool false) HB.out FQ);replace Y:Hid (bU (w5.setCell ⟨w1.heap.size,18,U⟩ (.bool false)) w1.heap.size 62 (cs (.mk 6 s mt e x4 [] zD false [] []) (PG P1 p4 m4 c4))):=V Y.out;obtain⟨W,hP⟩:=jr (c:=cs (.mk 6 s mt e x4 [] zD false [] []) (PG P1 p4 m4 c4)) Z.out pE (Sm.jF _ _) rfl;have jK:=hP.bt;have gQ:=V hP.box;have jL:=hP.size;go_wp2_with (first|(refine wpList_load_row rfl 62 _ rfl _ rfl 62 _ (0,0) _ Y.out underlying62 rfl dx ?_)|(refine jw rfl 62 _ _ rfl w.heap.size _ rfl rfl hP ?_))
   have q:∀W,bS (fun b=>w.heap.size<b/\¬b=w1.heap.size) w5 W->dh (fun b=>w.heap.size<=b) W (.mk 6 s mt e x4 [] zD false [] []) (PG P1 p4 m4 c4):=fun W q=>Sm.dh.map q.size (fun b hb hlt=>⟨Nat.le_of_lt hb.1,q.block b hlt hb⟩) _ K5.out;have bY:=HB.out;refine af (v:=.agg (cs (.mk 6 s mt e x4 [] zD false [] []) (PG P1 p4 m4 c4))) ?_ rfl (PO.ok ((dz HS)) qe ⟨(PG P1 p4 m4 c4),rfl,q _ qe⟩ (HR.out.low qe));exact D_
end
end Ps
namespace Ps
open Ps.P (rt bd acc kw exp)
open Go.RowKit
open Lx (Tk mt)
open Ex (Ex bX)
open Sm (St Dt Ints dA dh Pl cs pq zE zD)
def PD (vp:Option Addr) (vm vc:Nat) (wp:Option Addr) (wm wc:Nat):Pl:=⟨U,0,0,U,0,0,U,0,0,vp,vm,vc,wp,wm,wc,U,0,0,U,0,0⟩
theorem ang {G:Nat->Prop} {w:ai} {o:Int} {nm f:ByteArray} {d:Dt} {b:Bool} {vp:Option Addr} {vm vc:Nat} {wp:Option Addr} {wm wc:Nat} (h:Ints G w d.vs vp vm) (h2:Ints G w d.ws wp wm):dh G w (.mk o nm f zE zE [] d b [] []) (PD vp vm vc wp wm wc):=pq.2 ⟨⟨Ex.bX.zero,Ex.bX.zero,Ex.bX.zero,h,h2⟩,Sm.dA.nil,Sm.dA.nil⟩
def rIf (B:P (List St)):P St:=bd cnd fun e=>bd B fun b=>bd (acc AV (bd fV fun _=>B) (rt [])) fun l=>bd (exp oQ) fun _=>rt (.mk 3 mt mt e zE [] zD false b l)
def rWh (B:P (List St)):P St:=bd cnd fun e=>bd B fun b=>bd (exp oQ) fun _=>rt (.mk 4 mt mt e zE [] zD false b [])
section
variable {L:Lk} {g:Nat} {t:List Tk}
theorem BJ {p:Prop} (h:p:=by
 exact D_
 ):p:=h
theorem xY {p:Prop} (h:p:=by
 clear HB HR;rintro m_ vO v71 qD-aea sH ⟨OC,rfl,AU⟩ HR HB;replace Z:=bV Z qD;clear sH;have aeb:=ksU AU w.heap.size;clear AU;obtain⟨W,hP⟩:=jr (c:=cs m_ OC) Z.out pE (Sm.jF _ _) rfl;have jK:=hP.bt;have gQ:=V hP.box;have jL:=hP.size;go_wp2_with (refine jw rfl 62 _ _ rfl w.heap.size _ rfl rfl hP ?_)
 have bY:=HB.out;refine af (v:=.agg (cs (m_) (OC))) ?_ rfl (PO.ok (aea.out) qe ⟨(OC),rfl,MK aeb.out qe⟩ (HR.out.low qe));exact BJ
 ):p:=h
theorem anL (B:P (List St)) (w:ai) (hR:Rd L g t w) (YY:∀W u,Rd L g u W->u.length+1<=t.length->av ag 152 #[.pointer (ak ⟨g,0,U⟩)] W (PO L g wo (run (rIf B) u) W)) (hLo:∀W u,Rd L g u W->u.length+1<=t.length->av ag 153 #[.pointer (ak ⟨g,0,U⟩)] W (PO L g wo (run (rWh B) u) W)):av ag 101 #[.pointer (ak ⟨g,0,U⟩)] w (PO L g wo (run (stt B) t) w):=by
 have HCH:=V YY;have HLO:=V hLo;have nk:Hid (t.tail.length+1<=t.length):=V (by have:=hR.gd.ne;rw[List.length_tail];omega);clear YY hLo;refine eQ hR ?_;clear hR;intro r HS HR HB hg;have Z:=D6 w;go_enter func101,ntmps101;go_wp2_with fail;refine ac HS HB (dD aab _ (HR.out.low qe) bR) ?_ ?_
 · clear HS HB HR;rintro gY-HS gV HR HB;replace Z:=bV Z gY;clear gV;go_wp2_with fail;have sS:=Z.out.lt;refine pl HS HB (am8 _ (HR.out.low qe)) ?_;exact xY
 clear HS HB HR;rintro w1-HS b1 HR HB;replace Z:=bV Z w1;clear b1;go_wp2_with fail;refine ac HS HB (dD ZN _ (HR.out.low qe) bR) ?_ ?_
 · clear HS HB HR;rintro w2-HS b2 HR HB;replace Z:=bV Z w2;clear b2;go_wp2_with fail;refine po HS HB (jo _ (HR.out.low qe)) ?_;clear HS HB HR;rintro x70 u70 v70 gY-HS gV rfl HR HB;replace Z:=bV Z gY;clear gV;have aoK:=Z.out.lt;go_wp2_with fail;refine po HS HB (L6 _ _ (HR.out.low qe) bR) ?_;clear HS HB HR;rintro m_ vO v71 qD-HS sH rfl HR HB;replace Z:=bV Z qD;clear sH;have sS:=Z.out.lt;go_wp2_with fail;refine po HS HB (GQ _ (HR.out.low qe)) ?_;clear HS HB HR;rintro yY u72 v72 Ae-HS Gx ⟨vp,vm,vc,wp,wm,wc,rfl,kv,kw⟩ HR HB;replace Z:=bV Z Ae;clear Gx;have KV:Hid (∀W,bS (fun b=>w.heap.size<b) Ae W->Ints (fun b=>w.heap.size<=b) W yY.vs vp vm/\Ints (fun b=>w.heap.size<=b) W yY.ws wp wm):=V fun W q=>by
    have hk:∀b,(fun b=>qD.heap.size<=b) b->b<Ae.heap.size->(fun b=>w.heap.size<=b) b/\W.heap[b]?=Ae.heap[b]?:=fun b hb hlt=>⟨by show w.heap.size<=b;have hb':qD.heap.size<=b:=hb;omega,q.block b hlt (by have hb':qD.heap.size<=b:=hb;omega)⟩
    exact⟨Sm.Ints.map q.size hk kv,Sm.Ints.map q.size hk kw⟩
   clear kv kw;dsimp only [uz];obtain⟨W,hP⟩:=jr (c:=cs (.mk 2 x70 m_ zE zE [] yY false [] []) (PD vp vm vc wp wm wc)) Z.out pE (Sm.jF _ _) rfl;have jK:=hP.bt;have gQ:=V hP.box;have jL:=hP.size;go_wp2_with (refine jw rfl 62 _ _ rfl w.heap.size _ rfl rfl hP ?_)
   have bY:=HB.out;refine af (v:=.agg (cs (.mk 2 x70 m_ zE zE [] yY false [] []) (PD vp vm vc wp wm wc))) ?_ rfl (PO.ok ((dz HS)) qe ⟨(PD vp vm vc wp wm wc),rfl,ang (KV.out _ qe).1 (KV.out _ qe).2⟩ (HR.out.low qe));exact BJ
 clear HS HB HR;rintro w2-HS b2 HR HB;replace Z:=bV Z w2;clear b2;go_wp2_with fail;refine ac HS HB (dD ZU _ (HR.out.low qe) bR) ?_ ?_
 · clear HS HB HR;rintro gY-HS gV HR HB;replace Z:=bV Z gY;clear gV;go_wp2_with fail;have sS:=Z.out.lt;refine pl HS HB (HCH.out _ _ (HR.out.low qe) nk.out) ?_;exact xY
 clear HS HB HR;rintro w3-HS b3 HR HB;replace Z:=bV Z w3;clear b3;go_wp2_with fail;refine ac HS HB (dD aao _ (HR.out.low qe) bR) ?_ ?_
 · clear HS HB HR;rintro gY-HS gV HR HB;replace Z:=bV Z gY;clear gV;go_wp2_with fail;have sS:=Z.out.lt;refine pl HS HB (HLO.out _ _ (HR.out.low qe) nk.out) ?_;exact xY
 clear HS HB HR;rintro w4-HS b4 HR HB;replace Z:=bV Z w4;clear b4;go_wp2_with fail;refine ac HS HB (dD ZT _ (HR.out.low qe) bR) ?_ ?_
 · clear HS HB HR;rintro gY-HS gV HR HB;replace Z:=bV Z gY;clear gV;go_wp2_with fail;have sS:=Z.out.lt;refine po HS HB (Af _ (HR.out.low qe)) ?_;clear HS HB HR;rintro m_ vO v71 qD-HS sH ⟨p71,CW,Cb,rfl,AU⟩ HR HB;replace Z:=bV Z qD;clear sH;have Gr:=jS AU w.heap.size;clear AU;dsimp only [cu];obtain⟨W,hP⟩:=jr (c:=cs (fC 5 mt mt m_) (rC p71 CW Cb)) Z.out pE (Sm.jF _ _) rfl;have jK:=hP.bt;have gQ:=V hP.box;have jL:=hP.size;go_wp2_with (refine jw rfl 62 _ _ rfl w.heap.size _ rfl rfl hP ?_)
   have bY:=HB.out;refine af (v:=.agg (cs (fC 5 mt mt m_) (rC p71 CW Cb))) ?_ rfl (PO.ok ((dz HS)) qe ⟨(rC p71 CW Cb),rfl,Bi (jI Gr.out qe)⟩ (HR.out.low qe));exact BJ
 clear HS HB HR;rintro w5-HS b5 HR HB;replace Z:=bV Z w5;clear b5;go_wp2_with fail;refine ac HS HB (dD Z_ _ (HR.out.low qe) bR) ?_ ?_
 · clear HS HB HR;rintro gY-HS gV HR HB;replace Z:=bV Z gY;clear gV;go_wp2_with fail;have sS:=Z.out.lt;refine pl HS HB (am2 _ (HR.out.low qe)) ?_;exact xY
 clear HS HB HR;rintro w6-HS b6 HR HB;replace Z:=bV Z w6;clear b6;go_wp2_with fail;refine ac HS HB (dD Z6 _ (HR.out.low qe) bR) ?_ ?_
 · clear HS HB HR;rintro gY-HS gV HR HB;replace Z:=bV Z gY;clear gV;go_wp2_with fail;have sS:=Z.out.lt;refine pl HS HB (Eu 7 _ (HR.out.low qe)) ?_;exact xY
 clear HS HB HR;rintro w7-HS b7 HR HB;replace Z:=bV Z w7;clear b7;go_wp2_with fail;refine ac HS HB (dD ZZ _ (HR.out.low qe) bR) ?_ ?_
 · clear HS HB HR;rintro gY-HS gV HR HB;replace Z:=bV Z gY;clear gV;go_wp2_with fail;have sS:=Z.out.lt;refine po HS HB (Af _ (HR.out.low qe)) ?_;clear HS HB HR;rintro m_ vO v71 qD-HS sH ⟨p71,CW,Cb,rfl,AU⟩ HR HB;replace Z:=bV Z qD;clear sH;have Gr:=jS AU w.heap.size;clear AU;dsimp only [cu];go_wp2_with fail;refine po HS HB (L6 _ _ (HR.out.low qe) bR) ?_;clear HS HB HR;rintro yY u72 v72 Ae-HS Gx rfl HR HB;replace Z:=bV Z Ae;replace Gr:=V (ja (w2:=Ae) Gr.out qe);clear Gx;obtain⟨W,hP⟩:=jr (c:=cs (fC 8 yY mt m_) (rC p71 CW Cb)) Z.out pE (Sm.jF _ _) rfl;have jK:=hP.bt;have gQ:=V hP.box;have jL:=hP.size;go_wp2_with (refine jw rfl 62 _ _ rfl w.heap.size _ rfl rfl hP ?_)
   have bY:=HB.out;refine af (v:=.agg (cs (fC 8 yY mt m_) (rC p71 CW Cb))) ?_ rfl (PO.ok ((dz HS)) qe ⟨(rC p71 CW Cb),rfl,Bi (jI Gr.out qe)⟩ (HR.out.low qe));exact BJ
 clear HS HB HR;rintro w8-HS b8 HR HB;replace Z:=bV Z w8;clear b8;go_wp2_with fail;refine ac HS HB (dD ZR _ (HR.out.low qe) bR) ?_ ?_
 · clear HS HB HR;rintro gY-HS gV HR HB;replace Z:=bV Z gY;clear gV;go_wp2_with fail;refine po HS HB (jo _ (HR.out.low qe)) ?_;clear HS HB HR;rintro m_ vO v71 qD-HS sH rfl HR HB;replace Z:=bV Z qD;clear sH;go_wp2_with fail;refine po HS HB (L6 _ _ (HR.out.low qe) bR) ?_;clear HS HB HR;rintro yY u72 v72 Ae-HS Gx rfl HR HB;replace Z:=bV Z Ae;clear Gx;obtain⟨W,hP⟩:=jr (c:=cs (fC 9 yY m_ zE) (P0)) Z.out pE (Sm.jF _ _) rfl;have jK:=hP.bt;have gQ:=V hP.box;have jL:=hP.size;go_wp2_with (refine jw rfl 62 _ _ rfl w.heap.size _ rfl rfl hP ?_)
   have bY:=HB.out;refine af (v:=.agg (cs (fC 9 yY m_ zE) (P0))) ?_ rfl (PO.ok ((dz HS)) qe ⟨(P0),rfl,Bi Ex.bX.zero⟩ (HR.out.low qe));exact BJ
 clear HS HB HR;rintro w9-HS b9 HR HB;replace Z:=bV Z w9;clear b9;go_wp2_with fail;refine ac HS HB (dD Z8 _ (HR.out.low qe) bR) ?_ ?_
 · clear HS HB HR;rintro gY-HS gV HR HB;replace Z:=bV Z gY;clear gV;go_wp2_with fail;refine po HS HB (jo _ (HR.out.low qe)) ?_;clear HS HB HR;rintro m_ vO v71 qD-HS sH rfl HR HB;replace Z:=bV Z qD;clear sH;obtain⟨W,hP⟩:=jr (c:=cs (fC 10 m_ mt zE) (P0)) Z.out pE (Sm.jF _ _) rfl;have jK:=hP.bt;have gQ:=V hP.box;have jL:=hP.size;go_wp2_with (refine jw rfl 62 _ _ rfl w.heap.size _ rfl rfl hP ?_)
   have bY:=HB.out;refine af (v:=.agg (cs (fC 10 m_ mt zE) (P0))) ?_ rfl (PO.ok ((dz HS)) qe ⟨(P0),rfl,Bi Ex.bX.zero⟩ (HR.out.low qe));exact BJ
 clear HS HB HR;rintro fT-HS b10 HR HB;replace Z:=bV Z fT;clear b10;go_wp2_with fail;refine ac HS HB (dD aan _ (HR.out.low qe) bR) ?_ ?_
 · clear HS HB HR;rintro gY-HS gV HR HB;replace Z:=bV Z gY;clear gV;go_wp2_with fail;refine po HS HB (jo _ (HR.out.low qe)) ?_;clear HS HB HR;rintro m_ vO v71 qD-HS sH rfl HR HB;replace Z:=bV Z qD;clear sH;obtain⟨W,hP⟩:=jr (c:=cs (fC 11 m_ mt zE) (P0)) Z.out pE (Sm.jF _ _) rfl;have jK:=hP.bt;have gQ:=V hP.box;have jL:=hP.size;go_wp2_with (refine jw rfl 62 _ _ rfl w.heap.size _ rfl rfl hP ?_)
   have bY:=HB.out;refine af (v:=.agg (cs (fC 11 m_ mt zE) (P0))) ?_ rfl (PO.ok ((dz HS)) qe ⟨(P0),rfl,Bi Ex.bX.zero⟩ (HR.out.low qe));exact BJ
 clear HS HB HR;rintro ku-HS b11 HR HB;replace Z:=bV Z ku;clear b11;go_wp2_with fail;refine ac HS HB (dD aac _ (HR.out.low qe) bR) ?_ ?_
 · clear HS HB HR;rintro gY-HS gV HR HB;replace Z:=bV Z gY;clear gV;go_wp2_with fail;have sS:=Z.out.lt;refine pl HS HB (Eu 12 _ (HR.out.low qe)) ?_;exact xY
 clear HS HB HR;rintro vQ-HS b12 HR HB;replace Z:=bV Z vQ;clear b12;go_wp2_with fail;refine ac HS HB (dD aaa _ (HR.out.low qe) bR) ?_ ?_
 · clear HS HB HR;rintro gY-HS gV HR HB;replace Z:=bV Z gY;clear gV;go_wp2_with fail;have sS:=Z.out.lt;refine pl HS HB (am3 _ (HR.out.low qe)) ?_;exact xY
 clear HS HB HR;rintro FC-HS b13 HR HB;replace Z:=bV Z FC;clear b13;go_wp2_with fail;refine ac HS HB (dD aae _ (HR.out.low qe) bR) ?_ ?_
 · clear HS HB HR;rintro gY-HS gV HR HB;replace Z:=bV Z gY;clear gV;go_wp2_with fail;have sS:=Z.out.lt;refine pl HS HB (Vx 14 ⟨#[]⟩ _ (HR.out.low qe)) ?_;exact xY
 clear HS HB HR;rintro w14-HS b14 HR HB;replace Z:=bV Z w14;clear b14;go_wp2_with fail;refine ac HS HB (dD ZW _ (HR.out.low qe) bR) ?_ ?_
 · clear HS HB HR;rintro gY-HS gV HR HB;replace Z:=bV Z gY;clear gV;go_wp2_with fail;have sS:=Z.out.lt;refine pl HS HB (Eu 15 _ (HR.out.low qe)) ?_;exact xY
 clear HS HB HR;rintro w15-HS b15 HR HB;replace Z:=bV Z w15;clear b15;go_wp2_with fail;refine ac HS HB (dD LB _ (HR.out.low qe) bR) ?_ ?_
 · clear HS HB HR;rintro gY-HS gV HR HB;replace Z:=bV Z gY;clear gV;go_wp2_with fail;have sS:=Z.out.lt;refine pl HS HB (Eu 16 _ (HR.out.low qe)) ?_;exact xY
 clear HS HB HR;rintro w16-HS b16 HR HB;replace Z:=bV Z w16;clear b16;go_wp2_with fail;refine ac HS HB (dD ZI _ (HR.out.low qe) bR) ?_ ?_
 · clear HS HB HR;rintro gY-HS gV HR HB;replace Z:=bV Z gY;clear gV;go_wp2_with fail;have sS:=Z.out.lt;refine pl HS HB (Eu 17 _ (HR.out.low qe)) ?_;exact xY
 clear HS HB HR;rintro w17-HS b17 HR HB;replace Z:=bV Z w17;clear b17;go_wp2_with fail;refine ac HS HB (dD aag _ (HR.out.low qe) bR) ?_ ?_
 · clear HS HB HR;rintro gY-HS gV HR HB;replace Z:=bV Z gY;clear gV;obtain⟨W,hP⟩:=jr (c:=cs (fC 18 mt mt zE) (P0)) Z.out pE (Sm.jF _ _) rfl;have jK:=hP.bt;have gQ:=V hP.box;have jL:=hP.size;go_wp2_with (refine jw rfl 62 _ _ rfl w.heap.size _ rfl rfl hP ?_)
   have bY:=HB.out;refine af (v:=.agg (cs (fC 18 mt mt zE) (P0))) ?_ rfl (PO.ok ((dz HS)) qe ⟨(P0),rfl,Bi Ex.bX.zero⟩ (HR.out.low qe));exact BJ
 clear HS HB HR;rintro w18-HS b18 HR HB;replace Z:=bV Z w18;clear b18;go_wp2_with fail;refine(BG _ (HR.out.low qe)).mono ?_;rintro e TJ ⟨rfl,O0⟩;have bY:=HB.out;go_wp2_with fail;exact⟨rfl,PO.no (MN HS) (by have q:Bt g _ TJ:=bS.of O0;exact qe)⟩
end
end Ps
namespace Ps
open Go.RowKit
open Lx (Tk mt)
open Ex (Ex bX)
open Sm (St dA dh Pl cs pq zE zD)
open Md (bU)
def Aw (lo:Nat) (w:ai) (l:List St) (v:Value):Prop:=∃p m c,v=.slice p m c/\dA (fun b=>lo<=b) w l p m
def PL (ep:Option Addr) (em ec:Nat) (bp:Option Addr) (bm bc:Nat) (lp:Option Addr) (lm lc:Nat):Pl:=⟨ep,em,ec,U,0,0,U,0,0,U,0,0,U,0,0,bp,bm,bc,lp,lm,lc⟩
theorem SH {a:Nat} {w w2:ai} {x:St} {P:Pl} (h:dh (fun b=>a<b) w x P) (hb:bS (fun b=>a<b) w w2):dh (fun b=>a<b) w2 x P:=Sm.dh.map hb.size (fun b hg hlt=>⟨hg,hb.block b hlt hg⟩) x h
theorem H_ {S:Nat->Prop} {w w2:ai} {x:Ex} {p:Option Addr} {m:Nat} (h:bX S w x p m) (hb:bS S w w2):bX S w2 x p m:=Ex.bX.map hb.size (fun b hg hlt=>⟨hg,hb.block b hlt hg⟩) x h
theorem Ip {S:Nat->Prop} {w w2:ai} {x:List St} {p:Option Addr} {m:Nat} (h:dA S w x p m) (hb:bS S w w2):dA S w2 x p m:=Sm.dA.map hb.size (fun b hg hlt=>⟨hg,hb.block b hlt hg⟩) h
theorem SK {S:Nat->Prop} {w w2:ai} {x:St} {P:Pl} (h:dh S w x P) (hb:bS S w w2):dh S w2 x P:=Sm.dh.map hb.size (fun b hg hlt=>⟨hg,hb.block b hlt hg⟩) x h
theorem SL {G:Nat->Prop} {w:ai} {o:Int} {e:Ex} {b l:List St} {ep:Option Addr} {em ec:Nat} {bp:Option Addr} {bm bc:Nat} {lp:Option Addr} {lm lc:Nat} (h:bX G w e ep em) (h2:dA G w b bp bm) (h3:dA G w l lp lm):dh G w (.mk o mt mt e zE [] zD false b l) (PL ep em ec bp bm bc lp lm lc):=pq.2 ⟨⟨h,Ex.bX.zero,Ex.bX.zero,lV,lV⟩,h2,h3⟩
section
variable {L:Lk} {g:Nat} {t:List Tk}
theorem Ud {p:Prop} (h:p:=by
 exact D_
 ):p:=h
theorem aj_ (B:P (List St)) (w:ai) (hR:Rd L g t w) (hB:∀W u,Rd L g u W->u.length<=t.length->av ag 59 #[.pointer (ak ⟨g,0,U⟩)] W (PO L g Aw (run B u) W)):av ag 153 #[.pointer (ak ⟨g,0,U⟩)] w (PO L g wo (run (rWh B) t) w):=by
 have JF:=V hB;have HD:Hid (∀x u,run cnd t=.ok x u->u.length<=t.length):=V fun x u h=>by have:=(Ku.out hR.gd h).2;omega
 clear hB;refine eQ hR ?_;clear hR;intro r HS HR HB hg;have Z:=D6 w;go_enter func153,ntmps153;go_wp2_with fail;have hz0:=Z.out.lt;refine po HS HB (WH _ (HR.out.low qe)) ?_;clear HS HB HR;rintro x1 u1 v1 w1 r1 HS b1 ⟨p1,m1,c1,rfl,k1⟩ HR HB;replace Z:=bV Z w1;have HT:=V (HD.out _ _ r1);clear b1 r1;have d_:=jS k1 w.heap.size;clear k1;dsimp only [cu];have hz1:=Z.out.lt;go_wp2_with fail;refine po HS HB (JF.out _ _ (HR.out.low qe) HT.out) ?_;clear HS HB HR;rintro x2 u2 v2 w2-HS b2 ⟨p2,m2,c2,rfl,k2⟩ HR HB;replace Z:=bV Z w2;replace d_:=V (ja (w2:=w2) d_.out qe);clear b2;have hz2:=Z.out.lt;have KS:Hid (dh (fun b=>w.heap.size<b) w2 (.mk 4 mt mt x1 zE [] zD false x2 []) (PL p1 m1 c1 p2 m2 c2 U 0 0)):=V (SL d_.out (k2.mono fun b hb hlt=>by
  have hb':w1.heap.size<=b:=hb;omega) Sm.dA.nil)
 clear k2 d_;have Y:=V (bU.new (w:=w2) (t:=62) (c:=cs (.mk 4 mt mt x1 zE [] zD false x2 []) (PL p1 m1 c1 p2 m2 c2 U 0 0)));go_wp2_with (refine Nf rfl _ _ rfl _ (cs (.mk 4 mt mt x1 zE [] zD false x2 []) (PL p1 m1 c1 p2 m2 c2 U 0 0)) rfl rfl rfl rfl (Sm.jF _ _) ?_)
 refine po HS HB (gI _ _ (HR.out.low qe) bR) ?_;clear HS HB HR;rintro x3 u3 v3 w3-HS b3 rfl HR HB;replace Z:=bV Z w3;replace Y:=bV Y w3;replace KS:=V (SH (w2:=w3) KS.out qe);clear b3;obtain⟨W,hP⟩:=jr (c:=cs (.mk 4 mt mt x1 zE [] zD false x2 []) (PL p1 m1 c1 p2 m2 c2 U 0 0)) Z.out pE (Sm.jF _ _) rfl;have jK:=hP.bt;have gQ:=V hP.box;have jL:=hP.size;go_wp2_with (first|(refine wpList_load_row rfl 62 _ rfl _ rfl 62 _ (0,0) _ Y.out underlying62 rfl dx ?_)|(refine jw rfl 62 _ _ rfl w.heap.size _ rfl rfl hP ?_))
 have bY:=HB.out;refine af (v:=.agg (cs (.mk 4 mt mt x1 zE [] zD false x2 []) (PL p1 m1 c1 p2 m2 c2 U 0 0))) ?_ rfl (PO.ok ((dz HS)) qe ⟨(PL p1 m1 c1 p2 m2 c2 U 0 0),rfl,MK KS.out qe⟩ (HR.out.low qe));exact Ud
theorem agr (B:P (List St)) (hBd:Dn 0 B) (w:ai) (hR:Rd L g t w) (hB:∀W u,Rd L g u W->u.length<=t.length->av ag 59 #[.pointer (ak ⟨g,0,U⟩)] W (PO L g Aw (run B u) W)):av ag 152 #[.pointer (ak ⟨g,0,U⟩)] w (PO L g wo (run (rIf B) t) w):=by
 have JF:=V hB;have HD:Hid (∀x u,run cnd t=.ok x u->Gd u/\u.length<=t.length):=V fun x u h=>by have:=Ku.out hR.gd h;exact⟨this.1,by omega⟩
 have HD2:Hid (∀x u v,Gd u->run B u=.ok x v->Gd v/\v.length<=u.length):=V fun x u v hg h=>by have:=hBd.out hg h;exact⟨this.1,by omega⟩
 clear hB hBd;refine eQ hR ?_;clear hR;intro r HS HR HB hg;have Z:=D6 w;go_enter func152,ntmps152;go_wp2_with fail;have hz0:=Z.out.lt;refine po HS HB (WH _ (HR.out.low qe)) ?_;clear HS HB HR;rintro x1 u1 v1 w1 r1 HS b1 ⟨p1,m1,c1,rfl,k1⟩ HR HB;replace Z:=bV Z w1;have HT:=V (HD.out _ _ r1);clear b1 r1;have d_:=jS k1 w.heap.size;clear k1;dsimp only [cu];have hz1:=Z.out.lt;go_wp2_with fail;refine po HS HB (JF.out _ _ (HR.out.low qe) HT.out.2) ?_;clear HS HB HR;rintro x2 u2 v2 w2 r2 HS b2 ⟨p2,m2,c2,rfl,k2⟩ HR HB;replace Z:=bV Z w2;replace d_:=V (ja (w2:=w2) d_.out qe);have HT2:=V (HD2.out _ _ _ HT.out.1 r2);clear b2 r2;have hz2:=Z.out.lt;have KL:Hid (dA (fun b=>w.heap.size<b) w2 x2 p2 m2):=V (k2.mono fun b hb hlt=>by
  have hb':w1.heap.size<=b:=hb;omega)
 have KS:Hid (dh (fun b=>w.heap.size<b) w2 (.mk 3 mt mt x1 zE [] zD false x2 []) (PL p1 m1 c1 p2 m2 c2 U 0 0)):=V (SL d_.out KL.out Sm.dA.nil);clear k2;have Y:=V (bU.new (w:=w2) (t:=62) (c:=cs (.mk 3 mt mt x1 zE [] zD false x2 []) (PL p1 m1 c1 p2 m2 c2 U 0 0)));go_wp2_with (refine Nf rfl _ _ rfl _ (cs (.mk 3 mt mt x1 zE [] zD false x2 []) (PL p1 m1 c1 p2 m2 c2 U 0 0)) rfl rfl rfl rfl (Sm.jF _ _) ?_)
 refine(dD AV _ (HR.out.low qe) bR).mono ?_;rintro e w3 ⟨b3,⟨i3,rfl,R3⟩|⟨i3,rfl,R3⟩⟩
 · replace HS:=jb (xH HS i3);have KE:Hid (bX (fun b=>w.heap.size<b/\¬b=w2.heap.size) w3 x1 p1 m1):=V (H_ (d_.out.mono fun b hb hlt=>⟨hb,by omega⟩) qe);have KM:Hid (dA (fun b=>w.heap.size<b/\¬b=w2.heap.size) w3 x2 p2 m2):=V (Ip (KL.out.mono fun b hb hlt=>⟨hb,by omega⟩) qe);replace Z:=bV Z w3;replace Y:=bV Y w3;replace HB:=eu HB w3;replace HR:=V R3;clear b3 R3;clear i3 d_ KL KS;have hz3:=Z.out.lt;have hy3:=Y.out.lt;go_wp2_with fail;refine po HS HB (kS _ (HR.out.low qe)) ?_;clear HS HB;rintro x4 u4 v4 w4 r4 HS b4 rfl R4 HB;replace Z:=bV Z w4;replace Y:=bV Y w4;replace KE:=V (H_ (w2:=w4) KE.out qe);replace KM:=V (Ip (w2:=w4) KM.out qe);have HT4:=V (nG.out HR.out.gd r4).2;replace HR:=R4;clear b4 r4;have qU:=Z.out.lt;have hy4:=Y.out.lt;go_wp2_with fail;refine po HS HB (JF.out _ _ (HR.out.low qe) (by have h1:=HT4.out;have h2:=HT2.out.2;have h3:=HT.out.2;rw[List.length_tail] at h1;omega)) ?_;clear HS HB HR;rintro x5 u5 v5 w5-HS b5 ⟨p5,m5,c5,rfl,k5⟩ HR HB;replace Z:=bV Z w5;replace Y:=bV Y w5;replace KE:=V (H_ (w2:=w5) KE.out qe);replace KM:=V (Ip (w2:=w5) KM.out qe);clear b5;have KA:Hid (dh (fun b=>w.heap.size<b/\¬b=w2.heap.size) (w5.setCell ⟨w2.heap.size,20,U⟩ (.slice p5 m5 c5)) (.mk 3 mt mt x1 zE [] zD false x2 x5) (PL p1 m1 c1 p2 m2 c2 p5 m5 c5)):=V (SK (SL KE.out KM.out (k5.mono fun b hb hlt=>by
    have hb':w4.heap.size<=b:=hb;exact⟨by omega,by omega⟩)) qe)
   clear KE KM k5;have l20:ah _ ⟨_,20,U⟩=ak (.slice U 0 0):=Y.out.get rfl;have fy:∀i,au _ ⟨_,i,U⟩=false:=fun i=>fA (i:=i) Y.out;go_wp2_with fail;replace Y:=V (eX (i:=20) (v:=.slice p5 m5 c5) Y.out);replace Z:=V (cZ (w2:=ae w5 ⟨w2.heap.size,20,U⟩ (.slice p5 m5 c5)) Z.out qe);replace HR:=V (HR.out.low (w2:=ae w5 ⟨w2.heap.size,20,U⟩ (.slice p5 m5 c5)) qe);replace HB:=V (bS.set (p:=⟨w2.heap.size,20,U⟩) (v:=.slice p5 m5 c5) HB.out (by first|(left;simp;done)|(left;simp;omega)|(right;simp;done)|(right;simp;omega)));replace Y:Hid (bU (w5.setCell ⟨w2.heap.size,20,U⟩ (.slice p5 m5 c5)) w2.heap.size 62 (cs (.mk 3 mt mt x1 zE [] zD false x2 x5) (PL p1 m1 c1 p2 m2 c2 p5 m5 c5))):=V Y.out;clear l20 fy;refine po HS HB (gI _ _ (HR.out.low qe) bR) ?_;clear HS HB HR;rintro x6 u6 v6 w6-HS b6 rfl HR HB;replace Z:=bV Z w6;replace Y:=bV Y w6;replace KA:=V (SK (w2:=w6) KA.out qe);clear b6;obtain⟨W,hP⟩:=jr (c:=cs (.mk 3 mt mt x1 zE [] zD false x2 x5) (PL p1 m1 c1 p2 m2 c2 p5 m5 c5)) Z.out pE (Sm.jF _ _) rfl;have jK:=hP.bt;have gQ:=V hP.box;have jL:=hP.size;go_wp2_with (first|(refine wpList_load_row rfl 62 _ rfl _ rfl 62 _ (0,0) _ Y.out underlying62 rfl dx ?_)|(refine jw rfl 62 _ _ rfl w.heap.size _ rfl rfl hP ?_))
   have q:∀W,bS (fun b=>w.heap.size<b/\¬b=w2.heap.size) w6 W->dh (fun b=>w.heap.size<=b) W (.mk 3 mt mt x1 zE [] zD false x2 x5) (PL p1 m1 c1 p2 m2 c2 p5 m5 c5):=fun W q=>(SK KA.out q).mono fun b hb _=>Nat.le_of_lt hb.1;have bY:=HB.out;refine af (v:=.agg (cs (.mk 3 mt mt x1 zE [] zD false x2 x5) (PL p1 m1 c1 p2 m2 c2 p5 m5 c5))) ?_ rfl (PO.ok ((dz HS)) qe ⟨(PL p1 m1 c1 p2 m2 c2 p5 m5 c5),rfl,q _ qe⟩ (HR.out.low qe));exact Ud
 · replace HS:=lY (xG HS i3);replace KS:=V (SH (w2:=w3) KS.out qe);replace Z:=bV Z w3;replace Y:=bV Y w3;replace HB:=eu HB w3;replace HR:=V R3;clear b3 R3;clear i3 d_ KL;go_wp2_with fail;refine po HS HB (gI _ _ (HR.out.low qe) bR) ?_;clear HS HB HR;rintro x4 u4 v4 w4-HS b4 rfl HR HB;replace Z:=bV Z w4;replace Y:=bV Y w4;replace KS:=V (SH (w2:=w4) KS.out qe);clear b4;obtain⟨W,hP⟩:=jr (c:=cs (.mk 3 mt mt x1 zE [] zD false x2 []) (PL p1 m1 c1 p2 m2 c2 U 0 0)) Z.out pE (Sm.jF _ _) rfl;have jK:=hP.bt;have gQ:=V hP.box;have jL:=hP.size;go_wp2_with (first|(refine wpList_load_row rfl 62 _ rfl _ rfl 62 _ (0,0) _ Y.out underlying62 rfl dx ?_)|(refine jw rfl 62 _ _ rfl w.heap.size _ rfl rfl hP ?_))
   have bY:=HB.out;refine af (v:=.agg (cs (.mk 3 mt mt x1 zE [] zD false x2 []) (PL p1 m1 c1 p2 m2 c2 U 0 0))) ?_ rfl (PO.ok ((dz HS)) qe ⟨(PL p1 m1 c1 p2 m2 c2 U 0 0),rfl,MK KS.out qe⟩ (HR.out.low qe));exact Ud
end
end Ps
namespace Ps
open Go.RowKit
open Lx (Tk)
open Sm (St dA dh cs)
open Md (Rec fe Rw bU Kind g_ lW)
def kM:Rec St:=fun G w x c=>∃P,c=cs x P/\dh G w x P
theorem kM.map:fe kM:=by
 intro G H w w2 hs hk x c ⟨P,h1,h2⟩;exact⟨P,h1,Sm.dh.map hs hk x h2⟩
theorem Du:g_ 21 kM:=by
 intro G w x c ⟨P,h1,h2⟩;subst h1;exact⟨rfl,Sm.jF _ _⟩
theorem kSt:Kind 43 62 21:=lW underlying43 (z:=.agg #[.int .i64 0,.string ⟨#[]⟩,.string ⟨#[]⟩,.int .i64 0,.string ⟨#[]⟩,.int .i64 0,.slice U 0 0,.int .i64 0,.string ⟨#[]⟩,.int .i64 0,.slice U 0 0,.slice U 0 0,.int .i64 0,.int .i64 0,.int .i64 0,.int .i64 0,.slice U 0 0,.slice U 0 0,.bool false,.slice U 0 0,.slice U 0 0]) (b:=312) dx bR bR bR
theorem aaw {G:Nat->Prop} {w:ai} {l:List St} {p:Option Addr} {m:Nat} (h:Rw 21 kM G w l p m):dA G w l p m:=by
 obtain⟨h1,h2,h3|⟨b,o,rfl,hg,hb,hc⟩⟩:=h
 · exact⟨h1,h2,.inl h3⟩
 · refine⟨h1,h2,.inr ⟨b,o,rfl,hg,hb,V fun i hi=>?_⟩⟩;obtain⟨c,h4,h5,P,rfl,h6⟩:=hc.out i hi;exact⟨P,h5,h6⟩
structure aer (L:Lk) (g:Nat) (r:R (List St)) (m:P St) (N:Nat) (w:ai) (k:Nat) (v:Value) (wr:ai):Prop where
 ex:∃l u,run (yS m k l) u=r/\u.length<k/\u.length<=N/\l.length+u.length<=30000/\bZ 62 21 kM (fun b=>w.heap.size<=b) wr v l/\Rd L g u wr
 bt:Bt g w wr
section
variable {L:Lk} {g:Nat} {t:List Tk}
theorem Ue {p:Prop} (h:p:=by
 have HW:=V hrw;clear hrw;go_wp2_with fail;go_ret;exact PO.ok (dz HS) HB.out ⟨p,_,c,rfl,aaw HW.out⟩ HR.out
 ):p:=h
theorem Jk {p:Prop} (h:p:=by have:=HL.out;omega):p:=h
theorem anM (m:P St) (hm:Dn 1 m) (w:ai) (hR:Rd L g t w) (hC:∀W u,Rd L g u W->u.length<=t.length->av ag 101 #[.pointer (ak ⟨g,0,U⟩)] W (PO L g wo (run m u) W)):av ag 59 #[.pointer (ak ⟨g,0,U⟩)] w (PO L g Aw (run (yS m FU []) t) w):=by
 have ht:=hR.small;have HC:=V hC;have HM:=V hm;clear hC hm;refine eQ hR ?_;clear hR;intro r HS HR HB hg;go_enter func59,ntmps59;go_wp2_with fail;go_loopg [3] FU (aer L g r m t.length w)
 case atStart=>exact⟨⟨[],t,HS.out,by unfold FU;omega,aj _,by simp;omega,bZ.nil,HR.out⟩,HB.out⟩
 case round=>
  obtain⟨⟨l,u,hs,hk,hn,hl,ho,hR⟩,hb⟩:=hrel;clear HS HB HR;obtain⟨k,rfl⟩:∃k,gk=k+1:=⟨gk-1,by omega⟩
  rw[yS] at hs;have HL:=V hl;have HK:=V hk;have HN:=V hn;have HO:=V ho;have HR:=V hR;have HB:=V hb;have HS:=V hs;have mM:Hid (∀x v,run m u=.ok x v->Gd v/\v.length+1<=u.length):=V fun x v h=>HM.out.out hR.gd h;have q:=KY (hd u).k (hd u).n (hd u).l (hd u).t;have hup:Hid (∀W,Bt g wr W->bZ 62 21 kM (fun b=>w.heap.size<=b) W u3 l):=V fun W hW=>HO.out.up kM.map (hW.mono fun k _ hk=>by have:w.heap.size<=k:=hk;omega) (aj _);clear hl hk hn ho hR hb hs
  cases i1:is oQ u
  rotate_left 1
  · replace HS:=DI HS i1;go_wp2_with fail;refine gi HR HB (oz oQ _ (HR.out.low qe)) ?_;clear HR HB;rintro w1 b1-HR HB;rw[i1];have B1:=V b1;clear b1;clear i1;obtain⟨p,c,rfl,hrw⟩:=(hup.out w1 B1.out).rw kM.map Du Jk;exact Ue
  replace HS:=DF HS i1
  cases i2:is AV u
  rotate_left 1
  · replace HS:=DI HS i2;go_wp2_with fail;refine gi HR HB (oz oQ _ (HR.out.low qe)) ?_;clear HR HB;rintro w1 b1-HR HB;rw[i1];have B1:=V b1;clear b1;go_wp2_with fail;refine gi HR HB (oz AV _ (HR.out.low qe)) ?_;clear HR HB;rintro w2 b2-HR HB;rw[i2];have B2:=V (B1.out.trans b2);clear b2;clear i1 i2;obtain⟨p,c,rfl,hrw⟩:=(hup.out w2 B2.out).rw kM.map Du Jk;exact Ue
  replace HS:=DF HS i2;by_cases hk0:(hd u).k=0
  · have hk1:((hd u).k != 0)=false:=by simp[hk0]
    replace HS:=SV HS hk0;clear hk0;go_wp2_with fail;refine gi HR HB (oz oQ _ (HR.out.low qe)) ?_;clear HR HB;rintro w1 b1-HR HB;rw[i1];have B1:=V b1;clear b1;go_wp2_with fail;refine gi HR HB (oz AV _ (HR.out.low qe)) ?_;clear HR HB;rintro w2 b2-HR HB;rw[i2];have B2:=V (B1.out.trans b2);clear b2;clear i1 i2;go_wp2_with fail;refine gi HR HB (yU _ (HR.out.low qe)) ?_;clear HR HB;rintro w3 b3-HR HB;have B3:=V (B2.out.trans b3);clear b3;unfold tv;obtain⟨p,c,rfl,hrw⟩:=(hup.out w3 B3.out).rw kM.map Du Jk;exact Ue
  · have hk1:((hd u).k != 0)=true:=by simp[hk0]
    replace HS:=SX HS hk0;clear hk0;go_wp2_with fail;refine gi HR HB (oz oQ _ (HR.out.low qe)) ?_;clear HR HB;rintro w1 b1-HR HB;rw[i1];have B1:=V b1;clear b1;go_wp2_with fail;refine gi HR HB (oz AV _ (HR.out.low qe)) ?_;clear HR HB;rintro w2 b2-HR HB;rw[i2];have B2:=V (B1.out.trans b2);clear b2;clear i1 i2;go_wp2_with fail;refine gi HR HB (yU _ (HR.out.low qe)) ?_;clear HR HB;rintro w3 b3-HR HB;have B3:=V (B2.out.trans b3);clear b3;unfold tv;obtain⟨p5,c5,hv⟩:∃p c,u3=.slice p l.length c:=by
     obtain⟨p,c,h,-⟩:=HO.out.rw kM.map Du Jk;exact⟨p,c,h⟩
    subst hv;go_wp2_with fail;clear q hk1;refine po HS HB (HC.out _ _ (HR.out.low qe) HN.out) ?_;clear HS HR;rintro x4 u4' v4 w4 r4 HS b4 V4 HR B4;have oD:=V (mM.out _ _ r4);have s3:=HB.out.size;have s4:=b4.size;obtain⟨P4,rfl,k4⟩:=V4;have xh:bZ 62 21 kM (fun b=>w.heap.size<=b) w4 (.slice p5 l.length c5) l:=(hup.out w4 (B3.out.trans b4))
    have HY:Hid (kM (fun b=>w.heap.size<=b/\¬(Value.slice p5 l.length c5).ownBlock=ak b) (w4.alloc (.cells (cs x4 P4) 62)) x4 (cs x4 P4)):=V ⟨P4,rfl,Sm.dh.map (G:=fun b=>w3.heap.size<=b) cK (fun b hb hlt=>⟨⟨by have hb':w3.heap.size<=b:=hb;omega,fun e=>by have h9:=HO.out.own e;have h8:=B3.out.size;have hb':w3.heap.size<=b:=hb;omega⟩,by show(w4.heap.push _)[b]?=_;rw[Array.getElem?_push,if_neg bT]⟩) _ k4⟩;replace HO:=V xh;replace HB:=B4;clear b4 r4 xh mM k4 hup;have o4:bZ 62 21 kM (fun b=>w.heap.size<=b) (w4.alloc (.cells (cs x4 P4) 62)) (.slice p5 l.length c5) l:=HO.out.up kM.map qe (aj _);have c4:bU (w4.alloc (.cells (cs x4 P4) 62)) w4.heap.size 62 (cs x4 P4):=bU.new;obtain⟨v5,w5,hrun,o5,hg5⟩:=o4.app kSt kM.map Du c4.cell (x:=x4) HY.out Jk;have B5:Hid (Bt g w w5):=V (bS.grown qh hg5 fun b hb=>.inl (o4.blk b hb));have R5:Hid (Rd L g u4' w5):=V (HR.out.low (bS.grown qe hg5 fun b hb=>.inr BL));have O5:Hid (bZ 62 21 kM (fun b=>w.heap.size<=b) w5 v5 (l++[x4])):=V (o5.map kM.map (aj _) fun b hb _=>⟨by
     rcases hb with hb|hb
     · exact hb
     · have e:(w4.alloc (.cells (cs x4 P4) 62)).heap.size=w4.heap.size+1:=by simp
       omega,rfl⟩)
    clear o4 c4 o5 hg5 HB HR HO HY;dsimp only [cs] at hrun ⊢;go_wp2_with (at_builtin;refine Lib.wpList_append_run _ rfl _ _ _ _ rfl _ _ rfl rfl _ _ hrun ?_)
    refine(kS _ R5.out).mono ?_;rintro e w6 h6;rcases h6.cases with⟨x6,u6',v6,r6,rfl,b6,V6,R6⟩|⟨u6',r6,rfl,b6⟩
    rotate_left 1
    · have bY:=B5.out;go_wp2_with fail;exact⟨rfl,PO.no (fw HS (by assumption)) qe⟩
    have HT6:=V ((nG.out oD.out.1 r6).2);replace HS:=eY HS r6;obtain rfl:=V6;have O6:Hid (bZ 62 21 kM (fun b=>w.heap.size<=b) w6 v5 (l++[x4])):=V (O5.out.up kM.map (b6.mono fun k _ hk=>by have:w.heap.size<=k:=hk;omega) (aj _));have B6:Hid (Bt g w w6):=V (by have bY:=B5.out;exact qe);have R6':=V R6;clear b6 R6 r6 h6 hrun B5 R5 O5;go_wp2_with fail;go_roundg k
    case measure=>omega
    case rel=>
     have h1:=oD.out.2;have h2:=HK.out;have h3:=HN.out;have h4:=HL.out;have h5:=HT6.out;exact⟨⟨_,u6',HS.out,by omega,by omega,by simp at h4 ⊢; omega,O6.out,R6'.out⟩,B6.out⟩
end
end Ps
namespace Ps
open Go.RowKit
open Lx (Tk)
open Sm (dA)
theorem S_ (L:Lk) (g:Nat):∀n W u,Rd L g u W->u.length<n->av ag 59 #[.pointer (ak ⟨g,0,U⟩)] W (PO L g Aw (run (fS n) u) W)
 | 0,_,_,_,h=>absurd h (Nat.not_lt_zero _)
 | n+1,W,u,hR,h=>by
  rw[fS];refine anM (stt (fS n)) (Xi (Kv n)) W hR fun W1 u1 hR1 h1=>?_;refine anL (fS n) W1 hR1 (fun W2 u2 hR2 h2=>?_) (fun W2 u2 hR2 h2=>?_)
  · exact agr (fS n) (Kv n) W2 hR2 fun W3 u3 QR h3=>S_ L g n W3 u3 QR bT
  · exact aj_ (fS n) W2 hR2 fun W3 u3 QR h3=>S_ L g n W3 u3 QR bT
section
variable {L:Lk} {g:Nat} {t:List Tk}
theorem ab2 (w:ai) (hR:Rd L g t w):av ag 59 #[.pointer (ak ⟨g,0,U⟩)] w (PO L g Aw (run Bq t) w):=S_ L g FU w t hR hR.fu
theorem akR (w:ai) (hR:Rd L g t w):av ag 27 #[.pointer (ak ⟨g,0,U⟩)] w (PE g Aw (run Fb t) w):=by
 obtain⟨r,hr⟩:∃r,run Fb t=r:=⟨_,rfl⟩
 rw[hr];have HS:=V hr;have hg:=hR.blk;have HR:=V hR;have HB:Hid (Bt g w w):=V (bS.refl _ _);clear hR hr;go_enter func27,ntmps27;go_wp2_with fail;refine(ab2 _ (HR.out.low qe)).mono ?_;rintro e w1 h1;rcases h1.cases with⟨x1,u1,v1,r1,rfl,b1,V1,R1⟩|⟨u1,r1,rfl,b1⟩
 rotate_left 1
 · exact Ux
 replace HS:=eY HS r1;obtain⟨p1,m1,c1,rfl,k1⟩:=V1;have KL:=V k1;have hz:w.heap.size<=w1.heap.size:=b1.size;replace HB:=eu HB w1;replace HR:=V R1;clear b1 R1;clear k1 h1 r1;go_wp2_with fail;refine(Ql _ (HR.out.low qe)).mono ?_;rintro e w3 h3;rcases h3.cases with⟨x3,u3,v3,r3,rfl,b3,V3⟩|⟨u3,r3,rfl,b3⟩
 rotate_left 1
 · have bY:=HB.out;go_wp2_with fail;exact⟨rfl,PE.no (fw HS r3) qe⟩
 replace HS:=eY HS r3;obtain rfl:=V3;have KM:Hid (dA (fun b=>w.heap.size<=b) w3 x1 p1 m1):=V (Sm.dA.map b3.size (fun b hb hlt=>⟨hb,b3.block b hlt (by have hb':w.heap.size<=b:=hb;omega)⟩) KL.out);replace HB:=eu HB w3;clear b3 r3 h3 KL;go_wp2_with fail;go_ret;exact PE.ok (dz HS) HB.out ⟨p1,m1,c1,rfl,KM.out⟩
end
end Ps
end Go.Proofs.YtkpekhpgdajabaaGreatDoor
