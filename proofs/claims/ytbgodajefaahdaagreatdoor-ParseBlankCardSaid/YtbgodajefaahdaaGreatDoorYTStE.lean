/-
  Parts of this proof: The contract of the reader's seize. The contract of the reader's statement, where it. The contracts of the reader's loop and choice. The contract of the reader's statements, where a. The contract of the reader's statements, by leve. The contract of follow for statements.
-/
import Derived.Test.YtbgodajefaahdaaGreatDoorYTLstI
open Go.Lib renaming hid->U
open Option renaming none->V,some->aj
open Go renaming bodyPost_ret->ae,World->ai,Calls->au,results_cell_row->av
open Go.World renaming setCell->af,cell?->ah,frozen?->ak
open Go.Proofs.Tryz renaming prog->ag
open Go.RowKit renaming Hid->X
open Nat renaming le_refl->ax
set_option linter.unusedVariables false
open Go.Lib (hid)
namespace Go.Proofs.YtbgodajefaahdaaGreatDoor
namespace Ps
open Ps.P (rt bd acc exp)
open Go.RowKit
open Lx (Tk mt)
open Ex (Ex bW)
open Sm (St cZ Pl cs qH zD)
open Md (bT)
set_option maxHeartbeats 1000000
theorem aka {o:Int} {t u:List Tk} {x:St} (h:run (qZ o) t=.ok x u):∃s e,x=dD o s mt e/\∀{α:Type} (K:ByteArray->Ex->P α),run (bd fP fun s=>bd kF fun e=>K s e) t=run (K s e) u:=by
 unfold qZ at h
 cases hn:run fP t with
 | no v=>rw[fQ hn] at h;cases h
 | ok s v=>
  rw[fD hn] at h
  cases he:run kF v with
  | no v2=>rw[fQ he] at h;cases h
  | ok e v2=>
   rw[fD he,zL] at h;cases h
   exact⟨s,e,rfl,fun K=>by rw[fD hn,fD he]⟩
theorem aj_ {o:Int} {t u:List Tk} (h:run (qZ o) t=.no u) {α:Type} (K:ByteArray->Ex->P α):run (bd fP fun s=>bd kF fun e=>K s e) t=.no u:=by
 unfold qZ at h
 cases hn:run fP t with
 | no v=>rw[fQ hn] at h ⊢; cases h;rfl
 | ok s v=>
  rw[fD hn] at h ⊢
  cases he:run kF v with
  | no v2=>rw[fQ he] at h ⊢; cases h;rfl
  | ok e v2=>rw[fD he,zL] at h;cases h
def PG (P:Pl) (p:Option Addr) (m c:Nat):Pl:={ P with gp:=p,gm:=m,gc:=c }
theorem arb {G:Nat->Prop} {w:ai} {s:ByteArray} {e x:Ex} {P:Pl} {p:Option Addr} {m c:Nat} {b:Bool} (h:cZ G w (dD 6 s mt e) P) (hx:bW G w x p m):cZ G w (.mk 6 s mt e x [] zD b [] []) (PG P p m c):=by
 obtain⟨⟨h1,-,h3,h4,h5⟩,h6,h7⟩:=qH.1 h;exact qH.2 ⟨⟨h1,hx,h3,h4,h5⟩,h6,h7⟩
section
variable {L:Lk} {g:Nat} {t:List Tk}
theorem Ia {p:Prop} (h:p:=by first|(left;simp;done)|(left;simp;omega)|(right;simp;done)|(right;simp;omega)):p:=h
set_option maxRecDepth 100000 in
theorem aqW (w:ai) (hR:Rd L g t w):au ag 132 #[.pointer (aj ⟨g,0,V⟩)] w (PO L g xS (run (bd fP fun s=>bd kF fun e=>bd (exp Uz) fun _=>bd kF fun g=>bd (acc OP (rt true) (rt false)) fun b=>rt (St.mk 6 s mt e g [] zD b [] [])) t) w):=by
 obtain⟨r,hr⟩:∃r,run (bd fP fun s=>bd kF fun e=>bd (exp Uz) fun _=>bd kF fun g=>bd (acc OP (rt true) (rt false)) fun b=>rt (St.mk 6 s mt e g [] zD b [] [])) t=r:=⟨_,rfl⟩
 rw[hr];have HS:=U hr;have hg:=hR.blk;have HR:=U hR;have HB:X (Bt g w w):=U (bR.refl _ _);clear hR hr;have Z:=U (bT.new (w:=w) (t:=60) (c:=#[.int .i64 0,.string ⟨#[]⟩,.string ⟨#[]⟩,.int .i64 0,.string ⟨#[]⟩,.int .i64 0,.slice V 0 0,.int .i64 0,.string ⟨#[]⟩,.int .i64 0,.slice V 0 0,.slice V 0 0,.int .i64 0,.int .i64 0,.int .i64 0,.int .i64 0,.slice V 0 0,.slice V 0 0,.bool false,.slice V 0 0,.slice V 0 0]));have hz0:=Z.out.lt;go_enter Tryz.func132,Tryz.ntmps132;go_wp2_with fail;refine(Gi 6 _ (HR.out.low qe)).mono ?_;rintro ee w1 h1;rcases h1.cases with⟨x1,u1,v1,r1,rfl,b1,V1,R1⟩|⟨u1,r1,rfl,b1⟩
 rotate_left 1
 · have bU:=HB.out;go_wp2_with fail;exact⟨rfl,PO.no (HS.out.symm.trans (aj_ r1 _)) qe⟩
 obtain⟨s,e,rfl,hK⟩:=aka r1;replace HS:=U ((hK _).symm.trans HS.out);replace Z:=U (bS (w2:=w1) Z.out qe);obtain⟨P1,rfl,k1⟩:=V1;have KS:X (cZ (fun b=>w.heap.size<b) w1 (dD 6 s mt e) P1):=U (k1.mono fun b hb hlt=>(by have hb':_<=b:=hb;simp at hb';omega));replace HB:X (Bt g w w1):=U qh;replace HR:=U R1;clear b1 R1;clear k1 h1 r1 hK;have hz1:=Z.out.lt;have Y:=U (bT.new (w:=w1) (t:=60) (c:=cs (dD 6 s mt e) P1));go_wp2_with (refine Qp rfl _ _ rfl _ (cs (dD 6 s mt e) P1) rfl rfl rfl rfl (Sm.jL _ _) ?_)
 refine(gW _ _ (HR.out.low qe) (by decide)).mono ?_;rintro e w3 h3;rcases h3.cases with⟨x3,u3,v3,r3,rfl,b3,V3,R3⟩|⟨u3,r3,rfl,b3⟩
 rotate_left 1
 · have bU:=HB.out;go_wp2_with fail;exact⟨rfl,PO.no (dJ HS (by assumption)) qe⟩
 replace HS:=bY HS r3;replace Z:=U (bS (w2:=w3) Z.out qe);replace Y:=U (bS (w2:=w3) Y.out qe);have QP:X (bR (fun b=>b<w1.heap.size/\w.heap.size<b) w1 w3):=U qe;replace HB:X (Bt g w w3):=U qh;replace HR:=U R3;clear b3 R3;clear r3 h3;obtain rfl:=V3;have KP:X (cZ (fun b=>w.heap.size<b/\¬b=w1.heap.size) w3 (dD 6 s mt e) P1):=U (by
  have q:=QP.out;exact Sm.cZ.map q.size (fun b hb hlt=>⟨⟨hb,by omega⟩,q.block b hlt ⟨hlt,hb⟩⟩) _ KS.out)
 clear QP;clear KS;have hz3:=Z.out.lt;have hy3:=Y.out.lt;go_wp2_with fail;refine(BD _ (HR.out.low qe)).mono ?_;rintro e w4 h4;rcases h4.cases with⟨x4,u4,v4,r4,rfl,b4,V4,R4⟩|⟨u4,r4,rfl,b4⟩
 rotate_left 1
 · have bU:=HB.out;go_wp2_with fail;exact⟨rfl,PO.no (dJ HS (by assumption)) qe⟩
 replace HS:=bY HS r4;replace Z:=U (bS (w2:=w4) Z.out qe);replace Y:=U (bS (w2:=w4) Y.out qe);replace KP:=U (Sm.cZ.map b4.size (fun b hb hlt=>⟨hb,bR.block (S:=fun b=>w.heap.size<b/\¬b=w1.heap.size) qe b hlt hb⟩) _ KP.out);replace HB:X (Bt g w w4):=U qh;replace HR:=U R4;clear b4 R4;clear r4 h4;obtain⟨p4,m4,c4,rfl,k4⟩:=V4;have K4:X (∀z,cZ (fun b=>w.heap.size<b/\¬b=w1.heap.size) ((((w4.setCell ⟨w1.heap.size,7,V⟩ (.int .i64 x4.o)).setCell ⟨w1.heap.size,8,V⟩ (.string x4.s)).setCell ⟨w1.heap.size,9,V⟩ (.int .i64 x4.n)).setCell ⟨w1.heap.size,10,V⟩ (.slice p4 m4 c4)) (.mk 6 s mt e x4 [] zD z [] []) (PG P1 p4 m4 c4)):=U fun z=>by
  have q:bR (fun b=>w.heap.size<b/\¬b=w1.heap.size) w4 ((((w4.setCell ⟨w1.heap.size,7,V⟩ (.int .i64 x4.o)).setCell ⟨w1.heap.size,8,V⟩ (.string x4.s)).setCell ⟨w1.heap.size,9,V⟩ (.int .i64 x4.n)).setCell ⟨w1.heap.size,10,V⟩ (.slice p4 m4 c4)):=by exact qe
  exact Sm.cZ.map q.size (fun b hb hlt=>⟨hb,q.block b hlt hb⟩) _ (arb KP.out (k4.mono fun b hb hlt=>by
   have hb':w3.heap.size<=b:=hb;exact⟨by omega,by omega⟩))
 clear KP k4;dsimp only [cu];have l7:ah _ ⟨_,7,V⟩=aj (.int .i64 0):=Y.out.get rfl;have l8:ah _ ⟨_,8,V⟩=aj (.string ⟨#[]⟩):=Y.out.get rfl;have l9:ah _ ⟨_,9,V⟩=aj (.int .i64 0):=Y.out.get rfl;have l10:ah _ ⟨_,10,V⟩=aj (.slice P1.gp P1.gm P1.gc):=Y.out.get rfl;have fy:∀i,ak _ ⟨_,i,V⟩=false:=fun i=>df (i:=i) Y.out;go_wp2_with fail;replace Y:=U (fq (i:=7) (v:=.int .i64 x4.o) Y.out);replace Z:=U (bS (w2:=af w4 ⟨w1.heap.size,7,V⟩ (.int .i64 x4.o)) Z.out qe);replace HR:=U (HR.out.low (w2:=af w4 ⟨w1.heap.size,7,V⟩ (.int .i64 x4.o)) qe);replace HB:=U (bR.set (p:=⟨w1.heap.size,7,V⟩) (v:=.int .i64 x4.o) HB.out Ia);replace Y:=U (fq (i:=8) (v:=.string x4.s) Y.out);replace Z:=U (bS (w2:=af (w4.setCell ⟨w1.heap.size,7,V⟩ (.int .i64 x4.o)) ⟨w1.heap.size,8,V⟩ (.string x4.s)) Z.out qe);replace HR:=U (HR.out.low (w2:=af (w4.setCell ⟨w1.heap.size,7,V⟩ (.int .i64 x4.o)) ⟨w1.heap.size,8,V⟩ (.string x4.s)) qe);replace HB:=U (bR.set (p:=⟨w1.heap.size,8,V⟩) (v:=.string x4.s) HB.out Ia);replace Y:=U (fq (i:=9) (v:=.int .i64 x4.n) Y.out);replace Z:=U (bS (w2:=af ((w4.setCell ⟨w1.heap.size,7,V⟩ (.int .i64 x4.o)).setCell ⟨w1.heap.size,8,V⟩ (.string x4.s)) ⟨w1.heap.size,9,V⟩ (.int .i64 x4.n)) Z.out qe);replace HR:=U (HR.out.low (w2:=af ((w4.setCell ⟨w1.heap.size,7,V⟩ (.int .i64 x4.o)).setCell ⟨w1.heap.size,8,V⟩ (.string x4.s)) ⟨w1.heap.size,9,V⟩ (.int .i64 x4.n)) qe);replace HB:=U (bR.set (p:=⟨w1.heap.size,9,V⟩) (v:=.int .i64 x4.n) HB.out Ia);replace Y:=U (fq (i:=10) (v:=.slice p4 m4 c4) Y.out);replace Z:=U (bS (w2:=af (((w4.setCell ⟨w1.heap.size,7,V⟩ (.int .i64 x4.o)).setCell ⟨w1.heap.size,8,V⟩ (.string x4.s)).setCell ⟨w1.heap.size,9,V⟩ (.int .i64 x4.n)) ⟨w1.heap.size,10,V⟩ (.slice p4 m4 c4)) Z.out qe);replace HR:=U (HR.out.low (w2:=af (((w4.setCell ⟨w1.heap.size,7,V⟩ (.int .i64 x4.o)).setCell ⟨w1.heap.size,8,V⟩ (.string x4.s)).setCell ⟨w1.heap.size,9,V⟩ (.int .i64 x4.n)) ⟨w1.heap.size,10,V⟩ (.slice p4 m4 c4)) qe);replace HB:=U (bR.set (p:=⟨w1.heap.size,10,V⟩) (v:=.slice p4 m4 c4) HB.out Ia);replace Y:X (bT ((((w4.setCell ⟨w1.heap.size,7,V⟩ (.int .i64 x4.o)).setCell ⟨w1.heap.size,8,V⟩ (.string x4.s)).setCell ⟨w1.heap.size,9,V⟩ (.int .i64 x4.n)).setCell ⟨w1.heap.size,10,V⟩ (.slice p4 m4 c4)) w1.heap.size 60 (cs (.mk 6 s mt e x4 [] zD false [] []) (PG P1 p4 m4 c4))):=U Y.out;clear l7 l8 l9 l10 fy;refine(dL OP _ (HR.out.low qe) (by decide)).mono ?_;rintro e w5 ⟨b5,⟨i5,rfl,R5⟩|⟨i5,rfl,R5⟩⟩
 · replace HS:=nJ (yI HS i5);replace Z:=U (bS (w2:=w5) Z.out qe);replace Y:=U (bS (w2:=w5) Y.out qe);have K5:X (cZ (fun b=>w.heap.size<b/\¬b=w1.heap.size) w5 (.mk 6 s mt e x4 [] zD true [] []) (PG P1 p4 m4 c4)):=U (by
    have q:bR (fun b=>w.heap.size<b/\¬b=w1.heap.size) ((((w4.setCell ⟨w1.heap.size,7,V⟩ (.int .i64 x4.o)).setCell ⟨w1.heap.size,8,V⟩ (.string x4.s)).setCell ⟨w1.heap.size,9,V⟩ (.int .i64 x4.n)).setCell ⟨w1.heap.size,10,V⟩ (.slice p4 m4 c4)) w5:=by exact qe
    exact Sm.cZ.map q.size (fun b hb hlt=>⟨hb,q.block b hlt hb⟩) _ (K4.out true))
   replace HB:X (Bt g w w5):=U qh;replace HR:=U R5;clear b5 R5;clear i5 K4;have l18:ah _ ⟨_,18,V⟩=aj (.bool false):=Y.out.get rfl;have fy:∀i,ak _ ⟨_,i,V⟩=false:=fun i=>df (i:=i) Y.out;replace Y:=U (fq (i:=18) (v:=.bool true) Y.out);replace Z:=U (bS (w2:=af w5 ⟨w1.heap.size,18,V⟩ (.bool true)) Z.out qe);replace HR:=U (HR.out.low (w2:=af w5 ⟨w1.heap.size,18,V⟩ (.bool true)) qe);replace HB:=U (bR.set (p:=⟨w1.heap.size,18,V⟩) (v:=.bool true) HB.out Ia);replace Y:X (bT (w5.setCell ⟨w1.heap.size,18,V⟩ (.bool true)) w1.heap.size 60 (cs (.mk 6 s mt e x4 [] zD true [] []) (PG P1 p4 m4 c4))):=U Y.out;obtain⟨W,hP⟩:=gM (c:=cs (.mk 6 s mt e x4 [] zD true [] []) (PG P1 p4 m4 c4)) Z.out kC (Sm.jL _ _) rfl;have gY:=hP.bt;have eT:=U hP.box;have gZ:=hP.size;go_wp2_with (first|(refine wpList_load_row rfl 60 _ rfl _ rfl 60 _ (0,0) _ Y.out Tryz.underlying60 rfl (by kernel_rfl) ?_)|(refine gN rfl 60 _ _ rfl w.heap.size _ rfl rfl hP ?_))
   have q:∀W,bR (fun b=>w.heap.size<b/\¬b=w1.heap.size) w5 W->cZ (fun b=>w.heap.size<=b) W (.mk 6 s mt e x4 [] zD true [] []) (PG P1 p4 m4 c4):=fun W q=>Sm.cZ.map q.size (fun b hb hlt=>⟨Nat.le_of_lt hb.1,q.block b hlt hb⟩) _ K5.out;have bU:=HB.out;refine ae (v:=.agg (cs (.mk 6 s mt e x4 [] zD true [] []) (PG P1 p4 m4 c4))) ?_ rfl (PO.ok ((dA HS)) qe ⟨(PG P1 p4 m4 c4),rfl,q _ qe⟩ (HR.out.low qe));exact av rfl _ _ w.heap.size 60 _ (0,0) _ rfl eT.out Tryz.underlying60 rfl (by kernel_rfl)
 · replace HS:=nJ (yH HS i5);replace Z:=U (bS (w2:=w5) Z.out qe);replace Y:=U (bS (w2:=w5) Y.out qe);have K5:X (cZ (fun b=>w.heap.size<b/\¬b=w1.heap.size) w5 (.mk 6 s mt e x4 [] zD false [] []) (PG P1 p4 m4 c4)):=U (by
    have q:bR (fun b=>w.heap.size<b/\¬b=w1.heap.size) ((((w4.setCell ⟨w1.heap.size,7,V⟩ (.int .i64 x4.o)).setCell ⟨w1.heap.size,8,V⟩ (.string x4.s)).setCell ⟨w1.heap.size,9,V⟩ (.int .i64 x4.n)).setCell ⟨w1.heap.size,10,V⟩ (.slice p4 m4 c4)) w5:=by exact qe
    exact Sm.cZ.map q.size (fun b hb hlt=>⟨hb,q.block b hlt hb⟩) _ (K4.out false))
   replace HB:X (Bt g w w5):=U qh;replace HR:=U R5;clear b5 R5;clear i5 K4;have l18:ah _ ⟨_,18,V⟩=aj (.bool false):=Y.out.get rfl;have fy:∀i,ak _ ⟨_,i,V⟩=false:=fun i=>df (i:=i) Y.out;replace Y:=U (fq (i:=18) (v:=.bool false) Y.out);replace Z:=U (bS (w2:=af w5 ⟨w1.heap.size,18,V⟩ (.bool false)) Z.out qe);replace HR:=U (HR.out.low (w2:=af w5 ⟨w1.heap.size,18,V⟩ (.bool false)) qe);replace HB:=U (bR.set (p:=⟨w1.heap.size,18,V⟩) (v:=.bool false) HB.out Ia);replace Y:X (bT (w5.setCell ⟨w1.heap.size,18,V⟩ (.bool false)) w1.heap.size 60 (cs (.mk 6 s mt e x4 [] zD false [] []) (PG P1 p4 m4 c4))):=U Y.out;obtain⟨W,hP⟩:=gM (c:=cs (.mk 6 s mt e x4 [] zD false [] []) (PG P1 p4 m4 c4)) Z.out kC (Sm.jL _ _) rfl;have gY:=hP.bt;have eT:=U hP.box;have gZ:=hP.size;go_wp2_with (first|(refine wpList_load_row rfl 60 _ rfl _ rfl 60 _ (0,0) _ Y.out Tryz.underlying60 rfl (by kernel_rfl) ?_)|(refine gN rfl 60 _ _ rfl w.heap.size _ rfl rfl hP ?_))
   have q:∀W,bR (fun b=>w.heap.size<b/\¬b=w1.heap.size) w5 W->cZ (fun b=>w.heap.size<=b) W (.mk 6 s mt e x4 [] zD false [] []) (PG P1 p4 m4 c4):=fun W q=>Sm.cZ.map q.size (fun b hb hlt=>⟨Nat.le_of_lt hb.1,q.block b hlt hb⟩) _ K5.out;have bU:=HB.out;refine ae (v:=.agg (cs (.mk 6 s mt e x4 [] zD false [] []) (PG P1 p4 m4 c4))) ?_ rfl (PO.ok ((dA HS)) qe ⟨(PG P1 p4 m4 c4),rfl,q _ qe⟩ (HR.out.low qe));exact av rfl _ _ w.heap.size 60 _ (0,0) _ rfl eT.out Tryz.underlying60 rfl (by kernel_rfl)
end
end Ps
namespace Ps
open Ps.P (rt bd acc kw exp)
open Go.RowKit
open Lx (Tk mt)
open Ex (Ex bW)
open Sm (St Dt Ints dE cZ Pl cs qH zE zD)
open Md (bT)
set_option maxHeartbeats 4000000
def PD (vp:Option Addr) (vm vc:Nat) (wp:Option Addr) (wm wc:Nat):Pl:=⟨V,0,0,V,0,0,V,0,0,vp,vm,vc,wp,wm,wc,V,0,0,V,0,0⟩
theorem ara {G:Nat->Prop} {w:ai} {o:Int} {nm f:ByteArray} {d:Dt} {b:Bool} {vp:Option Addr} {vm vc:Nat} {wp:Option Addr} {wm wc:Nat} (h:Ints G w d.vs vp vm) (h2:Ints G w d.ws wp wm):cZ G w (.mk o nm f zE zE [] d b [] []) (PD vp vm vc wp wm wc):=qH.2 ⟨⟨Ex.bW.zero,Ex.bW.zero,Ex.bW.zero,h,h2⟩,Sm.dE.nil,Sm.dE.nil⟩
def Vo (B:P (List St)):P St:=bd cnd fun e=>bd B fun b=>bd (acc Cx (bd fU fun _=>B) (rt [])) fun l=>bd (exp qD) fun _=>rt (.mk 3 mt mt e zE [] zD false b l)
def Vp (B:P (List St)):P St:=bd cnd fun e=>bd B fun b=>bd (exp qD) fun _=>rt (.mk 4 mt mt e zE [] zD false b [])
section
variable {L:Lk} {g:Nat} {t:List Tk}
theorem ql {p:Prop} (h:p:=by
 exact av rfl _ _ w.heap.size 60 _ (0,0) _ rfl eT.out Tryz.underlying60 rfl (by kernel_rfl)
 ):p:=h
theorem zZ {p:Prop} (h:p:=by
 have bU:=HB.out;go_wp2_with fail;exact⟨rfl,PO.no (dJ HS (by assumption)) qe⟩
 ):p:=h
theorem vZ {p:Prop} (h:p:=by have hb':_<=b:=hb;first|(simp at hb';omega)|omega):p:=h
theorem Ib {p:Prop} (h:p:=by simp[Value.oneCell']):p:=h
set_option maxRecDepth 100000 in
theorem arI (B:P (List St)) (w:ai) (hR:Rd L g t w) (hCh:∀W u,Rd L g u W->u.length+1<=t.length->au ag 130 #[.pointer (aj ⟨g,0,V⟩)] W (PO L g xS (run (Vo B) u) W)) (hLo:∀W u,Rd L g u W->u.length+1<=t.length->au ag 131 #[.pointer (aj ⟨g,0,V⟩)] W (PO L g xS (run (Vp B) u) W)):au ag 81 #[.pointer (aj ⟨g,0,V⟩)] w (PO L g xS (run (stt B) t) w):=by
 have HCH:=U hCh;have HLO:=U hLo;have oJ:X (t.tail.length+1<=t.length):=U (by have:=hR.gd.ne;rw[List.length_tail];omega);clear hCh hLo;obtain⟨r,hr⟩:∃r,run (stt B) t=r:=⟨_,rfl⟩
 rw[hr];have HS:=U hr;have hg:=hR.blk;have HR:=U hR;have HB:X (Bt g w w):=U (bR.refl _ _);clear hR hr;have Z:=U (bT.new (w:=w) (t:=60) (c:=#[.int .i64 0,.string ⟨#[]⟩,.string ⟨#[]⟩,.int .i64 0,.string ⟨#[]⟩,.int .i64 0,.slice V 0 0,.int .i64 0,.string ⟨#[]⟩,.int .i64 0,.slice V 0 0,.slice V 0 0,.int .i64 0,.int .i64 0,.int .i64 0,.int .i64 0,.slice V 0 0,.slice V 0 0,.bool false,.slice V 0 0,.slice V 0 0]));go_enter Tryz.func81,Tryz.ntmps81;go_wp2_with fail;refine(dL adw _ (HR.out.low qe) (by decide)).mono ?_;rintro e w1 ⟨b1,⟨i1,rfl,R1⟩|⟨i1,rfl,R1⟩⟩
 · replace HS:=dY HS i1;replace Z:=U (bS (w2:=w1) Z.out qe);replace HB:X (Bt g w w1):=U qh;replace HR:=U R1;clear b1 R1;clear i1;go_wp2_with fail;have atq:=Z.out.lt;refine(aq2 _ (HR.out.low qe)).mono ?_;rintro e W9 abU;rcases abU.cases with⟨Xr,asg,atM,PH,rfl,Zh,aii,YO⟩|⟨asg,PH,rfl,Zh⟩
   rotate_left 1
   · have bU:=HB.out;go_wp2_with fail;exact⟨rfl,PO.no (HS.out.symm.trans PH) qe⟩
   have ahD:=U (HS.out.symm.trans PH);replace Z:=U (bS (w2:=W9) Z.out qe);replace HB:X (Bt g w W9):=U qh;replace HR:=U YO;clear Zh YO;clear PH abU;obtain⟨MG,rfl,acP⟩:=aii;have ahP:X (cZ (fun b=>w.heap.size<b) W9 Xr MG):=U (acP.mono fun b hb hlt=>vZ);clear acP;obtain⟨W,hP⟩:=gM (c:=cs Xr MG) Z.out kC (Sm.jL _ _) rfl;have gY:=hP.bt;have eT:=U hP.box;have gZ:=hP.size;go_wp2_with (refine gN rfl 60 _ _ rfl w.heap.size _ rfl rfl hP ?_)
   have bU:=HB.out;refine ae (v:=.agg (cs (Xr) (MG))) ?_ rfl (PO.ok (ahD.out) qe ⟨(MG),rfl,uz ahP.out qe⟩ (HR.out.low qe));exact ql
 replace HS:=dX HS i1;replace Z:=U (bS (w2:=w1) Z.out qe);replace HB:X (Bt g w w1):=U qh;replace HR:=U R1;clear b1 R1;clear i1;go_wp2_with fail;refine(dL ac8 _ (HR.out.low qe) (by decide)).mono ?_;rintro e w2 ⟨b2,⟨i2,rfl,R2⟩|⟨i2,rfl,R2⟩⟩
 · replace HS:=dY HS i2;replace Z:=U (bS (w2:=w2) Z.out qe);replace HB:X (Bt g w w2):=U qh;replace HR:=U R2;clear b2 R2;clear i2;go_wp2_with fail;refine(jR _ (HR.out.low qe)).mono ?_;rintro e afB abV;rcases abV.cases with⟨afI,ash,atN,Ve,rfl,Zi,aij,YP⟩|⟨ash,Ve,rfl,Zi⟩
   rotate_left 1
   · exact zZ
   replace HS:=bY HS Ve;replace Z:=U (bS (w2:=afB) Z.out qe);replace HB:X (Bt g w afB):=U qh;replace HR:=U YP;clear Zi YP;clear Ve abV;obtain rfl:=aij;have atr:=Z.out.lt;go_wp2_with fail;refine(O8 _ _ (HR.out.low qe) (by decide)).mono ?_;rintro e LA abW;rcases abW.cases with⟨afJ,asi,v107,Vf,rfl,Zj,aik,YQ⟩|⟨asi,Vf,rfl,Zj⟩
   rotate_left 1
   · exact zZ
   replace HS:=bY HS Vf;replace Z:=U (bS (w2:=LA) Z.out qe);replace HB:X (Bt g w LA):=U qh;replace HR:=U YQ;clear Zj YQ;clear Vf abW;obtain rfl:=aik;have att:=Z.out.lt;go_wp2_with fail;refine(Jv _ (HR.out.low qe)).mono ?_;rintro e LB abX;rcases abX.cases with⟨Qq,asj,atO,Vg,rfl,Zl,ail,YR⟩|⟨asj,Vg,rfl,Zl⟩
   rotate_left 1
   · exact zZ
   replace HS:=bY HS Vg;replace Z:=U (bS (w2:=LB) Z.out qe);replace HB:X (Bt g w LB):=U qh;replace HR:=U YR;clear Zl YR;clear Vg abX;obtain⟨vp,vm,vc,wp,wm,wc,rfl,kv,kw⟩:=ail;have KV:X (∀W,bR (fun b=>w.heap.size<b) LB W->Ints (fun b=>w.heap.size<=b) W Qq.vs vp vm/\Ints (fun b=>w.heap.size<=b) W Qq.ws wp wm):=U fun W q=>by
    have hk:∀b,(fun b=>LA.heap.size<=b) b->b<LB.heap.size->(fun b=>w.heap.size<=b) b/\W.heap[b]?=LB.heap[b]?:=fun b hb hlt=>⟨by show w.heap.size<=b;have hb':LA.heap.size<=b:=hb;omega,q.block b hlt (by have hb':LA.heap.size<=b:=hb;omega)⟩
    exact⟨Sm.Ints.map q.size hk kv,Sm.Ints.map q.size hk kw⟩
   clear kv kw;dsimp only [wG];obtain⟨W,hP⟩:=gM (c:=cs (.mk 2 afI afJ zE zE [] Qq false [] []) (PD vp vm vc wp wm wc)) Z.out kC (Sm.jL _ _) rfl;have gY:=hP.bt;have eT:=U hP.box;have gZ:=hP.size;go_wp2_with (refine gN rfl 60 _ _ rfl w.heap.size _ rfl rfl hP ?_)
   have bU:=HB.out;refine ae (v:=.agg (cs (.mk 2 afI afJ zE zE [] Qq false [] []) (PD vp vm vc wp wm wc))) ?_ rfl (PO.ok ((dA HS)) qe ⟨(PD vp vm vc wp wm wc),rfl,ara (KV.out _ qe).1 (KV.out _ qe).2⟩ (HR.out.low qe));exact ql
 replace HS:=dX HS i2;replace Z:=U (bS (w2:=w2) Z.out qe);replace HB:X (Bt g w w2):=U qh;replace HR:=U R2;clear b2 R2;clear i2;go_wp2_with fail;refine(dL kIf _ (HR.out.low qe) (by decide)).mono ?_;rintro e w3 ⟨b3,⟨i3,rfl,R3⟩|⟨i3,rfl,R3⟩⟩
 · replace HS:=dY HS i3;replace Z:=U (bS (w2:=w3) Z.out qe);replace HB:X (Bt g w w3):=U qh;replace HR:=U R3;clear b3 R3;clear i3;go_wp2_with fail;have atu:=Z.out.lt;refine(HCH.out _ _ (HR.out.low qe) oJ.out).mono ?_;rintro e W_ abY;rcases abY.cases with⟨Xt,asl,v109,PI,rfl,Zm,aim,YS⟩|⟨asl,PI,rfl,Zm⟩
   rotate_left 1
   · have bU:=HB.out;go_wp2_with fail;exact⟨rfl,PO.no (HS.out.symm.trans PI) qe⟩
   have ahE:=U (HS.out.symm.trans PI);replace Z:=U (bS (w2:=W_) Z.out qe);replace HB:X (Bt g w W_):=U qh;replace HR:=U YS;clear Zm YS;clear PI abY;obtain⟨MH,rfl,acQ⟩:=aim;have ahQ:X (cZ (fun b=>w.heap.size<b) W_ Xt MH):=U (acQ.mono fun b hb hlt=>vZ);clear acQ;obtain⟨W,hP⟩:=gM (c:=cs Xt MH) Z.out kC (Sm.jL _ _) rfl;have gY:=hP.bt;have eT:=U hP.box;have gZ:=hP.size;go_wp2_with (refine gN rfl 60 _ _ rfl w.heap.size _ rfl rfl hP ?_)
   have bU:=HB.out;refine ae (v:=.agg (cs (Xt) (MH))) ?_ rfl (PO.ok (ahE.out) qe ⟨(MH),rfl,uz ahQ.out qe⟩ (HR.out.low qe));exact ql
 replace HS:=dX HS i3;replace Z:=U (bS (w2:=w3) Z.out qe);replace HB:X (Bt g w w3):=U qh;replace HR:=U R3;clear b3 R3;clear i3;go_wp2_with fail;refine(dL adM _ (HR.out.low qe) (by decide)).mono ?_;rintro e w4 ⟨b4,⟨i4,rfl,R4⟩|⟨i4,rfl,R4⟩⟩
 · replace HS:=dY HS i4;replace Z:=U (bS (w2:=w4) Z.out qe);replace HB:X (Bt g w w4):=U qh;replace HR:=U R4;clear b4 R4;clear i4;go_wp2_with fail;have atw:=Z.out.lt;refine(HLO.out _ _ (HR.out.low qe) oJ.out).mono ?_;rintro e Xa h112;rcases h112.cases with⟨x112,asn,atP,PK,rfl,Zn,ain,YT⟩|⟨asn,PK,rfl,Zn⟩
   rotate_left 1
   · have bU:=HB.out;go_wp2_with fail;exact⟨rfl,PO.no (HS.out.symm.trans PK) qe⟩
   have ahF:=U (HS.out.symm.trans PK);replace Z:=U (bS (w2:=Xa) Z.out qe);replace HB:X (Bt g w Xa):=U qh;replace HR:=U YT;clear Zn YT;clear PK h112;obtain⟨MI,rfl,acR⟩:=ain;have ahR:X (cZ (fun b=>w.heap.size<b) Xa x112 MI):=U (acR.mono fun b hb hlt=>vZ);clear acR;obtain⟨W,hP⟩:=gM (c:=cs x112 MI) Z.out kC (Sm.jL _ _) rfl;have gY:=hP.bt;have eT:=U hP.box;have gZ:=hP.size;go_wp2_with (refine gN rfl 60 _ _ rfl w.heap.size _ rfl rfl hP ?_)
   have bU:=HB.out;refine ae (v:=.agg (cs (x112) (MI))) ?_ rfl (PO.ok (ahF.out) qe ⟨(MI),rfl,uz ahR.out qe⟩ (HR.out.low qe));exact ql
 replace HS:=dX HS i4;replace Z:=U (bS (w2:=w4) Z.out qe);replace HB:X (Bt g w w4):=U qh;replace HR:=U R4;clear b4 R4;clear i4;go_wp2_with fail;refine(dL adf _ (HR.out.low qe) (by decide)).mono ?_;rintro e w5 ⟨b5,⟨i5,rfl,R5⟩|⟨i5,rfl,R5⟩⟩
 · replace HS:=dY HS i5;replace Z:=U (bS (w2:=w5) Z.out qe);replace HB:X (Bt g w w5):=U qh;replace HR:=U R5;clear b5 R5;clear i5;go_wp2_with fail;have atx:=Z.out.lt;refine(BD _ (HR.out.low qe)).mono ?_;rintro e Xb abZ;rcases abZ.cases with⟨x115,aso,atQ,Vh,rfl,Zo,aio,YU⟩|⟨aso,Vh,rfl,Zo⟩
   rotate_left 1
   · exact zZ
   replace HS:=bY HS Vh;replace Z:=U (bS (w2:=Xb) Z.out qe);replace HB:X (Bt g w Xb):=U qh;replace HR:=U YU;clear Zo YU;clear Vh abZ;obtain⟨Pm,O1,Sy,rfl,acS⟩:=aio;have ah2:X (bW (fun b=>w.heap.size<b) Xb x115 Pm O1):=U (acS.mono fun b hb hlt=>vZ);clear acS;dsimp only [cu];obtain⟨W,hP⟩:=gM (c:=#[.int .i64 5,.string ⟨#[]⟩,.string ⟨#[]⟩,.int .i64 x115.o,.string x115.s,.int .i64 x115.n,.slice Pm O1 Sy,.int .i64 0,.string ⟨#[]⟩,.int .i64 0,.slice V 0 0,.slice V 0 0,.int .i64 0,.int .i64 0,.int .i64 0,.int .i64 0,.slice V 0 0,.slice V 0 0,.bool false,.slice V 0 0,.slice V 0 0]) Z.out kC Ib rfl;have gY:=hP.bt;have eT:=U hP.box;have gZ:=hP.size;go_wp2_with (refine gN rfl 60 _ _ rfl w.heap.size _ rfl rfl hP ?_)
   have bU:=HB.out;refine ae (v:=.agg (cs (dD 5 mt mt x115) (yY Pm O1 Sy))) ?_ rfl (PO.ok ((dA HS)) qe ⟨(yY Pm O1 Sy),rfl,Dq (gX ah2.out qe)⟩ (HR.out.low qe));exact ql
 replace HS:=dX HS i5;replace Z:=U (bS (w2:=w5) Z.out qe);replace HB:X (Bt g w w5):=U qh;replace HR:=U R5;clear b5 R5;clear i5;go_wp2_with fail;refine(dL adu _ (HR.out.low qe) (by decide)).mono ?_;rintro e w6 ⟨b6,⟨i6,rfl,R6⟩|⟨i6,rfl,R6⟩⟩
 · replace HS:=dY HS i6;replace Z:=U (bS (w2:=w6) Z.out qe);replace HB:X (Bt g w w6):=U qh;replace HR:=U R6;clear b6 R6;clear i6;go_wp2_with fail;have aty:=Z.out.lt;refine(aqW _ (HR.out.low qe)).mono ?_;rintro e Xc ab0;rcases ab0.cases with⟨Xv,asq,atS,PN,rfl,Zp,aip,YV⟩|⟨asq,PN,rfl,Zp⟩
   rotate_left 1
   · have bU:=HB.out;go_wp2_with fail;exact⟨rfl,PO.no (HS.out.symm.trans PN) qe⟩
   have ahG:=U (HS.out.symm.trans PN);replace Z:=U (bS (w2:=Xc) Z.out qe);replace HB:X (Bt g w Xc):=U qh;replace HR:=U YV;clear Zp YV;clear PN ab0;obtain⟨MJ,rfl,acT⟩:=aip;have ahS:X (cZ (fun b=>w.heap.size<b) Xc Xv MJ):=U (acT.mono fun b hb hlt=>vZ);clear acT;obtain⟨W,hP⟩:=gM (c:=cs Xv MJ) Z.out kC (Sm.jL _ _) rfl;have gY:=hP.bt;have eT:=U hP.box;have gZ:=hP.size;go_wp2_with (refine gN rfl 60 _ _ rfl w.heap.size _ rfl rfl hP ?_)
   have bU:=HB.out;refine ae (v:=.agg (cs (Xv) (MJ))) ?_ rfl (PO.ok (ahG.out) qe ⟨(MJ),rfl,uz ahS.out qe⟩ (HR.out.low qe));exact ql
 replace HS:=dX HS i6;replace Z:=U (bS (w2:=w6) Z.out qe);replace HB:X (Bt g w w6):=U qh;replace HR:=U R6;clear b6 R6;clear i6;go_wp2_with fail;refine(dL adp _ (HR.out.low qe) (by decide)).mono ?_;rintro e w7 ⟨b7,⟨i7,rfl,R7⟩|⟨i7,rfl,R7⟩⟩
 · replace HS:=dY HS i7;replace Z:=U (bS (w2:=w7) Z.out qe);replace HB:X (Bt g w w7):=U qh;replace HR:=U R7;clear b7 R7;clear i7;go_wp2_with fail;have atA:=Z.out.lt;refine(Gi 7 _ (HR.out.low qe)).mono ?_;rintro e Xd ab1;rcases ab1.cases with⟨Xw,asr,atT,PQ,rfl,Zq,aiq,YW⟩|⟨asr,PQ,rfl,Zq⟩
   rotate_left 1
   · have bU:=HB.out;go_wp2_with fail;exact⟨rfl,PO.no (HS.out.symm.trans PQ) qe⟩
   have ahH:=U (HS.out.symm.trans PQ);replace Z:=U (bS (w2:=Xd) Z.out qe);replace HB:X (Bt g w Xd):=U qh;replace HR:=U YW;clear Zq YW;clear PQ ab1;obtain⟨MK,rfl,acU⟩:=aiq;have ahT:X (cZ (fun b=>w.heap.size<b) Xd Xw MK):=U (acU.mono fun b hb hlt=>vZ);clear acU;obtain⟨W,hP⟩:=gM (c:=cs Xw MK) Z.out kC (Sm.jL _ _) rfl;have gY:=hP.bt;have eT:=U hP.box;have gZ:=hP.size;go_wp2_with (refine gN rfl 60 _ _ rfl w.heap.size _ rfl rfl hP ?_)
   have bU:=HB.out;refine ae (v:=.agg (cs (Xw) (MK))) ?_ rfl (PO.ok (ahH.out) qe ⟨(MK),rfl,uz ahT.out qe⟩ (HR.out.low qe));exact ql
 replace HS:=dX HS i7;replace Z:=U (bS (w2:=w7) Z.out qe);replace HB:X (Bt g w w7):=U qh;replace HR:=U R7;clear b7 R7;clear i7;go_wp2_with fail;refine(dL adn _ (HR.out.low qe) (by decide)).mono ?_;rintro e w8 ⟨b8,⟨i8,rfl,R8⟩|⟨i8,rfl,R8⟩⟩
 · replace HS:=dY HS i8;replace Z:=U (bS (w2:=w8) Z.out qe);replace HB:X (Bt g w w8):=U qh;replace HR:=U R8;clear b8 R8;clear i8;go_wp2_with fail;have atB:=Z.out.lt;refine(BD _ (HR.out.low qe)).mono ?_;rintro e Xe ab2;rcases ab2.cases with⟨LM,u124,v124,Vi,rfl,Zr,air,YX⟩|⟨u124,Vi,rfl,Zr⟩
   rotate_left 1
   · exact zZ
   replace HS:=bY HS Vi;replace Z:=U (bS (w2:=Xe) Z.out qe);replace HB:X (Bt g w Xe):=U qh;replace HR:=U YX;clear Zr YX;clear Vi ab2;obtain⟨Pn,O3,c124,rfl,acV⟩:=air;have RF:X (bW (fun b=>w.heap.size<b) Xe LM Pn O3):=U (acV.mono fun b hb hlt=>vZ);clear acV;dsimp only [cu];go_wp2_with fail;refine(O8 _ _ (HR.out.low qe) (by decide)).mono ?_;rintro e Xf ab3;rcases ab3.cases with⟨afK,ass,atU,Vj,rfl,Zt,ais,YY⟩|⟨ass,Vj,rfl,Zt⟩
   rotate_left 1
   · exact zZ
   replace HS:=bY HS Vj;replace Z:=U (bS (w2:=Xf) Z.out qe);replace RF:=U (jB (w2:=Xf) RF.out qe);replace HB:X (Bt g w Xf):=U qh;replace HR:=U YY;clear Zt YY;clear Vj ab3;obtain rfl:=ais;obtain⟨W,hP⟩:=gM (c:=#[.int .i64 8,.string afK,.string ⟨#[]⟩,.int .i64 LM.o,.string LM.s,.int .i64 LM.n,.slice Pn O3 c124,.int .i64 0,.string ⟨#[]⟩,.int .i64 0,.slice V 0 0,.slice V 0 0,.int .i64 0,.int .i64 0,.int .i64 0,.int .i64 0,.slice V 0 0,.slice V 0 0,.bool false,.slice V 0 0,.slice V 0 0]) Z.out kC Ib rfl;have gY:=hP.bt;have eT:=U hP.box;have gZ:=hP.size;go_wp2_with (refine gN rfl 60 _ _ rfl w.heap.size _ rfl rfl hP ?_)
   have bU:=HB.out;refine ae (v:=.agg (cs (dD 8 afK mt LM) (yY Pn O3 c124))) ?_ rfl (PO.ok ((dA HS)) qe ⟨(yY Pn O3 c124),rfl,Dq (gX RF.out qe)⟩ (HR.out.low qe));exact ql
 replace HS:=dX HS i8;replace Z:=U (bS (w2:=w8) Z.out qe);replace HB:X (Bt g w w8):=U qh;replace HR:=U R8;clear b8 R8;clear i8;go_wp2_with fail;refine(dL ade _ (HR.out.low qe) (by decide)).mono ?_;rintro e w9 ⟨b9,⟨i9,rfl,R9⟩|⟨i9,rfl,R9⟩⟩
 · replace HS:=dY HS i9;replace Z:=U (bS (w2:=w9) Z.out qe);replace HB:X (Bt g w w9):=U qh;replace HR:=U R9;clear b9 R9;clear i9;go_wp2_with fail;refine(jR _ (HR.out.low qe)).mono ?_;rintro e afC h127;rcases h127.cases with⟨afL,u127,v127,Vk,rfl,Zu,ait,YZ⟩|⟨u127,Vk,rfl,Zu⟩
   rotate_left 1
   · exact zZ
   replace HS:=bY HS Vk;replace Z:=U (bS (w2:=afC) Z.out qe);replace HB:X (Bt g w afC):=U qh;replace HR:=U YZ;clear Zu YZ;clear Vk h127;obtain rfl:=ait;go_wp2_with fail;refine(O8 _ _ (HR.out.low qe) (by decide)).mono ?_;rintro e afD h128;rcases h128.cases with⟨afM,ast,atV,Vl,rfl,Zv,aiu,Y0⟩|⟨ast,Vl,rfl,Zv⟩
   rotate_left 1
   · exact zZ
   replace HS:=bY HS Vl;replace Z:=U (bS (w2:=afD) Z.out qe);replace HB:X (Bt g w afD):=U qh;replace HR:=U Y0;clear Zv Y0;clear Vl h128;obtain rfl:=aiu;obtain⟨W,hP⟩:=gM (c:=#[.int .i64 9,.string afM,.string afL,.int .i64 0,.string ⟨#[]⟩,.int .i64 0,.slice V 0 0,.int .i64 0,.string ⟨#[]⟩,.int .i64 0,.slice V 0 0,.slice V 0 0,.int .i64 0,.int .i64 0,.int .i64 0,.int .i64 0,.slice V 0 0,.slice V 0 0,.bool false,.slice V 0 0,.slice V 0 0]) Z.out kC Ib rfl;have gY:=hP.bt;have eT:=U hP.box;have gZ:=hP.size;go_wp2_with (refine gN rfl 60 _ _ rfl w.heap.size _ rfl rfl hP ?_)
   have bU:=HB.out;refine ae (v:=.agg (cs (dD 9 afM afL zE) (P0))) ?_ rfl (PO.ok ((dA HS)) qe ⟨(P0),rfl,Dq Ex.bW.zero⟩ (HR.out.low qe));exact ql
 replace HS:=dX HS i9;replace Z:=U (bS (w2:=w9) Z.out qe);replace HB:X (Bt g w w9):=U qh;replace HR:=U R9;clear b9 R9;clear i9;go_wp2_with fail;refine(dL ads _ (HR.out.low qe) (by decide)).mono ?_;rintro e eX ⟨b10,⟨i10,rfl,jK⟩|⟨i10,rfl,jK⟩⟩
 · replace HS:=dY HS i10;replace Z:=U (bS (w2:=eX) Z.out qe);replace HB:X (Bt g w eX):=U qh;replace HR:=U jK;clear b10 jK;clear i10;go_wp2_with fail;refine(jR _ (HR.out.low qe)).mono ?_;rintro e afE ab4;rcases ab4.cases with⟨afN,asu,v130,Vm,rfl,Zw,aiv,Y1⟩|⟨asu,Vm,rfl,Zw⟩
   rotate_left 1
   · exact zZ
   replace HS:=bY HS Vm;replace Z:=U (bS (w2:=afE) Z.out qe);replace HB:X (Bt g w afE):=U qh;replace HR:=U Y1;clear Zw Y1;clear Vm ab4;obtain rfl:=aiv;obtain⟨W,hP⟩:=gM (c:=#[.int .i64 10,.string afN,.string ⟨#[]⟩,.int .i64 0,.string ⟨#[]⟩,.int .i64 0,.slice V 0 0,.int .i64 0,.string ⟨#[]⟩,.int .i64 0,.slice V 0 0,.slice V 0 0,.int .i64 0,.int .i64 0,.int .i64 0,.int .i64 0,.slice V 0 0,.slice V 0 0,.bool false,.slice V 0 0,.slice V 0 0]) Z.out kC Ib rfl;have gY:=hP.bt;have eT:=U hP.box;have gZ:=hP.size;go_wp2_with (refine gN rfl 60 _ _ rfl w.heap.size _ rfl rfl hP ?_)
   have bU:=HB.out;refine ae (v:=.agg (cs (dD 10 afN mt zE) (P0))) ?_ rfl (PO.ok ((dA HS)) qe ⟨(P0),rfl,Dq Ex.bW.zero⟩ (HR.out.low qe));exact ql
 replace HS:=dX HS i10;replace Z:=U (bS (w2:=eX) Z.out qe);replace HB:X (Bt g w eX):=U qh;replace HR:=U jK;clear b10 jK;clear i10;go_wp2_with fail;refine(dL adK _ (HR.out.low qe) (by decide)).mono ?_;rintro e iC ⟨b11,⟨i11,rfl,lW⟩|⟨i11,rfl,lW⟩⟩
 · replace HS:=dY HS i11;replace Z:=U (bS (w2:=iC) Z.out qe);replace HB:X (Bt g w iC):=U qh;replace HR:=U lW;clear b11 lW;clear i11;go_wp2_with fail;refine(jR _ (HR.out.low qe)).mono ?_;rintro e afF ab5;rcases ab5.cases with⟨afO,asv,atW,Vn,rfl,Zx,aiw,Y2⟩|⟨asv,Vn,rfl,Zx⟩
   rotate_left 1
   · exact zZ
   replace HS:=bY HS Vn;replace Z:=U (bS (w2:=afF) Z.out qe);replace HB:X (Bt g w afF):=U qh;replace HR:=U Y2;clear Zx Y2;clear Vn ab5;obtain rfl:=aiw;obtain⟨W,hP⟩:=gM (c:=#[.int .i64 11,.string afO,.string ⟨#[]⟩,.int .i64 0,.string ⟨#[]⟩,.int .i64 0,.slice V 0 0,.int .i64 0,.string ⟨#[]⟩,.int .i64 0,.slice V 0 0,.slice V 0 0,.int .i64 0,.int .i64 0,.int .i64 0,.int .i64 0,.slice V 0 0,.slice V 0 0,.bool false,.slice V 0 0,.slice V 0 0]) Z.out kC Ib rfl;have gY:=hP.bt;have eT:=U hP.box;have gZ:=hP.size;go_wp2_with (refine gN rfl 60 _ _ rfl w.heap.size _ rfl rfl hP ?_)
   have bU:=HB.out;refine ae (v:=.agg (cs (dD 11 afO mt zE) (P0))) ?_ rfl (PO.ok ((dA HS)) qe ⟨(P0),rfl,Dq Ex.bW.zero⟩ (HR.out.low qe));exact ql
 replace HS:=dX HS i11;replace Z:=U (bS (w2:=iC) Z.out qe);replace HB:X (Bt g w iC):=U qh;replace HR:=U lW;clear b11 lW;clear i11;go_wp2_with fail;refine(dL adx _ (HR.out.low qe) (by decide)).mono ?_;rintro e lK ⟨b12,⟨i12,rfl,qy⟩|⟨i12,rfl,qy⟩⟩
 · replace HS:=dY HS i12;replace Z:=U (bS (w2:=lK) Z.out qe);replace HB:X (Bt g w lK):=U qh;replace HR:=U qy;clear b12 qy;clear i12;go_wp2_with fail;have atD:=Z.out.lt;refine(Gi 12 _ (HR.out.low qe)).mono ?_;rintro e Xg ab6;rcases ab6.cases with⟨Xx,asw,atX,PS,rfl,Zy,aix,Y3⟩|⟨asw,PS,rfl,Zy⟩
   rotate_left 1
   · have bU:=HB.out;go_wp2_with fail;exact⟨rfl,PO.no (HS.out.symm.trans PS) qe⟩
   have ahJ:=U (HS.out.symm.trans PS);replace Z:=U (bS (w2:=Xg) Z.out qe);replace HB:X (Bt g w Xg):=U qh;replace HR:=U Y3;clear Zy Y3;clear PS ab6;obtain⟨ML,rfl,acW⟩:=aix;have ahU:X (cZ (fun b=>w.heap.size<b) Xg Xx ML):=U (acW.mono fun b hb hlt=>vZ);clear acW;obtain⟨W,hP⟩:=gM (c:=cs Xx ML) Z.out kC (Sm.jL _ _) rfl;have gY:=hP.bt;have eT:=U hP.box;have gZ:=hP.size;go_wp2_with (refine gN rfl 60 _ _ rfl w.heap.size _ rfl rfl hP ?_)
   have bU:=HB.out;refine ae (v:=.agg (cs (Xx) (ML))) ?_ rfl (PO.ok (ahJ.out) qe ⟨(ML),rfl,uz ahU.out qe⟩ (HR.out.low qe));exact ql
 replace HS:=dX HS i12;replace Z:=U (bS (w2:=lK) Z.out qe);replace HB:X (Bt g w lK):=U qh;replace HR:=U qy;clear b12 qy;clear i12;go_wp2_with fail;refine(dL adv _ (HR.out.low qe) (by decide)).mono ?_;rintro e xG ⟨b13,⟨i13,rfl,xO⟩|⟨i13,rfl,xO⟩⟩
 · replace HS:=dY HS i13;replace Z:=U (bS (w2:=xG) Z.out qe);replace HB:X (Bt g w xG):=U qh;replace HR:=U xO;clear b13 xO;clear i13;go_wp2_with fail;have atE:=Z.out.lt;refine(aqX _ (HR.out.low qe)).mono ?_;rintro e Xh ab7;rcases ab7.cases with⟨Xy,u139,v139,PT,rfl,Zz,aiy,Y4⟩|⟨u139,PT,rfl,Zz⟩
   rotate_left 1
   · have bU:=HB.out;go_wp2_with fail;exact⟨rfl,PO.no (HS.out.symm.trans PT) qe⟩
   have ahK:=U (HS.out.symm.trans PT);replace Z:=U (bS (w2:=Xh) Z.out qe);replace HB:X (Bt g w Xh):=U qh;replace HR:=U Y4;clear Zz Y4;clear PT ab7;obtain⟨MM,rfl,acX⟩:=aiy;have ahV:X (cZ (fun b=>w.heap.size<b) Xh Xy MM):=U (acX.mono fun b hb hlt=>vZ);clear acX;obtain⟨W,hP⟩:=gM (c:=cs Xy MM) Z.out kC (Sm.jL _ _) rfl;have gY:=hP.bt;have eT:=U hP.box;have gZ:=hP.size;go_wp2_with (refine gN rfl 60 _ _ rfl w.heap.size _ rfl rfl hP ?_)
   have bU:=HB.out;refine ae (v:=.agg (cs (Xy) (MM))) ?_ rfl (PO.ok (ahK.out) qe ⟨(MM),rfl,uz ahV.out qe⟩ (HR.out.low qe));exact ql
 replace HS:=dX HS i13;replace Z:=U (bS (w2:=xG) Z.out qe);replace HB:X (Bt g w xG):=U qh;replace HR:=U xO;clear b13 xO;clear i13;go_wp2_with fail;refine(dL adA _ (HR.out.low qe) (by decide)).mono ?_;rintro e Ql ⟨b14,⟨i14,rfl,IG⟩|⟨i14,rfl,IG⟩⟩
 · replace HS:=dY HS i14;replace Z:=U (bS (w2:=Ql) Z.out qe);replace HB:X (Bt g w Ql):=U qh;replace HR:=U IG;clear b14 IG;clear i14;go_wp2_with fail;have atF:=Z.out.lt;refine(ZK 14 ⟨#[]⟩ _ (HR.out.low qe)).mono ?_;rintro e Xi ab8;rcases ab8.cases with⟨Xz,asx,atY,PU,rfl,ZA,aiz,Y5⟩|⟨asx,PU,rfl,ZA⟩
   rotate_left 1
   · have bU:=HB.out;go_wp2_with fail;exact⟨rfl,PO.no (HS.out.symm.trans PU) qe⟩
   have ahL:=U (HS.out.symm.trans PU);replace Z:=U (bS (w2:=Xi) Z.out qe);replace HB:X (Bt g w Xi):=U qh;replace HR:=U Y5;clear ZA Y5;clear PU ab8;obtain⟨MN,rfl,acY⟩:=aiz;have ahW:X (cZ (fun b=>w.heap.size<b) Xi Xz MN):=U (acY.mono fun b hb hlt=>vZ);clear acY;obtain⟨W,hP⟩:=gM (c:=cs Xz MN) Z.out kC (Sm.jL _ _) rfl;have gY:=hP.bt;have eT:=U hP.box;have gZ:=hP.size;go_wp2_with (refine gN rfl 60 _ _ rfl w.heap.size _ rfl rfl hP ?_)
   have bU:=HB.out;refine ae (v:=.agg (cs (Xz) (MN))) ?_ rfl (PO.ok (ahL.out) qe ⟨(MN),rfl,uz ahW.out qe⟩ (HR.out.low qe));exact ql
 replace HS:=dX HS i14;replace Z:=U (bS (w2:=Ql) Z.out qe);replace HB:X (Bt g w Ql):=U qh;replace HR:=U IG;clear b14 IG;clear i14;go_wp2_with fail;refine(dL adl _ (HR.out.low qe) (by decide)).mono ?_;rintro e Qm ⟨b15,⟨i15,rfl,II⟩|⟨i15,rfl,II⟩⟩
 · replace HS:=dY HS i15;replace Z:=U (bS (w2:=Qm) Z.out qe);replace HB:X (Bt g w Qm):=U qh;replace HR:=U II;clear b15 II;clear i15;go_wp2_with fail;have atG:=Z.out.lt;refine(Gi 15 _ (HR.out.low qe)).mono ?_;rintro e Xj ab9;rcases ab9.cases with⟨XA,asy,v145,PV,rfl,ZB,aiA,Y6⟩|⟨asy,PV,rfl,ZB⟩
   rotate_left 1
   · have bU:=HB.out;go_wp2_with fail;exact⟨rfl,PO.no (HS.out.symm.trans PV) qe⟩
   have ahM:=U (HS.out.symm.trans PV);replace Z:=U (bS (w2:=Xj) Z.out qe);replace HB:X (Bt g w Xj):=U qh;replace HR:=U Y6;clear ZB Y6;clear PV ab9;obtain⟨MP,rfl,acZ⟩:=aiA;have ahX:X (cZ (fun b=>w.heap.size<b) Xj XA MP):=U (acZ.mono fun b hb hlt=>vZ);clear acZ;obtain⟨W,hP⟩:=gM (c:=cs XA MP) Z.out kC (Sm.jL _ _) rfl;have gY:=hP.bt;have eT:=U hP.box;have gZ:=hP.size;go_wp2_with (refine gN rfl 60 _ _ rfl w.heap.size _ rfl rfl hP ?_)
   have bU:=HB.out;refine ae (v:=.agg (cs (XA) (MP))) ?_ rfl (PO.ok (ahM.out) qe ⟨(MP),rfl,uz ahX.out qe⟩ (HR.out.low qe));exact ql
 replace HS:=dX HS i15;replace Z:=U (bS (w2:=Qm) Z.out qe);replace HB:X (Bt g w Qm):=U qh;replace HR:=U II;clear b15 II;clear i15;go_wp2_with fail;refine(dL OL _ (HR.out.low qe) (by decide)).mono ?_;rintro e w16 ⟨b16,⟨i16,rfl,R16⟩|⟨i16,rfl,R16⟩⟩
 · replace HS:=dY HS i16;replace Z:=U (bS (w2:=w16) Z.out qe);replace HB:X (Bt g w w16):=U qh;replace HR:=U R16;clear b16 R16;clear i16;go_wp2_with fail;have atH:=Z.out.lt;refine(Gi 16 _ (HR.out.low qe)).mono ?_;rintro e Xk ab_;rcases ab_.cases with⟨XB,asz,v148,PW,rfl,ZC,aiB,Y7⟩|⟨asz,PW,rfl,ZC⟩
   rotate_left 1
   · have bU:=HB.out;go_wp2_with fail;exact⟨rfl,PO.no (HS.out.symm.trans PW) qe⟩
   have ahN:=U (HS.out.symm.trans PW);replace Z:=U (bS (w2:=Xk) Z.out qe);replace HB:X (Bt g w Xk):=U qh;replace HR:=U Y7;clear ZC Y7;clear PW ab_;obtain⟨MQ,rfl,ac0⟩:=aiB;have ahY:X (cZ (fun b=>w.heap.size<b) Xk XB MQ):=U (ac0.mono fun b hb hlt=>vZ);clear ac0;obtain⟨W,hP⟩:=gM (c:=cs XB MQ) Z.out kC (Sm.jL _ _) rfl;have gY:=hP.bt;have eT:=U hP.box;have gZ:=hP.size;go_wp2_with (refine gN rfl 60 _ _ rfl w.heap.size _ rfl rfl hP ?_)
   have bU:=HB.out;refine ae (v:=.agg (cs (XB) (MQ))) ?_ rfl (PO.ok (ahN.out) qe ⟨(MQ),rfl,uz ahY.out qe⟩ (HR.out.low qe));exact ql
 replace HS:=dX HS i16;replace Z:=U (bS (w2:=w16) Z.out qe);replace HB:X (Bt g w w16):=U qh;replace HR:=U R16;clear b16 R16;clear i16;go_wp2_with fail;refine(dL ac2 _ (HR.out.low qe) (by decide)).mono ?_;rintro e Qn ⟨b17,⟨i17,rfl,IJ⟩|⟨i17,rfl,IJ⟩⟩
 · replace HS:=dY HS i17;replace Z:=U (bS (w2:=Qn) Z.out qe);replace HB:X (Bt g w Qn):=U qh;replace HR:=U IJ;clear b17 IJ;clear i17;go_wp2_with fail;have atI:=Z.out.lt;refine(Gi 17 _ (HR.out.low qe)).mono ?_;rintro e Xl aca;rcases aca.cases with⟨x151,asA,atZ,PX,rfl,ZE,aiC,Y8⟩|⟨asA,PX,rfl,ZE⟩
   rotate_left 1
   · have bU:=HB.out;go_wp2_with fail;exact⟨rfl,PO.no (HS.out.symm.trans PX) qe⟩
   have ahO:=U (HS.out.symm.trans PX);replace Z:=U (bS (w2:=Xl) Z.out qe);replace HB:X (Bt g w Xl):=U qh;replace HR:=U Y8;clear ZE Y8;clear PX aca;obtain⟨MR,rfl,ac1⟩:=aiC;have ahZ:X (cZ (fun b=>w.heap.size<b) Xl x151 MR):=U (ac1.mono fun b hb hlt=>vZ);clear ac1;obtain⟨W,hP⟩:=gM (c:=cs x151 MR) Z.out kC (Sm.jL _ _) rfl;have gY:=hP.bt;have eT:=U hP.box;have gZ:=hP.size;go_wp2_with (refine gN rfl 60 _ _ rfl w.heap.size _ rfl rfl hP ?_)
   have bU:=HB.out;refine ae (v:=.agg (cs (x151) (MR))) ?_ rfl (PO.ok (ahO.out) qe ⟨(MR),rfl,uz ahZ.out qe⟩ (HR.out.low qe));exact ql
 replace HS:=dX HS i17;replace Z:=U (bS (w2:=Qn) Z.out qe);replace HB:X (Bt g w Qn):=U qh;replace HR:=U IJ;clear b17 IJ;clear i17;go_wp2_with fail;refine(dL adC _ (HR.out.low qe) (by decide)).mono ?_;rintro e Qo ⟨b18,⟨i18,rfl,IK⟩|⟨i18,rfl,IK⟩⟩
 · replace HS:=dY HS i18;replace Z:=U (bS (w2:=Qo) Z.out qe);replace HB:X (Bt g w Qo):=U qh;replace HR:=U IK;clear b18 IK;clear i18;obtain⟨W,hP⟩:=gM (c:=#[.int .i64 18,.string ⟨#[]⟩,.string ⟨#[]⟩,.int .i64 0,.string ⟨#[]⟩,.int .i64 0,.slice V 0 0,.int .i64 0,.string ⟨#[]⟩,.int .i64 0,.slice V 0 0,.slice V 0 0,.int .i64 0,.int .i64 0,.int .i64 0,.int .i64 0,.slice V 0 0,.slice V 0 0,.bool false,.slice V 0 0,.slice V 0 0]) Z.out kC Ib rfl;have gY:=hP.bt;have eT:=U hP.box;have gZ:=hP.size;go_wp2_with (refine gN rfl 60 _ _ rfl w.heap.size _ rfl rfl hP ?_)
   have bU:=HB.out;refine ae (v:=.agg (cs (dD 18 mt mt zE) (P0))) ?_ rfl (PO.ok ((dA HS)) qe ⟨(P0),rfl,Dq Ex.bW.zero⟩ (HR.out.low qe));exact ql
 replace HS:=dX HS i18;replace Z:=U (bS (w2:=Qo) Z.out qe);replace HB:X (Bt g w Qo):=U qh;replace HR:=U IK;clear b18 IK;clear i18;go_wp2_with fail;refine(BC _ (HR.out.low qe)).mono ?_;rintro e LF ⟨rfl,I9⟩;have bU:=HB.out;go_wp2_with fail;exact⟨rfl,PO.no (Lc HS) (by have q:Bt g _ LF:=bR.of I9;exact qe)⟩
end
end Ps
namespace Ps
open Go.RowKit
open Lx (Tk mt)
open Ex (Ex bW)
open Sm (St dE cZ Pl cs qH zE zD)
open Md (bT)
set_option maxHeartbeats 2000000
def BZ (lo:Nat) (w:ai) (l:List St) (v:Value):Prop:=∃p m c,v=.slice p m c/\dE (fun b=>lo<=b) w l p m
def PL (ep:Option Addr) (em ec:Nat) (bp:Option Addr) (bm bc:Nat) (lp:Option Addr) (lm lc:Nat):Pl:=⟨ep,em,ec,V,0,0,V,0,0,V,0,0,V,0,0,bp,bm,bc,lp,lm,lc⟩
theorem VO {a:Nat} {w w2:ai} {x:St} {P:Pl} (h:cZ (fun b=>a<b) w x P) (hb:bR (fun b=>a<b) w w2):cZ (fun b=>a<b) w2 x P:=Sm.cZ.map hb.size (fun b hg hlt=>⟨hg,hb.block b hlt hg⟩) x h
theorem J7 {S:Nat->Prop} {w w2:ai} {x:Ex} {p:Option Addr} {m:Nat} (h:bW S w x p m) (hb:bR S w w2):bW S w2 x p m:=Ex.bW.map hb.size (fun b hg hlt=>⟨hg,hb.block b hlt hg⟩) x h
theorem Kl {S:Nat->Prop} {w w2:ai} {x:List St} {p:Option Addr} {m:Nat} (h:dE S w x p m) (hb:bR S w w2):dE S w2 x p m:=Sm.dE.map hb.size (fun b hg hlt=>⟨hg,hb.block b hlt hg⟩) h
theorem VP {S:Nat->Prop} {w w2:ai} {x:St} {P:Pl} (h:cZ S w x P) (hb:bR S w w2):cZ S w2 x P:=Sm.cZ.map hb.size (fun b hg hlt=>⟨hg,hb.block b hlt hg⟩) x h
theorem VQ {G:Nat->Prop} {w:ai} {o:Int} {e:Ex} {b l:List St} {ep:Option Addr} {em ec:Nat} {bp:Option Addr} {bm bc:Nat} {lp:Option Addr} {lm lc:Nat} (h:bW G w e ep em) (h2:dE G w b bp bm) (h3:dE G w l lp lm):cZ G w (.mk o mt mt e zE [] zD false b l) (PL ep em ec bp bm bc lp lm lc):=qH.2 ⟨⟨h,Ex.bW.zero,Ex.bW.zero,nA,nA⟩,h2,h3⟩
section
variable {L:Lk} {g:Nat} {t:List Tk}
theorem BG {p:Prop} (h:p:=by
 have bU:=HB.out;go_wp2_with fail;exact⟨rfl,PO.no (dJ HS (by assumption)) qe⟩
 ):p:=h
theorem XP {p:Prop} (h:p:=by
 exact av rfl _ _ w.heap.size 60 _ (0,0) _ rfl eT.out Tryz.underlying60 rfl (by kernel_rfl)
 ):p:=h
set_option maxRecDepth 100000 in
theorem aoe (B:P (List St)) (w:ai) (hR:Rd L g t w) (hB:∀W u,Rd L g u W->u.length<=t.length->au ag 41 #[.pointer (aj ⟨g,0,V⟩)] W (PO L g BZ (run B u) W)):au ag 131 #[.pointer (aj ⟨g,0,V⟩)] w (PO L g xS (run (Vp B) t) w):=by
 have Ms:=U hB;have HD:X (∀x u,run cnd t=.ok x u->u.length<=t.length):=U fun x u h=>by have:=(NT.out hR.gd h).2;omega
 clear hB;obtain⟨r,hr⟩:∃r,run (Vp B) t=r:=⟨_,rfl⟩
 rw[hr];have HS:=U hr;have hg:=hR.blk;have HR:=U hR;have HB:X (Bt g w w):=U (bR.refl _ _);clear hR hr;have Z:=U (bT.new (w:=w) (t:=60) (c:=#[.int .i64 0,.string ⟨#[]⟩,.string ⟨#[]⟩,.int .i64 0,.string ⟨#[]⟩,.int .i64 0,.slice V 0 0,.int .i64 0,.string ⟨#[]⟩,.int .i64 0,.slice V 0 0,.slice V 0 0,.int .i64 0,.int .i64 0,.int .i64 0,.int .i64 0,.slice V 0 0,.slice V 0 0,.bool false,.slice V 0 0,.slice V 0 0]));go_enter Tryz.func131,Tryz.ntmps131;go_wp2_with fail;have hz0:=Z.out.lt;refine(aab _ (HR.out.low qe)).mono ?_;rintro e w1 h1;rcases h1.cases with⟨x1,u1,v1,r1,rfl,b1,V1,R1⟩|⟨u1,r1,rfl,b1⟩
 rotate_left 1
 · exact BG
 replace HS:=bY HS r1;replace Z:=U (bS (w2:=w1) Z.out qe);have HT:=U (HD.out _ _ r1);replace HB:X (Bt g w w1):=U qh;replace HR:=U R1;clear b1 R1;clear r1 h1;obtain⟨p1,m1,c1,rfl,k1⟩:=V1;have eB:X (bW (fun b=>w.heap.size<b) w1 x1 p1 m1):=U (k1.mono fun b hb hlt=>(by have hb':_<=b:=hb;first|(simp at hb';omega)|omega));clear k1;dsimp only [cu];have hz1:=Z.out.lt;go_wp2_with fail;refine(Ms.out _ _ (HR.out.low qe) HT.out).mono ?_;rintro e w2 h2;rcases h2.cases with⟨x2,u2,v2,r2,rfl,b2,V2,R2⟩|⟨u2,r2,rfl,b2⟩
 rotate_left 1
 · exact BG
 replace HS:=bY HS r2;replace Z:=U (bS (w2:=w2) Z.out qe);replace eB:=U (jB (w2:=w2) eB.out qe);replace HB:X (Bt g w w2):=U qh;replace HR:=U R2;clear b2 R2;clear r2 h2;obtain⟨p2,m2,c2,rfl,k2⟩:=V2;have hz2:=Z.out.lt;have KS:X (cZ (fun b=>w.heap.size<b) w2 (.mk 4 mt mt x1 zE [] zD false x2 []) (PL p1 m1 c1 p2 m2 c2 V 0 0)):=U (VQ eB.out (k2.mono fun b hb hlt=>by
  have hb':w1.heap.size<=b:=hb;omega) Sm.dE.nil)
 clear k2 eB;have Y:=U (bT.new (w:=w2) (t:=60) (c:=cs (.mk 4 mt mt x1 zE [] zD false x2 []) (PL p1 m1 c1 p2 m2 c2 V 0 0)));go_wp2_with (refine Qp rfl _ _ rfl _ (cs (.mk 4 mt mt x1 zE [] zD false x2 []) (PL p1 m1 c1 p2 m2 c2 V 0 0)) rfl rfl rfl rfl (Sm.jL _ _) ?_)
 refine(gW _ _ (HR.out.low qe) (by decide)).mono ?_;rintro e w3 h3;rcases h3.cases with⟨x3,u3,v3,r3,rfl,b3,V3,R3⟩|⟨u3,r3,rfl,b3⟩
 rotate_left 1
 · exact BG
 replace HS:=bY HS r3;replace Z:=U (bS (w2:=w3) Z.out qe);replace Y:=U (bS (w2:=w3) Y.out qe);replace KS:=U (VO (w2:=w3) KS.out qe);replace HB:X (Bt g w w3):=U qh;replace HR:=U R3;clear b3 R3;clear r3 h3;obtain rfl:=V3;obtain⟨W,hP⟩:=gM (c:=cs (.mk 4 mt mt x1 zE [] zD false x2 []) (PL p1 m1 c1 p2 m2 c2 V 0 0)) Z.out kC (Sm.jL _ _) rfl;have gY:=hP.bt;have eT:=U hP.box;have gZ:=hP.size;go_wp2_with (first|(refine wpList_load_row rfl 60 _ rfl _ rfl 60 _ (0,0) _ Y.out Tryz.underlying60 rfl (by kernel_rfl) ?_)|(refine gN rfl 60 _ _ rfl w.heap.size _ rfl rfl hP ?_))
 have bU:=HB.out;refine ae (v:=.agg (cs (.mk 4 mt mt x1 zE [] zD false x2 []) (PL p1 m1 c1 p2 m2 c2 V 0 0))) ?_ rfl (PO.ok ((dA HS)) qe ⟨(PL p1 m1 c1 p2 m2 c2 V 0 0),rfl,uz KS.out qe⟩ (HR.out.low qe));exact XP
set_option maxRecDepth 100000 in
theorem akf (B:P (List St)) (hBd:Dn 0 B) (w:ai) (hR:Rd L g t w) (hB:∀W u,Rd L g u W->u.length<=t.length->au ag 41 #[.pointer (aj ⟨g,0,V⟩)] W (PO L g BZ (run B u) W)):au ag 130 #[.pointer (aj ⟨g,0,V⟩)] w (PO L g xS (run (Vo B) t) w):=by
 have Ms:=U hB;have HD:X (∀x u,run cnd t=.ok x u->Gd u/\u.length<=t.length):=U fun x u h=>by have:=NT.out hR.gd h;exact⟨this.1,by omega⟩
 have HD2:X (∀x u v,Gd u->run B u=.ok x v->Gd v/\v.length<=u.length):=U fun x u v hg h=>by have:=hBd.out hg h;exact⟨this.1,by omega⟩
 clear hB hBd;obtain⟨r,hr⟩:∃r,run (Vo B) t=r:=⟨_,rfl⟩
 rw[hr];have HS:=U hr;have hg:=hR.blk;have HR:=U hR;have HB:X (Bt g w w):=U (bR.refl _ _);clear hR hr;have Z:=U (bT.new (w:=w) (t:=60) (c:=#[.int .i64 0,.string ⟨#[]⟩,.string ⟨#[]⟩,.int .i64 0,.string ⟨#[]⟩,.int .i64 0,.slice V 0 0,.int .i64 0,.string ⟨#[]⟩,.int .i64 0,.slice V 0 0,.slice V 0 0,.int .i64 0,.int .i64 0,.int .i64 0,.int .i64 0,.slice V 0 0,.slice V 0 0,.bool false,.slice V 0 0,.slice V 0 0]));go_enter Tryz.func130,Tryz.ntmps130;go_wp2_with fail;have hz0:=Z.out.lt;refine(aab _ (HR.out.low qe)).mono ?_;rintro e w1 h1;rcases h1.cases with⟨x1,u1,v1,r1,rfl,b1,V1,R1⟩|⟨u1,r1,rfl,b1⟩
 rotate_left 1
 · exact BG
 replace HS:=bY HS r1;replace Z:=U (bS (w2:=w1) Z.out qe);have HT:=U (HD.out _ _ r1);replace HB:X (Bt g w w1):=U qh;replace HR:=U R1;clear b1 R1;clear r1 h1;obtain⟨p1,m1,c1,rfl,k1⟩:=V1;have eB:X (bW (fun b=>w.heap.size<b) w1 x1 p1 m1):=U (k1.mono fun b hb hlt=>(by have hb':_<=b:=hb;first|(simp at hb';omega)|omega));clear k1;dsimp only [cu];have hz1:=Z.out.lt;go_wp2_with fail;refine(Ms.out _ _ (HR.out.low qe) HT.out.2).mono ?_;rintro e w2 h2;rcases h2.cases with⟨x2,u2,v2,r2,rfl,b2,V2,R2⟩|⟨u2,r2,rfl,b2⟩
 rotate_left 1
 · exact BG
 replace HS:=bY HS r2;replace Z:=U (bS (w2:=w2) Z.out qe);replace eB:=U (jB (w2:=w2) eB.out qe);have HT2:=U (HD2.out _ _ _ HT.out.1 r2);replace HB:X (Bt g w w2):=U qh;replace HR:=U R2;clear b2 R2;clear r2 h2;obtain⟨p2,m2,c2,rfl,k2⟩:=V2;have hz2:=Z.out.lt;have KL:X (dE (fun b=>w.heap.size<b) w2 x2 p2 m2):=U (k2.mono fun b hb hlt=>by
  have hb':w1.heap.size<=b:=hb;omega)
 have KS:X (cZ (fun b=>w.heap.size<b) w2 (.mk 3 mt mt x1 zE [] zD false x2 []) (PL p1 m1 c1 p2 m2 c2 V 0 0)):=U (VQ eB.out KL.out Sm.dE.nil);clear k2;have Y:=U (bT.new (w:=w2) (t:=60) (c:=cs (.mk 3 mt mt x1 zE [] zD false x2 []) (PL p1 m1 c1 p2 m2 c2 V 0 0)));go_wp2_with (refine Qp rfl _ _ rfl _ (cs (.mk 3 mt mt x1 zE [] zD false x2 []) (PL p1 m1 c1 p2 m2 c2 V 0 0)) rfl rfl rfl rfl (Sm.jL _ _) ?_)
 refine(dL Cx _ (HR.out.low qe) (by decide)).mono ?_;rintro e w3 ⟨b3,⟨i3,rfl,R3⟩|⟨i3,rfl,R3⟩⟩
 · replace HS:=jG (yI HS i3);have KE:X (bW (fun b=>w.heap.size<b/\¬b=w2.heap.size) w3 x1 p1 m1):=U (J7 (eB.out.mono fun b hb hlt=>⟨hb,by omega⟩) qe);have KM:X (dE (fun b=>w.heap.size<b/\¬b=w2.heap.size) w3 x2 p2 m2):=U (Kl (KL.out.mono fun b hb hlt=>⟨hb,by omega⟩) qe);replace Z:=U (bS (w2:=w3) Z.out qe);replace Y:=U (bS (w2:=w3) Y.out qe);replace HB:X (Bt g w w3):=U qh;replace HR:=U R3;clear b3 R3;clear i3 eB KL KS;have hz3:=Z.out.lt;have hy3:=Y.out.lt;go_wp2_with fail;refine(mg _ (HR.out.low qe)).mono ?_;rintro e w4 h4;rcases h4.cases with⟨x4,u4,v4,r4,rfl,b4,V4,R4⟩|⟨u4,r4,rfl,b4⟩
   rotate_left 1
   · exact BG
   replace HS:=bY HS r4;replace Z:=U (bS (w2:=w4) Z.out qe);replace Y:=U (bS (w2:=w4) Y.out qe);replace KE:=U (J7 (w2:=w4) KE.out qe);replace KM:=U (Kl (w2:=w4) KM.out qe);have HT4:=U (oP.out HR.out.gd r4).2;replace HB:X (Bt g w w4):=U qh;replace HR:=U R4;clear b4 R4;clear r4 h4;obtain rfl:=V4;have sH:=Z.out.lt;have hy4:=Y.out.lt;go_wp2_with fail;refine(Ms.out _ _ (HR.out.low qe) (by have h1:=HT4.out;have h2:=HT2.out.2;have h3:=HT.out.2;rw[List.length_tail] at h1;omega)).mono ?_;rintro e w5 h5;rcases h5.cases with⟨x5,u5,v5,r5,rfl,b5,V5,R5⟩|⟨u5,r5,rfl,b5⟩
   rotate_left 1
   · exact BG
   replace HS:=bY HS r5;replace Z:=U (bS (w2:=w5) Z.out qe);replace Y:=U (bS (w2:=w5) Y.out qe);replace KE:=U (J7 (w2:=w5) KE.out qe);replace KM:=U (Kl (w2:=w5) KM.out qe);replace HB:X (Bt g w w5):=U qh;replace HR:=U R5;clear b5 R5;clear r5 h5;obtain⟨p5,m5,c5,rfl,k5⟩:=V5;have KA:X (cZ (fun b=>w.heap.size<b/\¬b=w2.heap.size) (w5.setCell ⟨w2.heap.size,20,V⟩ (.slice p5 m5 c5)) (.mk 3 mt mt x1 zE [] zD false x2 x5) (PL p1 m1 c1 p2 m2 c2 p5 m5 c5)):=U (VP (VQ KE.out KM.out (k5.mono fun b hb hlt=>by
    have hb':w4.heap.size<=b:=hb;exact⟨by omega,by omega⟩)) qe)
   clear KE KM k5;have l20:ah _ ⟨_,20,V⟩=aj (.slice V 0 0):=Y.out.get rfl;have fy:∀i,ak _ ⟨_,i,V⟩=false:=fun i=>df (i:=i) Y.out;go_wp2_with fail;replace Y:=U (fq (i:=20) (v:=.slice p5 m5 c5) Y.out);replace Z:=U (bS (w2:=af w5 ⟨w2.heap.size,20,V⟩ (.slice p5 m5 c5)) Z.out qe);replace HR:=U (HR.out.low (w2:=af w5 ⟨w2.heap.size,20,V⟩ (.slice p5 m5 c5)) qe);replace HB:=U (bR.set (p:=⟨w2.heap.size,20,V⟩) (v:=.slice p5 m5 c5) HB.out (by first|(left;simp;done)|(left;simp;omega)|(right;simp;done)|(right;simp;omega)));replace Y:X (bT (w5.setCell ⟨w2.heap.size,20,V⟩ (.slice p5 m5 c5)) w2.heap.size 60 (cs (.mk 3 mt mt x1 zE [] zD false x2 x5) (PL p1 m1 c1 p2 m2 c2 p5 m5 c5))):=U Y.out;clear l20 fy;refine(gW _ _ (HR.out.low qe) (by decide)).mono ?_;rintro e w6 h6;rcases h6.cases with⟨x6,u6,v6,r6,rfl,b6,V6,R6⟩|⟨u6,r6,rfl,b6⟩
   rotate_left 1
   · exact BG
   replace HS:=bY HS r6;replace Z:=U (bS (w2:=w6) Z.out qe);replace Y:=U (bS (w2:=w6) Y.out qe);replace KA:=U (VP (w2:=w6) KA.out qe);replace HB:X (Bt g w w6):=U qh;replace HR:=U R6;clear b6 R6;clear r6 h6;obtain rfl:=V6;obtain⟨W,hP⟩:=gM (c:=cs (.mk 3 mt mt x1 zE [] zD false x2 x5) (PL p1 m1 c1 p2 m2 c2 p5 m5 c5)) Z.out kC (Sm.jL _ _) rfl;have gY:=hP.bt;have eT:=U hP.box;have gZ:=hP.size;go_wp2_with (first|(refine wpList_load_row rfl 60 _ rfl _ rfl 60 _ (0,0) _ Y.out Tryz.underlying60 rfl (by kernel_rfl) ?_)|(refine gN rfl 60 _ _ rfl w.heap.size _ rfl rfl hP ?_))
   have q:∀W,bR (fun b=>w.heap.size<b/\¬b=w2.heap.size) w6 W->cZ (fun b=>w.heap.size<=b) W (.mk 3 mt mt x1 zE [] zD false x2 x5) (PL p1 m1 c1 p2 m2 c2 p5 m5 c5):=fun W q=>(VP KA.out q).mono fun b hb _=>Nat.le_of_lt hb.1;have bU:=HB.out;refine ae (v:=.agg (cs (.mk 3 mt mt x1 zE [] zD false x2 x5) (PL p1 m1 c1 p2 m2 c2 p5 m5 c5))) ?_ rfl (PO.ok ((dA HS)) qe ⟨(PL p1 m1 c1 p2 m2 c2 p5 m5 c5),rfl,q _ qe⟩ (HR.out.low qe));exact XP
 · replace HS:=nJ (yH HS i3);replace KS:=U (VO (w2:=w3) KS.out qe);replace Z:=U (bS (w2:=w3) Z.out qe);replace Y:=U (bS (w2:=w3) Y.out qe);replace HB:X (Bt g w w3):=U qh;replace HR:=U R3;clear b3 R3;clear i3 eB KL;go_wp2_with fail;refine(gW _ _ (HR.out.low qe) (by decide)).mono ?_;rintro e w4 h4;rcases h4.cases with⟨x4,u4,v4,r4,rfl,b4,V4,R4⟩|⟨u4,r4,rfl,b4⟩
   rotate_left 1
   · exact BG
   replace HS:=bY HS r4;replace Z:=U (bS (w2:=w4) Z.out qe);replace Y:=U (bS (w2:=w4) Y.out qe);replace KS:=U (VO (w2:=w4) KS.out qe);replace HB:X (Bt g w w4):=U qh;replace HR:=U R4;clear b4 R4;clear r4 h4;obtain rfl:=V4;obtain⟨W,hP⟩:=gM (c:=cs (.mk 3 mt mt x1 zE [] zD false x2 []) (PL p1 m1 c1 p2 m2 c2 V 0 0)) Z.out kC (Sm.jL _ _) rfl;have gY:=hP.bt;have eT:=U hP.box;have gZ:=hP.size;go_wp2_with (first|(refine wpList_load_row rfl 60 _ rfl _ rfl 60 _ (0,0) _ Y.out Tryz.underlying60 rfl (by kernel_rfl) ?_)|(refine gN rfl 60 _ _ rfl w.heap.size _ rfl rfl hP ?_))
   have bU:=HB.out;refine ae (v:=.agg (cs (.mk 3 mt mt x1 zE [] zD false x2 []) (PL p1 m1 c1 p2 m2 c2 V 0 0))) ?_ rfl (PO.ok ((dA HS)) qe ⟨(PL p1 m1 c1 p2 m2 c2 V 0 0),rfl,uz KS.out qe⟩ (HR.out.low qe));exact XP
end
end Ps
namespace Ps
open Go.RowKit
open Lx (Tk)
open Sm (St dE cZ cs)
open Md (Rec fC Rw bT Kind iH nC)
set_option maxHeartbeats 1000000
def lX:Rec St:=fun G w x c=>∃P,c=cs x P/\cZ G w x P
theorem lX.map:fC lX:=by
 intro G H w w2 hs hk x c ⟨P,h1,h2⟩;exact⟨P,h1,Sm.cZ.map hs hk x h2⟩
theorem Fe:iH 21 lX:=by
 intro G w x c ⟨P,h1,h2⟩;subst h1;exact⟨rfl,Sm.jL _ _⟩
theorem kSt:Kind 31 60 21:=nC Tryz.underlying31 (z:=.agg #[.int .i64 0,.string ⟨#[]⟩,.string ⟨#[]⟩,.int .i64 0,.string ⟨#[]⟩,.int .i64 0,.slice V 0 0,.int .i64 0,.string ⟨#[]⟩,.int .i64 0,.slice V 0 0,.slice V 0 0,.int .i64 0,.int .i64 0,.int .i64 0,.int .i64 0,.slice V 0 0,.slice V 0 0,.bool false,.slice V 0 0,.slice V 0 0]) (b:=312) (by kernel_rfl) (by decide) (by decide) (by decide)
theorem adU {G:Nat->Prop} {w:ai} {l:List St} {p:Option Addr} {m:Nat} (h:Rw 21 lX G w l p m):dE G w l p m:=by
 obtain⟨h1,h2,h3|⟨b,o,rfl,hg,hb,hc⟩⟩:=h
 · exact⟨h1,h2,.inl h3⟩
 · refine⟨h1,h2,.inr ⟨b,o,rfl,hg,hb,U fun i hi=>?_⟩⟩;obtain⟨c,h4,h5,P,rfl,h6⟩:=hc.out i hi;exact⟨P,h5,h6⟩
structure aif (L:Lk) (g:Nat) (r:R (List St)) (m:P St) (N:Nat) (w:ai) (k:Nat) (v:Value) (wr:ai):Prop where
 ex:∃l u,run (xC m k l) u=r/\u.length<k/\u.length<=N/\l.length+u.length<=30000/\bZ 60 21 lX (fun b=>w.heap.size<=b) wr v l/\Rd L g u wr
 bt:Bt g w wr
section
variable {L:Lk} {g:Nat} {t:List Tk}
theorem XQ {p:Prop} (h:p:=by
 have HW:=U hrw;clear hrw;go_wp2_with fail;go_ret;exact PO.ok (dA HS) HB.out ⟨p,_,c,rfl,adU HW.out⟩ HR.out
 ):p:=h
theorem QG {p:Prop} (h:p:=by have q:Lw g _ w1:=bR.of hb1;exact qe):p:=h
theorem XR {p:Prop} (h:p:=by have q:Lw g _ w2:=bR.of hb2;exact qe):p:=h
theorem LY {p:Prop} (h:p:=by have:=HL.out;omega):p:=h
set_option maxRecDepth 100000 in
theorem arJ (m:P St) (hm:Dn 1 m) (w:ai) (hR:Rd L g t w) (hC:∀W u,Rd L g u W->u.length<=t.length->au ag 81 #[.pointer (aj ⟨g,0,V⟩)] W (PO L g xS (run m u) W)):au ag 41 #[.pointer (aj ⟨g,0,V⟩)] w (PO L g BZ (run (xC m FU []) t) w):=by
 have ht:=hR.small;have HC:=U hC;have HM:=U hm;clear hC hm;obtain⟨r,hr⟩:∃r,run (xC m FU []) t=r:=⟨_,rfl⟩
 rw[hr];have HS:=U hr;have hg:=hR.blk;have HR:=U hR;have HB:X (Bt g w w):=U (bR.refl _ _);clear hR hr;go_enter Tryz.func41,Tryz.ntmps41;go_wp2_with fail;go_loopg [3] FU (aif L g r m t.length w)
 case atStart=>exact⟨⟨[],t,HS.out,by unfold FU;omega,ax _,by simp;omega,bZ.nil,HR.out⟩,HB.out⟩
 case round=>
  obtain⟨⟨l,u,hs,hk,hn,hl,ho,hR⟩,hb⟩:=hrel;clear HS HB HR;obtain⟨k,rfl⟩:∃k,gk=k+1:=⟨gk-1,by omega⟩
  rw[xC] at hs;have HL:=U hl;have HK:=U hk;have HN:=U hn;have HO:=U ho;have HR:=U hR;have HB:=U hb;have HS:=U hs;have n_:X (∀x v,run m u=.ok x v->Gd v/\v.length+1<=u.length):=U fun x v h=>HM.out.out hR.gd h;have q:=Oo (hd u).k (hd u).n (hd u).l (hd u).t;have hup:X (∀W,Bt g wr W->bZ 60 21 lX (fun b=>w.heap.size<=b) W u3 l):=U fun W hW=>HO.out.up lX.map (hW.mono fun k _ hk=>by have:w.heap.size<=k:=hk;omega) (ax _);clear hl hk hn ho hR hb hs
  cases i1:is qD u
  rotate_left 1
  · replace HS:=Fp HS i1;go_wp2_with fail;refine(qf qD _ (HR.out.low qe)).mono ?_;rintro e w1 ⟨rfl,hb1⟩;have b1:Bt g _ w1:=bR.of hb1;have R1:Rd L g _ w1:=HR.out.low QG;clear hb1;rw[i1];have B1:=U b1;replace HB:X (Bt g w w1):=U qh;replace HR:=U R1;clear b1 R1;clear i1;obtain⟨p,c,rfl,hrw⟩:=(hup.out w1 B1.out).rw lX.map Fe LY;exact XQ
  replace HS:=Fj HS i1
  cases i2:is Cx u
  rotate_left 1
  · replace HS:=Fp HS i2;go_wp2_with fail;refine(qf qD _ (HR.out.low qe)).mono ?_;rintro e w1 ⟨rfl,hb1⟩;have b1:Bt g _ w1:=bR.of hb1;have R1:Rd L g _ w1:=HR.out.low QG;clear hb1;rw[i1];have B1:=U b1;replace HB:X (Bt g w w1):=U qh;replace HR:=U R1;clear b1 R1;go_wp2_with fail;refine(qf Cx _ (HR.out.low qe)).mono ?_;rintro e w2 ⟨rfl,hb2⟩;have b2:Bt g _ w2:=bR.of hb2;have R2:Rd L g _ w2:=HR.out.low XR;clear hb2;rw[i2];have B2:=U (B1.out.trans b2);replace HB:X (Bt g w w2):=U qh;replace HR:=U R2;clear b2 R2;clear i1 i2;obtain⟨p,c,rfl,hrw⟩:=(hup.out w2 B2.out).rw lX.map Fe LY;exact XQ
  replace HS:=Fj HS i2;by_cases hk0:(hd u).k=0
  · have hk1:((hd u).k != 0)=false:=by simp[hk0]
    replace HS:=Wt HS hk0;clear hk0;go_wp2_with fail;refine(qf qD _ (HR.out.low qe)).mono ?_;rintro e w1 ⟨rfl,hb1⟩;have b1:Bt g _ w1:=bR.of hb1;have R1:Rd L g _ w1:=HR.out.low QG;clear hb1;rw[i1];have B1:=U b1;replace HB:X (Bt g w w1):=U qh;replace HR:=U R1;clear b1 R1;go_wp2_with fail;refine(qf Cx _ (HR.out.low qe)).mono ?_;rintro e w2 ⟨rfl,hb2⟩;have b2:Bt g _ w2:=bR.of hb2;have R2:Rd L g _ w2:=HR.out.low XR;clear hb2;rw[i2];have B2:=U (B1.out.trans b2);replace HB:X (Bt g w w2):=U qh;replace HR:=U R2;clear b2 R2;clear i1 i2;go_wp2_with fail;refine(zT _ (HR.out.low qe)).mono ?_;rintro e w3 ⟨rfl,hb3⟩;have b3:Bt g _ w3:=bR.of hb3;have R3:Rd L g _ w3:=HR.out.low (by have q:Lw g _ w3:=bR.of hb3;exact qe);have B3:=U (B2.out.trans b3);clear hb3;replace HB:X (Bt g w w3):=U qh;replace HR:=U R3;clear b3 R3;unfold tv;obtain⟨p,c,rfl,hrw⟩:=(hup.out w3 B3.out).rw lX.map Fe LY;exact XQ
  · have hk1:((hd u).k != 0)=true:=by simp[hk0]
    replace HS:=Wu HS hk0;clear hk0;go_wp2_with fail;refine(qf qD _ (HR.out.low qe)).mono ?_;rintro e w1 ⟨rfl,hb1⟩;have b1:Bt g _ w1:=bR.of hb1;have R1:Rd L g _ w1:=HR.out.low QG;clear hb1;rw[i1];have B1:=U b1;replace HB:X (Bt g w w1):=U qh;replace HR:=U R1;clear b1 R1;go_wp2_with fail;refine(qf Cx _ (HR.out.low qe)).mono ?_;rintro e w2 ⟨rfl,hb2⟩;have b2:Bt g _ w2:=bR.of hb2;have R2:Rd L g _ w2:=HR.out.low XR;clear hb2;rw[i2];have B2:=U (B1.out.trans b2);replace HB:X (Bt g w w2):=U qh;replace HR:=U R2;clear b2 R2;clear i1 i2;go_wp2_with fail;refine(zT _ (HR.out.low qe)).mono ?_;rintro e w3 ⟨rfl,hb3⟩;have b3:Bt g _ w3:=bR.of hb3;have R3:Rd L g _ w3:=HR.out.low (by have q:Lw g _ w3:=bR.of hb3;exact qe);have B3:=U (B2.out.trans b3);clear hb3;replace HB:X (Bt g w w3):=U qh;replace HR:=U R3;clear b3 R3;unfold tv;obtain⟨p5,c5,hv⟩:∃p c,u3=.slice p l.length c:=by
     obtain⟨p,c,h,-⟩:=HO.out.rw lX.map Fe LY;exact⟨p,c,h⟩
    subst hv;go_wp2_with fail;clear q hk1;refine(HC.out _ _ (HR.out.low qe) HN.out).mono ?_;rintro e w4 h4;rcases h4.cases with⟨x4,u4',v4,r4,rfl,b4,V4,R4⟩|⟨u4',r4,rfl,b4⟩
    rotate_left 1
    · have bU:=HB.out;go_wp2_with fail;exact⟨rfl,PO.no (dJ HS (by assumption)) qe⟩
    have mZ:=U (n_.out _ _ r4);replace HS:=bY HS r4;have s3:=HB.out.size;have s4:=b4.size;obtain⟨P4,rfl,k4⟩:=V4;have yC:bZ 60 21 lX (fun b=>w.heap.size<=b) w4 (.slice p5 l.length c5) l:=(hup.out w4 (B3.out.trans b4))
    have HY:X (lX (fun b=>w.heap.size<=b/\¬(Value.slice p5 l.length c5).ownBlock=aj b) (w4.alloc (.cells (cs x4 P4) 60)) x4 (cs x4 P4)):=U ⟨P4,rfl,Sm.cZ.map (G:=fun b=>w3.heap.size<=b) (by simp) (fun b hb hlt=>⟨⟨by have hb':w3.heap.size<=b:=hb;omega,fun e=>by have h9:=HO.out.own e;have h8:=B3.out.size;have hb':w3.heap.size<=b:=hb;omega⟩,by show(w4.heap.push _)[b]?=_;rw[Array.getElem?_push,if_neg (by omega)]⟩) _ k4⟩;replace HO:=U yC;replace HB:X (Bt g w w4):=U qh;replace HR:=U R4;clear b4 R4;clear r4 h4 yC n_ k4 hup;have o4:bZ 60 21 lX (fun b=>w.heap.size<=b) (w4.alloc (.cells (cs x4 P4) 60)) (.slice p5 l.length c5) l:=HO.out.up lX.map qe (ax _);have c4:bT (w4.alloc (.cells (cs x4 P4) 60)) w4.heap.size 60 (cs x4 P4):=bT.new;obtain⟨v5,w5,hrun,o5,hg5⟩:=o4.app kSt lX.map Fe c4.cell (x:=x4) HY.out LY;have B5:X (Bt g w w5):=U (bR.grown qh hg5 fun b hb=>.inl (o4.blk b hb));have R5:X (Rd L g u4' w5):=U (HR.out.low (bR.grown qe hg5 fun b hb=>.inr (by have:=o4.blk b hb;show ¬b<=g;omega)));have O5:X (bZ 60 21 lX (fun b=>w.heap.size<=b) w5 v5 (l++[x4])):=U (o5.map lX.map (ax _) fun b hb _=>⟨by
     rcases hb with hb|hb
     · exact hb
     · have e:(w4.alloc (.cells (cs x4 P4) 60)).heap.size=w4.heap.size+1:=by simp
       omega,rfl⟩)
    clear o4 c4 o5 hg5 HB HR HO HY;dsimp only [cs] at hrun ⊢;go_wp2_with (at_builtin;refine Lib.wpList_append_run _ rfl _ _ _ _ rfl _ _ rfl rfl _ _ hrun ?_)
    refine(mg _ R5.out).mono ?_;rintro e w6 h6;rcases h6.cases with⟨x6,u6',v6,r6,rfl,b6,V6,R6⟩|⟨u6',r6,rfl,b6⟩
    rotate_left 1
    · have bU:=B5.out;go_wp2_with fail;exact⟨rfl,PO.no (dJ HS (by assumption)) qe⟩
    have HT6:=U ((oP.out mZ.out.1 r6).2);replace HS:=bY HS r6;obtain rfl:=V6;have O6:X (bZ 60 21 lX (fun b=>w.heap.size<=b) w6 v5 (l++[x4])):=U (O5.out.up lX.map (b6.mono fun k _ hk=>by have:w.heap.size<=k:=hk;omega) (ax _));have B6:X (Bt g w w6):=U (by have bU:=B5.out;exact qe);have R6':=U R6;clear b6 R6 r6 h6 hrun B5 R5 O5;go_wp2_with fail;go_roundg k
    case measure=>omega
    case rel=>
     have h1:=mZ.out.2;have h2:=HK.out;have h3:=HN.out;have h4:=HL.out;have h5:=HT6.out;exact⟨⟨_,u6',HS.out,by omega,by omega,by simp at h4 ⊢; omega,O6.out,R6'.out⟩,B6.out⟩
end
end Ps
namespace Ps
open Go.RowKit
open Lx (Tk)
open Sm (dE)
set_option maxHeartbeats 1000000
theorem Wx (L:Lk) (g:Nat):∀n W u,Rd L g u W->u.length<n->au ag 41 #[.pointer (aj ⟨g,0,V⟩)] W (PO L g BZ (run (fS n) u) W)
 | 0,_,_,_,h=>absurd h (Nat.not_lt_zero _)
 | n+1,W,u,hR,h=>by
  rw[fS];refine arJ (stt (fS n)) (aaB (NU n)) W hR fun W1 u1 hR1 h1=>?_;refine arI (fS n) W1 hR1 (fun W2 u2 hR2 h2=>?_) (fun W2 u2 hR2 h2=>?_)
  · exact akf (fS n) (NU n) W2 hR2 fun W3 u3 T9 h3=>Wx L g n W3 u3 T9 (by omega)
  · exact aoe (fS n) W2 hR2 fun W3 u3 T9 h3=>Wx L g n W3 u3 T9 (by omega)
section
variable {L:Lk} {g:Nat} {t:List Tk}
theorem afq (w:ai) (hR:Rd L g t w):au ag 41 #[.pointer (aj ⟨g,0,V⟩)] w (PO L g BZ (run Bu t) w):=Wx L g FU w t hR hR.fu
set_option maxRecDepth 100000 in
theorem ao8 (w:ai) (hR:Rd L g t w):au ag 17 #[.pointer (aj ⟨g,0,V⟩)] w (PE g BZ (run vM t) w):=by
 obtain⟨r,hr⟩:∃r,run vM t=r:=⟨_,rfl⟩
 rw[hr];have HS:=U hr;have hg:=hR.blk;have HR:=U hR;have HB:X (Bt g w w):=U (bR.refl _ _);clear hR hr;go_enter Tryz.func17,Tryz.ntmps17;go_wp2_with fail;refine(afq _ (HR.out.low qe)).mono ?_;rintro e w1 h1;rcases h1.cases with⟨x1,u1,v1,r1,rfl,b1,V1,R1⟩|⟨u1,r1,rfl,b1⟩
 rotate_left 1
 · have bU:=HB.out;go_wp2_with fail;exact⟨rfl,PE.no (dJ HS r1) qe⟩
 replace HS:=bY HS r1;obtain⟨p1,m1,c1,rfl,k1⟩:=V1;have KL:=U k1;have hz:w.heap.size<=w1.heap.size:=b1.size;replace HB:X (Bt g w w1):=U qh;replace HR:=U R1;clear b1 R1;clear k1 h1 r1;go_wp2_with fail;refine(Tu _ (HR.out.low qe)).mono ?_;rintro e w3 h3;rcases h3.cases with⟨x3,u3,v3,r3,rfl,b3,V3⟩|⟨u3,r3,rfl,b3⟩
 rotate_left 1
 · have bU:=HB.out;go_wp2_with fail;exact⟨rfl,PE.no (dJ HS r3) qe⟩
 replace HS:=bY HS r3;obtain rfl:=V3;have KM:X (dE (fun b=>w.heap.size<=b) w3 x1 p1 m1):=U (Sm.dE.map b3.size (fun b hb hlt=>⟨hb,b3.block b hlt (by have hb':w.heap.size<=b:=hb;omega)⟩) KL.out);replace HB:X (Bt g w w3):=U qh;clear b3 r3 h3 KL;go_wp2_with fail;go_ret;exact PE.ok (dA HS) HB.out ⟨p1,m1,c1,rfl,KM.out⟩
end
end Ps
namespace Ps
open Go.RowKit
open Lx (j4)
open Sm (St dE cs)
open Md (bT)
set_option maxHeartbeats 600000
theorem aeF {P:Program} {fn:Func} {p q u:Tmp} (h:fn.results=#[.tmp p,.cell q 3,.tmp u]) (tmps:Array Value) (w:ai) (k:Nat) (v:Value) (hq:tmps.getD q undef=.pointer (aj ⟨k,0,V⟩)) (hk:(loadVar 3 ⟨k,0,V⟩).run P w=.ok v w) {a b:Value} (ea:tmps.getD p undef=a) (eb:tmps.getD u undef=b):(results fn tmps).run P w=.ok (.tuple #[a,v,b]) w:=by
 have hq':tmps[q]?.getD undef=.pointer (aj ⟨k,0,V⟩):=by simpa using hq
 subst ea eb;simp[results,h,hq',asAddr,hk]
set_option maxRecDepth 100000 in
theorem ajH (p:Addr) (x n:Int) (older:List PanicEntry) (w:ai) (hc:w.cell? p=aj (.int .i64 x)) (hz:w.frozen? p=false):CallsD ag 79 #[.pointer (aj p)] (.panicking ({ v:=.iface 137 (.agg #[.int .i64 n]),recovered:=false }::older)) w fun e u' w'=>e=.returned (.tuple #[])/\u'=.panicking ({ v:=.iface 137 (.agg #[.int .i64 n]),recovered:=true }::older)/\w'=(w.alloc (.cells #[.int .i64 n] 137)).setCell p (.int .i64 n):=by
 refine callsD_of_wpS Tryz.func79 rfl fun c₀ cs hu=>?_;have yt:(Instr.typeAssert (Value.iface 137 (Value.agg #[Value.int IntKind.i64 n])) 20 137 true).run ag w=.ok (.tuple #[.agg #[.int .i64 n],.bool true]) w:=by kernel_rfl
 have hlt:p.block<w.heap.size:=by
  unfold ah at hc
  split at hc
  · rename_i h;exact(Array.getElem?_eq_some_iff.1 h).1
  all_goals cases hc
 have hbb:(w.alloc (.cells #[.int .i64 n] 137)).heap[p.block]?=w.heap[p.block]?:=by
  show(w.heap.push _)[p.block]?=_
  rw[Array.getElem?_push,if_neg (by omega)]
 have h1:(w.alloc (.cells #[.int .i64 n] 137)).cell? ⟨w.heap.size,0,V⟩=aj (.int .i64 n):=by rw[World.cell?_alloc_mark];rfl
 have h2:(w.alloc (.cells #[.int .i64 n] 137)).cell? p=aj (.int .i64 x):=(World.cell?_of_block hbb).trans hc;have h3:(w.alloc (.cells #[.int .i64 n] 137)).frozen? p=false:=by unfold ak at hz ⊢; rw[hbb];exact hz
 apply wpS_seq
 apply wpS_region
 simp[wpOpsS,go_sem,recoverD,hu,Tryz.ntmps79,Exit.thenS,yt]
 apply wpS_seq
 apply wpS_region
 simp[wpOpsS,go_sem,Exit.thenS]
 refine wpS_cond (t:=true) (by simp[Act.eval,Array.replicate]) ?_;simp only[if_true]
 apply wpS_region
 simp[wpOpsS,go_sem,h1,h2,h3,bodyPostS,results,Tryz.results79]
set_option maxRecDepth 100000 in
theorem ajG (p:Addr) (w:ai):CallsD ag 79 #[.pointer (aj p)] .returning w fun e u' w'=>e=.returned (.tuple #[])/\u'=.returning/\w'=w.alloc (.cells #[.int .i64 0] 137):=by
 refine callsD_of_wpS Tryz.func79 rfl fun c₀ cs hu=>?_;have yt:(Instr.typeAssert Value.nilIface 20 137 true).run ag w=.ok (.tuple #[.agg #[.int .i64 0],.bool false]) w:=by kernel_rfl
 apply wpS_seq
 apply wpS_region
 simp[wpOpsS,go_sem,recoverD,hu,Tryz.ntmps79,Exit.thenS,yt]
 apply wpS_seq
 apply wpS_region
 simp[wpOpsS,go_sem,Exit.thenS]
 refine wpS_cond (t:=false) (by simp[Act.eval,Array.replicate]) ?_;simp only[Bool.false_eq_true,if_false];refine wpS_of_wp (wp_skip ?_);cases c₀
 simp_all [bodyPostS,results,Tryz.results79]
set_option maxRecDepth 100000 in
theorem amr (f:FuncId) (m:P (List St)) (L:Lk) (w:ai) (hf:∀(a:Array Value) (W:ai),(callFunc f a).run ag W=.ok (.enter f a) W) (ht:j4 w (aj ⟨L.b,L.o,V⟩) L.m L.l) (hgd:Gd L.l) (nu:L.l.length<=30000) (hC:∀g W,Rd L g L.l W->au ag f #[.pointer (aj ⟨g,0,V⟩)] W (PE g BZ (run m L.l) W)):au ag 40 #[.func (.func f) #[] #[],.slice (aj ⟨L.b,L.o,V⟩) L.m L.c] w (FO BZ (.slice V 0 0) (run m L.l) w):=by
 have HC:=U hC;have HT:=U ht;have HG:=U hgd;have HF:=U nu;obtain⟨r,hr⟩:∃r,run m L.l=r:=⟨_,rfl⟩
 rw[hr] at HC ⊢;clear hC ht hgd nu;have hmf:∀(fn:Fn) (first cap:Array Value) (w:ai),(Instr.makeFunc fn first cap).run ag w=.ok (.func fn first cap) w:=fun _ _ _ _=>rfl;go_enter_defers Tryz.func40,Tryz.ntmps40
 go_wp2_with fail;have hlb:L.b<w.heap.size:=by
  obtain⟨e1,e2,e3|⟨b',o',e,hlt,hc⟩⟩:=HT.out
  · have h1:=HG.out.ne;omega
  · cases e;exact hlt
 have N:=U (bT.new (w:=w) (t:=3) (c:=#[.int .i64 0]));have hnl:=N.out.lt;refine(HC.out (w.heap.size+1) _ (Vr rfl (by simp) (by simp;omega) HT.out.alloc HG.out HF.out)).mono ?_;rintro e w1 h1;rcases h1.cases with⟨x1,u1,v1,r1,rfl,b1,V1⟩|⟨u1,r1,rfl,b1⟩
 · have N1:=U (bS (w2:=w1) N.out qe);have B1:X (bR (fun k=>k<w.heap.size) w w1):=U qe;have HK:=U r1;obtain⟨p1,m1,c1,rfl,k1⟩:=V1;have K1:X (dE (fun b=>w.heap.size<b) w1 x1 p1 m1):=U (k1.mono fun b hb hlt=>by
    have hb':_<=b:=hb;simp at hb'
    omega)
   clear b1 h1 r1 k1 N;have q0:ah _ ⟨_,0,V⟩=aj (.int .i64 0):=N1.out.get rfl;have qz:∀i,ak _ ⟨_,i,V⟩=false:=fun i=>df (i:=i) N1.out;go_wp2_with fail;refine leaves_cons (f:=79) (args:=#[.pointer (aj ⟨w.heap.size,0,V⟩)]) (by simp) (by simp[go_sem]) ?_;refine(ajG _ _).mono ?_;rintro e u' w'' ⟨rfl,rfl,rfl⟩;have BB:=B1.out;refine⟨_,aeF rfl _ _ w.heap.size (.int .i64 0) rfl (GL ?_) rfl rfl,?_⟩
   · have N4:=fq (i:=0) (v:=.int .i64 0) N1.out;exact(bS N4 qe).get (r:=0) rfl
   · have q:∀W,bR (fun b=>w.heap.size<b) w1 W->dE (fun b=>w.heap.size<=b) W x1 p1 m1:=fun W q=>Sm.dE.map q.size (fun b hb hlt=>⟨Nat.le_of_lt hb,q.block b hlt hb⟩) K1.out;exact FO.ok HK.out (oq qe) ⟨p1,m1,c1,rfl,q _ qe⟩
 · have N1:=U (bS (w2:=w1) N.out qe);have B1:X (bR (fun k=>k<w.heap.size) w w1):=U qe;have HK:=U r1;clear b1 h1 r1 N;go_wp2_with fail;refine leaves_cons (f:=79) (args:=#[.pointer (aj ⟨w.heap.size,0,V⟩)]) (by simp) (by simp[go_sem]) ?_;refine(ajH _ 0 (hd u1).l [] _ (N1.out.get rfl) (df N1.out)).mono ?_;rintro e u' w'' ⟨rfl,rfl,rfl⟩;refine⟨_,aeF rfl _ _ w.heap.size (.int .i64 (hd u1).l) rfl (GL ?_) rfl rfl,?_⟩
   · refine(fq (i:=0) (v:=.int .i64 (hd u1).l) (bS N1.out ?_)).get (r:=0) rfl;exact qe
   · exact FO.no HK.out (oq (by have BB:=B1.out;exact qe))
end Ps
end Go.Proofs.YtbgodajefaahdaaGreatDoor
