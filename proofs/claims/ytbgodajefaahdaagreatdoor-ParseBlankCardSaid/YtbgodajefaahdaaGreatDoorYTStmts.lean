/-
  Parts of this proof: The contract of Stmts. The contract of follow for models. A record that is being made in a box, with lists. The contract of the reader's start declaration. The kinds of the lists that a model has, and the. The contract of the reader's conservation law. The contract of the reader's routine.
-/
import Derived.Test.YtbgodajefaahdaaGreatDoorYTStE
import Derived.Test.YtbgodajefaahdaaGreatDoorYTSzS
import Derived.Test.YtbgodajefaahdaaGreatDoorYPChk1
import Derived.Deep.RegionLaw
import Derived.Test.YtbgodajefaahdaaGreatDoorYTLstF
open Option renaming none->U,some->ai
open Go.Lib renaming hid->X
open Go.World renaming cell?->ae,frozen?->ah,setCell->au
open Go renaming World->af,Value->aj,results_cell_row->av,bodyPost_ret->ax
open Go.Proofs.Tryz renaming prog->ag
open Go.RowKit renaming Hid->A
open Nat renaming le_refl->ak
set_option linter.unusedVariables false
open Go.Lib (hid)
namespace Go.Proofs.YtbgodajefaahdaaGreatDoor
namespace Ps
open Go.RowKit
open Lx (bs BX eP mW fI EN He)
open Sm (St dE oK iY)
set_option maxHeartbeats 600000
def kZ (s:List UInt8):List St×Int×Int:=jS [] vM iY s
def SO (q:List St×Int×Int) (w:af) (e:Ending) (w':af):Prop:=Below w.heap.size w w'/\∃p m c,e=.returned (.tuple #[.slice p m c,.int .i64 q.2.1,.int .i64 q.2.2])/\dE (fun b=>w.heap.size<=b) w' q.1 p m
theorem SO.mk {q:List St×Int×Int} {w w':af} {x:List St} {p:Option Addr} {m c:Nat} {a b:Int} (hq:q=(x,a,b)) (hb:Below w.heap.size w w') (hk:dE (fun b=>w.heap.size<=b) w' x p m):SO q w (.returned (.tuple #[.slice p m c,.int .i64 a,.int .i64 b])) w':=by subst hq;exact⟨hb,p,m,c,rfl,hk⟩
theorem agm {p:Prop} (h:p:=by have bU:=HB.out;have q1:=hb2;have q:bR (fun k=>k<w.heap.size) _ w2:=bR.of q1;exact qe):p:=h
set_option maxRecDepth 100000 in
theorem ap5 (s:ByteArray) (w:af) (hs:s.size<=9223372036854775807) (hE:Nu.Env w):Calls ag 16 #[.string s,.func (.func 17) #[] #[],.func (.func 18) #[] #[]] w (SO (kZ (bs s)) w):=by
 have HE:A (∀W,Below w.heap.size w W->Calls ag 27 #[.string s] W (BX W (eP (bs s)) (mW (bs s)) (fI (bs s)))):=X fun W hW=>He s W hs (hE.below hW);clear hE hs;obtain⟨E,yf⟩:∃E,fI (bs s)=E:=⟨_,rfl⟩
 obtain⟨q,hq⟩:∃q,kZ (bs s)=q:=⟨_,rfl⟩
 rw[yf] at HE;rw[hq];have jr:=X yf;have HQ:=X hq;clear yf hq;go_enter Tryz.func16,Tryz.ntmps16;go_wp2_with fail;refine(HE.out _ bl).mono ?_;rintro e w1 ⟨v1,rfl,ho,hb⟩;clear HE;have HB:A (bR (fun k=>k<w.heap.size) w w1):=X (by have q1:=hb;have q:bR (fun k=>k<w.heap.size) _ w1:=bR.of q1;exact qe);have HO:=X ho;have hs1:=hb.size;clear hb ho;by_cases h0:E=0
 · have b0:(E != 0)=false:=by simp[h0]
   subst h0;obtain⟨hgd,nu⟩:=Az jr.out;obtain⟨p,c,rfl,ht,hc,hp⟩:=EN HO.out;have hne:=hgd.ne;obtain⟨g,rfl,hg⟩:∃g,p=ai ⟨g,0,U⟩/\w.heap.size<=g:=by
    rcases hp with⟨-,h⟩|⟨g,h,h2⟩
    · omega
    · exact⟨g,h,by omega⟩
   have HT:=X ht;have HG:=X hgd;have HF:=X nu;clear ht hgd nu hc hp hg hne HO;go_wp2_with fail;refine(amr 17 vM ⟨g,0,(eP (bs s)).length,c,eP (bs s)⟩ w1 (fun _ _=>rfl) HT.out HG.out HF.out (fun g W hR=>ao8 W hR)).mono ?_;rintro e w2 h2;obtain⟨hb2,⟨x2,u2,v2,r2,rfl,V2⟩|⟨u2,r2,rfl⟩⟩:=h2.cases
   · obtain⟨p2,m2,c2,rfl,k2⟩:=V2;obtain⟨hcnt,hsz⟩:=ao1 HG.out HF.out r2;have HX:A ((iY x2=0->q=(x2,0,0))/\(¬iY x2=0->q=([],0,iY x2))):=X ⟨fun h=>HQ.out.symm.trans (G8 jr.out r2 h),fun h=>HQ.out.symm.trans (G6 jr.out r2 h)⟩;have HC:=X (fun W (hI:oK W x2 p2 m2)=>Sm.pO x2 p2 m2 c2 W hI hsz);replace HB:A (bR (fun k=>k<w.heap.size) w w2):=X agm;have KX:A (dE (fun b=>w.heap.size<=b) w2 x2 p2 m2):=X (k2.mono fun b hb hlt=>by
      have hb':w1.heap.size<=b:=hb
      show w.heap.size<=b
      omega)
     have hs2:w1.heap.size<=w2.heap.size:=hb2.size;clear h2 r2 hb2 hcnt hsz k2 HQ jr HT HG HF;obtain⟨V,hV⟩:∃V,iY x2=V:=⟨_,rfl⟩
     rw[hV] at HX HC;clear hV;go_wp2_with fail;refine(HC.out _ KX.out.all).mono ?_;rintro e w3 ⟨rfl,hb3⟩;replace HB:A (bR (fun k=>k<w.heap.size) w w3):=X (by have bU:=HB.out;have q1:=hb3;have q:bR (fun k=>k<w.heap.size) _ w3:=bR.of q1;exact qe);have KK:A (dE (fun b=>w.heap.size<=b) w3 x2 p2 m2):=X (Kl KX.out (bR.of hb3));clear hb3 KX HC;by_cases h1:V=0
     · have b1:(V != 0)=false:=by simp[h1]
       have hx:=X (HX.out.1 h1);clear h1 HX;go_wp2_with fail;go_ret3
       exact SO.mk hx.out (oq HB.out) KK.out
     · have b1:(V != 0)=true:=by simp[h1]
       have hx:=X (HX.out.2 h1);clear h1 HX;go_wp2_with fail;go_ret3
       exact SO.mk hx.out (oq HB.out) Sm.dE.nil
   · have HX:=X (HQ.out.symm.trans (Dm jr.out r2));replace HB:A (bR (fun k=>k<w.heap.size) w w2):=X agm;clear h2 r2 hb2 HQ jr HT HG HF;go_wp2_with fail;go_ret3
     exact SO.mk HX.out (oq HB.out) Sm.dE.nil
 · have b0:(E != 0)=true:=by simp[h0]
   have HX:=X (HQ.out.symm.trans (G7 (by rw[jr.out];exact h0)));clear h0 HO;go_wp2_with fail;go_ret3
   exact SO.mk (by rw[HX.out,jr.out]) (oq HB.out) Sm.dE.nil
set_option maxRecDepth 100000 in
theorem arY (s:ByteArray) (w:af) (hs:s.size<=9223372036854775807) (hE:Nu.Env w):Calls ag 7 #[.string s] w (SO (kZ (bs s)) w):=by
 have HC:=X (fun W (hW:Nu.Env W)=>ap5 s W hs hW);have HE:=X hE;obtain⟨⟨x,a,b⟩,hq⟩:∃q,kZ (bs s)=q:=⟨_,rfl⟩
 rw[hq] at HC ⊢;clear hE hs hq;go_enter Tryz.func7,Tryz.ntmps7;go_wp2_with fail;refine(HC.out _ (HE.out.below bl)).mono ?_;rintro e w1 ⟨hb,p,m,c,rfl,hk⟩;have HB:=X hb;have HK:=X hk;clear hb hk HC;go_wp2_with fail;go_ret3
 exact⟨by have q:=HB.out;exact bl,p,m,c,rfl,HK.out⟩
end Ps
namespace Ps
open Go.RowKit
open Lx (j4)
open Md (bT dx dB Aj iG)
set_option maxHeartbeats 600000
set_option maxRecDepth 100000 in
theorem ajF (p:Addr) (x n:Int) (older:List PanicEntry) (w:af) (hc:w.cell? p=ai (.int .i64 x)) (hz:w.frozen? p=false):CallsD ag 57 #[.pointer (ai p)] (.panicking ({ v:=.iface 137 (.agg #[.int .i64 n]),recovered:=false }::older)) w fun e u' w'=>e=.returned (.tuple #[])/\u'=.panicking ({ v:=.iface 137 (.agg #[.int .i64 n]),recovered:=true }::older)/\w'=(w.alloc (.cells #[.int .i64 n] 137)).setCell p (.int .i64 n):=by
 refine callsD_of_wpS Tryz.func57 rfl fun c₀ cs hu=>?_;have yt:(Instr.typeAssert (Value.iface 137 (Value.agg #[Value.int IntKind.i64 n])) 20 137 true).run ag w=.ok (.tuple #[.agg #[.int .i64 n],.bool true]) w:=by kernel_rfl
 have hlt:p.block<w.heap.size:=by
  unfold ae at hc
  split at hc
  · rename_i h;exact(Array.getElem?_eq_some_iff.1 h).1
  all_goals cases hc
 have hbb:(w.alloc (.cells #[.int .i64 n] 137)).heap[p.block]?=w.heap[p.block]?:=by
  show(w.heap.push _)[p.block]?=_
  rw[Array.getElem?_push,if_neg (by omega)]
 have h1:(w.alloc (.cells #[.int .i64 n] 137)).cell? ⟨w.heap.size,0,U⟩=ai (.int .i64 n):=by rw[World.cell?_alloc_mark];rfl
 have h2:(w.alloc (.cells #[.int .i64 n] 137)).cell? p=ai (.int .i64 x):=(World.cell?_of_block hbb).trans hc;have h3:(w.alloc (.cells #[.int .i64 n] 137)).frozen? p=false:=by unfold ah at hz ⊢; rw[hbb];exact hz
 apply wpS_seq
 apply wpS_region
 simp[wpOpsS,go_sem,recoverD,hu,Tryz.ntmps57,Exit.thenS,yt]
 apply wpS_seq
 apply wpS_region
 simp[wpOpsS,go_sem,Exit.thenS]
 refine wpS_cond (t:=true) (by simp[Act.eval,Array.replicate]) ?_;simp only[if_true]
 apply wpS_region
 simp[wpOpsS,go_sem,h1,h2,h3,bodyPostS,results,Tryz.results57]
set_option maxRecDepth 100000 in
theorem ajE (p:Addr) (w:af):CallsD ag 57 #[.pointer (ai p)] .returning w fun e u' w'=>e=.returned (.tuple #[])/\u'=.returning/\w'=w.alloc (.cells #[.int .i64 0] 137):=by
 refine callsD_of_wpS Tryz.func57 rfl fun c₀ cs hu=>?_;have yt:(Instr.typeAssert Value.nilIface 20 137 true).run ag w=.ok (.tuple #[.agg #[.int .i64 0],.bool false]) w:=by kernel_rfl
 apply wpS_seq
 apply wpS_region
 simp[wpOpsS,go_sem,recoverD,hu,Tryz.ntmps57,Exit.thenS,yt]
 apply wpS_seq
 apply wpS_region
 simp[wpOpsS,go_sem,Exit.thenS]
 refine wpS_cond (t:=false) (by simp[Act.eval,Array.replicate]) ?_;simp only[Bool.false_eq_true,if_false];refine wpS_of_wp (wp_skip ?_);cases c₀
 simp_all [bodyPostS,results,Tryz.results57]
set_option maxRecDepth 100000 in
theorem amq (f:FuncId) (m:P dx) (L:Lk) (w:af) (hf:∀(a:Array aj) (W:af),(callFunc f a).run ag W=.ok (.enter f a) W) (ht:j4 w (ai ⟨L.b,L.o,U⟩) L.m L.l) (hgd:Gd L.l) (nu:L.l.length<=30000) (hC:∀g W,Rd L g L.l W->Calls ag f #[.pointer (ai ⟨g,0,U⟩)] W (PE g (VR Aj) (run m L.l) W)):Calls ag 28 #[.func (.func f) #[] #[],.slice (ai ⟨L.b,L.o,U⟩) L.m L.c] w (FO (VR Aj) (.agg #[.string ⟨#[]⟩,.slice U 0 0,.slice U 0 0,.slice U 0 0]) (run m L.l) w):=by
 have HC:=X hC;have HT:=X ht;have HG:=X hgd;have HF:=X nu;obtain⟨r,hr⟩:∃r,run m L.l=r:=⟨_,rfl⟩
 rw[hr] at HC ⊢;clear hC ht hgd nu;have hmf:∀(fn:Fn) (first cap:Array aj) (w:af),(Instr.makeFunc fn first cap).run ag w=.ok (.func fn first cap) w:=fun _ _ _ _=>rfl;go_enter_defers Tryz.func28,Tryz.ntmps28
 go_wp2_with fail;have hlb:L.b<w.heap.size:=by
  obtain⟨e1,e2,e3|⟨b',o',e,hlt,hc⟩⟩:=HT.out
  · have h1:=HG.out.ne;omega
  · cases e;exact hlt
 have z0:bT (w.alloc (.cells #[.string ⟨#[]⟩,.slice U 0 0,.slice U 0 0,.slice U 0 0] 27)) w.heap.size 27 #[.string ⟨#[]⟩,.slice U 0 0,.slice U 0 0,.slice U 0 0]:=bT.new;have n0:bT ((w.alloc (.cells #[.string ⟨#[]⟩,.slice U 0 0,.slice U 0 0,.slice U 0 0] 27)).alloc (.cells #[.int .i64 0] 3)) (w.heap.size+1) 3 #[.int .i64 0]:=by
  have h:=bT.new (w:=w.alloc (.cells #[.string ⟨#[]⟩,.slice U 0 0,.slice U 0 0,.slice U 0 0] 27)) (t:=3) (c:=#[.int .i64 0]);rwa [show(w.alloc (.cells #[.string ⟨#[]⟩,.slice U 0 0,.slice U 0 0,.slice U 0 0] 27)).heap.size=w.heap.size+1 by simp] at h
 have Z:=X z0;have N:=X n0;have hzl:=z0.lt;have hnl:=n0.lt;clear z0 n0;refine(HC.out (w.heap.size+1+1) _ (Vr rfl (by simp) (by simp;omega) (HT.out.alloc.alloc) HG.out HF.out)).mono ?_;rintro e w1 h1;rcases h1.cases with⟨x1,u1,v1,r1,rfl,b1,V1⟩|⟨u1,r1,rfl,b1⟩
 · have Z1:=X (bS (w2:=w1) Z.out qe);have N1:=X (bS (w2:=w1) N.out qe);have B1:A (bR (fun k=>k<w.heap.size) w w1):=X qe;have HK:=X r1;obtain⟨c1,rfl,P1,rfl,k1⟩:=V1;have K1:A (iG (fun b=>w.heap.size+1<b) w1 x1 P1):=X (k1.map (ak _) fun b hb hlt=>⟨by
    have hb':_<=b:=hb;simp at hb'
    show w.heap.size+1<b
    omega,rfl⟩)
   dsimp only [dB];clear b1 h1 r1 k1 Z N;have y0:ae _ ⟨_,0,U⟩=ai (.string ⟨#[]⟩):=Z1.out.get rfl;have y1:ae _ ⟨_,1,U⟩=ai (.slice U 0 0):=Z1.out.get rfl;have y2:ae _ ⟨_,2,U⟩=ai (.slice U 0 0):=Z1.out.get rfl;have y3:ae _ ⟨_,3,U⟩=ai (.slice U 0 0):=Z1.out.get rfl;have fz:∀i,ah _ ⟨_,i,U⟩=false:=fun i=>df (i:=i) Z1.out;have q0:ae _ ⟨_,0,U⟩=ai (.int .i64 0):=N1.out.get rfl;have qz:∀i,ah _ ⟨_,i,U⟩=false:=fun i=>df (i:=i) N1.out;go_wp2_with fail;refine leaves_cons (f:=57) (args:=#[.pointer (ai ⟨w.heap.size+1,0,U⟩)]) (by simp) (by simp[go_sem]) ?_;refine(ajE _ _).mono ?_;rintro e u' w'' ⟨rfl,rfl,rfl⟩;have BB:=B1.out;refine⟨_,PY rfl _ _ w.heap.size (w.heap.size+1) 27 (dB x1 P1) (0,0) _ (.int .i64 0) rfl rfl ?_ (GL ?_) Tryz.underlying27 rfl (by kernel_rfl),?_⟩
   · exact bS (lu Z1.out rfl) qe
   · have N4:=fq (i:=0) (v:=.int .i64 0) (bS (w2:=((((w1.setCell ⟨w.heap.size,0,U⟩ (.string x1.nm)).setCell ⟨w.heap.size,1,U⟩ (.slice P1.pap P1.sO P1.sN)).setCell ⟨w.heap.size,2,U⟩ (.slice P1.rH P1.ig P1.qg)).setCell ⟨w.heap.size,3,U⟩ (.slice P1.xm P1.lim P1.yx))) N1.out qe);exact(bS N4 qe).get (r:=0) rfl
   · have q:∀W,bR (fun b=>w.heap.size+1<b) w1 W->iG (fun b=>w.heap.size<=b) W x1 P1:=fun W q=>K1.out.map q.size (fun b hb hlt=>⟨by show w.heap.size<=b;have hb':w.heap.size+1<b:=hb;omega,q.block b hlt hb⟩);exact FO.ok HK.out (oq qe) ⟨_,rfl,P1,rfl,q _ qe⟩
 · have Z1:=X (bS (w2:=w1) Z.out qe);have N1:=X (bS (w2:=w1) N.out qe);have B1:A (bR (fun k=>k<w.heap.size) w w1):=X qe;have HK:=X r1;clear b1 h1 r1 Z N;go_wp2_with fail;refine leaves_cons (f:=57) (args:=#[.pointer (ai ⟨w.heap.size+1,0,U⟩)]) (by simp) (by simp[go_sem]) ?_;refine(ajF _ 0 (hd u1).l [] _ (N1.out.get rfl) (df N1.out)).mono ?_;rintro e u' w'' ⟨rfl,rfl,rfl⟩;refine⟨_,PY rfl _ _ w.heap.size (w.heap.size+1) 27 #[.string ⟨#[]⟩,.slice U 0 0,.slice U 0 0,.slice U 0 0] (0,0) _ (.int .i64 (hd u1).l) rfl rfl ?_ (GL ?_) Tryz.underlying27 rfl (by kernel_rfl),?_⟩
   · exact bS Z1.out qe
   · refine(fq (i:=0) (v:=.int .i64 (hd u1).l) (bS N1.out ?_)).get (r:=0) rfl;exact qe
   · exact FO.no HK.out (oq (by have BB:=B1.out;exact qe))
end Ps
namespace Ps
open Go.RowKit
open Md (Rec fC Rw bT Kind iH)
set_option maxHeartbeats 1000000
def Mv (F:(Nat->Prop)->af->Prop):Prop:=∀{G H:Nat->Prop} {w w2:af},w.heap.size<=w2.heap.size->(∀b,G b->b<w.heap.size->H b/\w2.heap[b]?=w.heap[b]?)->F G w->F H w2
theorem Kr:Mv (fun _ _=>True):=fun _ _ _=>trivial
theorem pY {α:Type} {T:TypeId} {k:Nat} {R:Rec α} {v:aj} {l:List α} (hm:fC R):Mv (fun G w=>bZ T k R G w v l):=fun hs hk h=>h.map hm hs hk
theorem kX {α:Type} {k:Nat} {R:Rec α} {l:List α} {p:Option Addr} {m:Nat} (hm:fC R):Mv (fun G w=>Rw k R G w l p m):=fun hs hk h=>h.map hm hs hk
theorem zA {b:Nat} {T:TypeId} {c:Array aj}:Mv (fun G w=>G b/\bT w b T c):=fun hs hk h=>⟨(hk b h.1 h.2.lt).1,h.2.keep (hk b h.1 h.2.lt).2⟩
theorem GN {F F':(Nat->Prop)->af->Prop} (h:Mv F) (h':Mv F'):Mv (fun G w=>F G w/\F' G w):=fun hs hk g=>⟨h hs hk g.1,h' hs hk g.2⟩
structure g_ (lo b:Nat) (T:TypeId) (c:Array aj) (F:Nat->(Nat->Prop)->af->Prop) (w:af):Prop where
 box:bT w b T c
 zx:lo<=b
 ex:∃oO:Nat->Nat,oO b=0/\∀j,F j (fun k=>lo<=k/\oO k=j/\¬k=b) w
section
variable {lo b:Nat} {T:TypeId} {c:Array aj} {F:Nat->(Nat->Prop)->af->Prop} {w w1 w2:af}
theorem g_.up (h:g_ lo b T c F w) (hm:∀j,Mv (F j)) (hb:Up lo w w1):g_ lo b T c F w1:=by
 obtain⟨oO,h0,hF⟩:=h.ex;exact⟨fA h.box hb h.zx,h.zx,oO,h0,fun j=>hm j hb.size (fun k hk hlt=>⟨hk,hb.block k hlt hk.1⟩) (hF j)⟩
theorem g_.cell (h:g_ lo b T c F w) {i:Nat} {v:aj} (hc:c[i]?=ai v):w.cell? ⟨b,i,U⟩=ai v:=h.box.get hc
theorem g_.tZ (h:g_ lo b T c F w) (i:Nat):w.frozen? ⟨b,i,U⟩=false:=df h.box
theorem g_.set (h:g_ lo b T c F w) (hm:∀j,Mv (F j)) (i:Nat) (v:aj):g_ lo b T (c.setIfInBounds i v) F (w.setCell ⟨b,i,U⟩ v):=by
 obtain⟨oO,h0,hF⟩:=h.ex;have q:bR (fun k=>¬k=b) w (w.setCell ⟨b,i,U⟩ v):=bR.set (bR.refl _ _) (.inr fun e=>e rfl);exact⟨fq h.box,h.zx,oO,h0,fun j=>hm j q.size (fun k hk hlt=>⟨hk,q.block k hlt hk.2.2⟩) (hF j)⟩
theorem g_.put (h:g_ lo b T c F w) (hm:∀j,Mv (F j)) (hb:Up lo w w1) {i:Nat} (hi:0<i) {F2:(Nat->Prop)->af->Prop} (hn:F2 (fun k=>w.heap.size<=k) w1) (hm2:Mv F2):g_ lo b T c (fun j=>if j=i then F2 else F j) w1:=by
 obtain⟨oO,h0,hF⟩:=h.ex;have hlt:=h.box.lt;have hlo:=h.zx;refine⟨fA h.box hb h.zx,h.zx,fun k=>if k<w.heap.size then oO k else i,by simp only[if_pos hlt];exact h0,fun j=>?_⟩;by_cases hj:j=i
 · subst hj;simp only[if_true];exact hm2 (ak _) (fun k hk _=>⟨⟨by have hk':w.heap.size<=k:=hk;omega,by rw[if_neg (by have hk':w.heap.size<=k:=hk;omega)],by have hk':w.heap.size<=k:=hk;omega⟩,rfl⟩) hn
 · simp only[if_neg hj];exact hm j hb.size (fun k hk hl=>⟨⟨hk.1,by rw[if_pos hl];exact hk.2.1,hk.2.2⟩,hb.block k hl hk.1⟩) (hF j)
theorem g_.push {α:Type} {LT T':TypeId} {k:Nat} {R:Rec α} (I:Kind LT T' k) (hR0:fC R) (hs:iH k R) (h:g_ lo b T c F w) (hm:∀j,Mv (F j)) (hb:Up lo w w1) {i:Nat} {v:aj} {l:List α} {y:α} {ce:Array aj} (hi:F i=fun G w=>bZ T' k R G w v l) (hi0:0<i) (hc:c[i]?=ai v) (hy:R (fun k=>w.heap.size<=k) w1 y ce) (hn:l.length<=999999) :
 ∃(v':aj) (w2:af),(Builtin.append_ #[LT,LT] LT #[v,.slice (ai ⟨w1.heap.size,0,U⟩) 1 1]).run ag (w1.alloc (.cells ce T'))=.ok v' w2/\(∃p m,v'=.slice p (l.length+1) m)/\w2.cell? ⟨b,i,U⟩=ai v/\(∀i,w2.frozen? ⟨b,i,U⟩=false)/\g_ lo b T (c.setIfInBounds i v') (fun j=>if j=i then fun G w=>bZ T' k R G w v' (l++[y]) else F j) (w2.setCell ⟨b,i,U⟩ v')/\bR (fun k=>k<lo) w1 (w2.setCell ⟨b,i,U⟩ v'):=by
 obtain⟨oO,h0,hF⟩:=h.ex;have hlt:=h.box.lt;have hlo:=h.zx;have oi:bZ T' k R (fun k=>lo<=k/\oO k=i/\¬k=b) w v l:=by have:=hF i;rw[hi] at this;exact this
 have hown:∀e,v.ownBlock=ai e->e<w.heap.size:=fun e he=>oi.own he;have Ub:∀e,v.ownBlock=ai e->lo<=e/\oO e=i/\¬e=b:=fun e he=>oi.blk e he;have q1:Up lo w (w1.alloc (.cells ce T')):=hb.alloc;have o4:bZ T' k R (fun k=>(lo<=k/\oO k=i/\¬k=b)∨w.heap.size<=k) (w1.alloc (.cells ce T')) v l:=oi.map hR0 q1.size (fun e hg hl=>⟨.inl hg,q1.block e hl hg.1⟩);have hy':R (fun e=>((lo<=e/\oO e=i/\¬e=b)∨w.heap.size<=e)/\¬v.ownBlock=ai e) (w1.alloc (.cells ce T')) y ce:=hR0 (by simp) (fun e he hl=>⟨⟨.inr he,fun h9=>by have:=hown e h9;have he':w.heap.size<=e:=he;omega⟩,by show(w1.heap.push _)[e]?=_;rw[Array.getElem?_push,if_neg (by omega)]⟩) hy;obtain⟨v',w2,hrun,o5,hg5⟩:=o4.app I hR0 hs (bT.new (w:=w1) (t:=T') (c:=ce)).cell hy' (by omega);have hform:∃p m,v'=.slice p (l.length+1) m:=by
  obtain⟨p,m,e,-⟩:=o5.rw hR0 hs (by rw[List.length_append,List.length_singleton];omega);exact⟨p,m,by rw[e,List.length_append,List.length_singleton]⟩
 have qa:bR (fun e=>lo<=e/\¬v.ownBlock=ai e) w w2:=bR.grown (q1.mono fun e _ he=>he.1) hg5 fun e he=>.inr fun h9=>h9.2 he;have qc:bR (fun e=>e<lo) w1 w2:=bR.grown (bR.alloc (bR.refl _ _)) hg5 fun e he=>.inr fun h9=>by have:=(Ub e he).1;have h9':e<lo:=h9;omega
 have hbn:¬v.ownBlock=ai b:=fun e=>(Ub b e).2.2 rfl;have Sw:bT w2 b T c:=fA h.box qa ⟨hlo,hbn⟩;have qb:bR (fun e=>lo<=e/\¬v.ownBlock=ai e/\¬e=b) w (w2.setCell ⟨b,i,U⟩ v'):=bR.set (qa.mono fun e _ he=>⟨he.1,he.2.1⟩) (.inr fun h9=>h9.2.2 rfl);have qd:bR (fun e=>¬e=b) w2 (w2.setCell ⟨b,i,U⟩ v'):=bR.set (bR.refl _ _) (.inr fun h9=>h9 rfl);have hW1:w.heap.size<=(w1.alloc (.cells ce T')).heap.size:=q1.size;refine⟨v',w2,hrun,hform,Sw.get hc,fun j=>df Sw,⟨fq Sw,hlo,fun e=>if e<w.heap.size then oO e else i,by simp only[if_pos hlt];exact h0,fun j=>?_⟩,bR.set qc (.inr fun h9=>by have h9':b<lo:=h9;omega)⟩;by_cases hj:j=i
 · subst hj;simp only[if_true];refine o5.map hR0 qd.size fun e he hl=>?_;have key:lo<=e/\(if e<w.heap.size then oO e else j)=j/\¬e=b:=by
    rcases he with(he|he)|he
    · refine⟨he.1,?_,he.2.2⟩
      split
      · exact he.2.1
      · rfl
    · exact⟨by omega,by rw[if_neg (by omega)],by omega⟩
    · exact⟨by omega,by rw[if_neg (by omega)],by omega⟩
   exact⟨key,qd.block e hl key.2.2⟩
 · simp only[if_neg hj];refine hm j qb.size (fun e he hl=>⟨⟨he.1,by rw[if_pos hl];exact he.2.1,he.2.2⟩,qb.block e hl ⟨he.1,fun h9=>hj (he.2.1.symm.trans (Ub e h9).2.1),he.2.2⟩⟩) (hF j)
theorem g_.new (hbx:bT w b T c) (hlo:lo<=b) (h0:F 0 (fun k=>lo<=k/\¬k=b) w) (hm:Mv (F 0)) (hF:∀j,0<j->∀G,F j G w):g_ lo b T c F w:=
 ⟨hbx, hlo, fun _ => 0, rfl, fun j => by
   by_cases hj:j=0
   · subst hj;exact hm (ak _) (fun k hk _=>⟨⟨hk.1,rfl,hk.2⟩,rfl⟩) h0
   · exact hF j (by omega) _⟩
theorem g_.part (h:g_ lo b T c F w) (hm:∀j,Mv (F j)) (j:Nat):F j (fun k=>lo<=k) w:=by
 obtain⟨oO,h0,hF⟩:=h.ex;exact hm j (ak _) (fun k hk _=>⟨hk.1,rfl⟩) (hF j)
theorem g_.off (h:g_ lo b T c F w) (hm:∀j,Mv (F j)) {z:Nat} (h0:∀G,F 0 G w->G z) {j:Nat} (hj:0<j):F j (fun k=>lo<=k/\¬k=z/\¬k=b) w:=by
 obtain⟨oO,hb0,hF⟩:=h.ex;have hz:=h0 _ (hF 0);exact hm j (ak _) (fun k hk _=>⟨⟨hk.1,fun e=>by have h1:=hz.2.1;have h2:=hk.2.1;rw[e,h1] at h2;omega,hk.2.2⟩,rfl⟩) (hF j)
theorem g_.cast {F2:Nat->(Nat->Prop)->af->Prop} {c2:Array aj} (h:g_ lo b T c F w) (hF:∀j G W,F j G W->F2 j G W) (hc:c=c2):g_ lo b T c2 F2 w:=by
 subst hc;obtain⟨oO,h0,hh⟩:=h.ex;exact⟨h.box,h.zx,oO,h0,fun j=>hF j _ _ (hh j)⟩
end
end Ps
namespace Ps
open Go.RowKit
open Lx (Tk)
open Md (Rw bT fB jP F7 kU)
set_option maxHeartbeats 1000000
theorem gK {F:(Nat->Prop)->af->Prop} (hm:Mv F) {S:Nat->Prop} {w w2:af} (h:F S w) (hb:bR S w w2):F S w2:=hm hb.size (fun b hg hlt=>⟨hg,hb.block b hlt hg⟩) h
section
variable {L:Lk} {g:Nat} {t:List Tk}
theorem BJ {p:Prop} (h:p:=by
 have bU:=HB.out;go_wp2_with fail;exact⟨rfl,PO.no (dJ HS (by assumption)) qe⟩
 ):p:=h
theorem X0 {p:Prop} (h:p:=by first|(left;simp;done)|(left;simp;omega)|(right;simp;done)|(right;simp;omega)):p:=h
set_option maxRecDepth 100000 in
theorem arG (w:af) (hR:Rd L g t w):Calls ag 156 #[.pointer (ai ⟨g,0,U⟩)] w (PO L g (VR kU) (run Fq t) w):=by
 obtain⟨r,hr⟩:∃r,run Fq t=r:=⟨_,rfl⟩
 rw[hr];have HS:=X hr;have hg:=hR.blk;have HR:=X hR;have HB:A (Bt g w w):=X (bR.refl _ _);clear hR hr;have Z:=X (bT.new (w:=w) (t:=122) (c:=#[.string ⟨#[]⟩,.slice U 0 0,.int .i64 0,.int .i64 0,.int .i64 0]));go_enter Tryz.func156,Tryz.ntmps156;go_wp2_with fail;refine(jR _ (HR.out.low qe)).mono ?_;rintro e w1 h1;rcases h1.cases with⟨x1,u1,v1,r1,rfl,b1,V1,R1⟩|⟨u1,r1,rfl,b1⟩
 rotate_left 1
 · exact BJ
 replace HS:=bY HS r1;replace Z:=X (bS (w2:=w1) Z.out qe);replace HB:A (Bt g w w1):=X qh;replace HR:=X R1;clear b1 R1;clear r1 h1;obtain rfl:=V1;have hz1:=Z.out.lt;go_wp2_with fail;refine(an7 185 arg aai _ (HR.out.low qe) (fun _ _=>rfl) (fun W u hW _=>aiL W hW)).mono ?_;rintro e w2 h2;rcases h2.cases with⟨x2,u2,v2,r2,rfl,b2,V2,R2⟩|⟨u2,r2,rfl,b2⟩
 rotate_left 1
 · exact BJ
 replace HS:=bY HS r2;replace Z:=X (bS (w2:=w2) Z.out qe);replace HB:A (Bt g w w2):=X qh;replace HR:=X R2;clear b2 R2;clear r2 h2;obtain⟨p2,m2,c2,rfl,k2⟩:=V2;have hz2:=Z.out.lt;have KA:A (Rw 1 dZ (fun b=>w.heap.size<b/\¬b=w2.heap.size) w2 x2 p2 m2):=X (k2.mono dZ.map fun b hb hlt=>⟨by have hb':w1.heap.size<=b:=hb;omega,by omega⟩);clear k2;have Y:=X (bT.new (w:=w2) (t:=122) (c:=#[.string x1,.slice p2 m2 c2,.int .i64 0,.int .i64 0,.int .i64 0]));go_wp2_with fail;refine(gW _ _ (HR.out.low qe) (by decide)).mono ?_;rintro e w3 h3;rcases h3.cases with⟨x3,u3,v3,r3,rfl,b3,V3,R3⟩|⟨u3,r3,rfl,b3⟩
 rotate_left 1
 · exact BJ
 replace HS:=bY HS r3;replace Z:=X (bS (w2:=w3) Z.out qe);replace Y:=X (bS (w2:=w3) Y.out qe);replace KA:=X (gK (kX dZ.map) (w2:=w3) KA.out qe);replace HB:A (Bt g w w3):=X qh;replace HR:=X R3;clear b3 R3;clear r3 h3;obtain rfl:=V3;have hy3:=Y.out.lt;go_wp2_with fail;refine(mh _ (HR.out.low qe)).mono ?_;rintro e w4 h4;rcases h4.cases with⟨x4,u4,v4,r4,rfl,b4,V4,R4⟩|⟨u4,r4,rfl,b4⟩
 rotate_left 1
 · exact BJ
 replace HS:=bY HS r4;replace Z:=X (bS (w2:=w4) Z.out qe);replace Y:=X (bS (w2:=w4) Y.out qe);replace KA:=X (gK (kX dZ.map) (w2:=w4) KA.out qe);replace HB:A (Bt g w w4):=X qh;replace HR:=X R4;clear b4 R4;clear r4 h4;obtain⟨rfl,n0,n1⟩:=V4;have hy4:=Y.out.lt;have l2:ae _ ⟨_,2,U⟩=ai (.int .i64 0):=Y.out.get rfl;have fy:∀i,ah _ ⟨_,i,U⟩=false:=fun i=>df (i:=i) Y.out;go_wp2_with fail;replace Y:=X (fq (i:=2) (v:=.int .i64 x4) Y.out);replace Z:=X (bS (w2:=au w4 ⟨w2.heap.size,2,U⟩ (.int .i64 x4)) Z.out qe);replace HR:=X (HR.out.low (w2:=au w4 ⟨w2.heap.size,2,U⟩ (.int .i64 x4)) qe);replace HB:=X (bR.set (p:=⟨w2.heap.size,2,U⟩) (v:=.int .i64 x4) HB.out X0);replace KA:=X (gK (kX dZ.map) (w2:=w4.setCell ⟨w2.heap.size,2,U⟩ (.int .i64 x4)) KA.out qe);clear l2 fy;refine(dL ac_ _ (HR.out.low qe) (by decide)).mono ?_;rintro e w5 ⟨b5,⟨i5,rfl,R5⟩|⟨i5,rfl,R5⟩⟩
 · replace HS:=jG (yI HS i5);replace Z:=X (bS (w2:=w5) Z.out qe);replace Y:=X (bS (w2:=w5) Y.out qe);replace KA:=X (gK (kX dZ.map) (w2:=w5) KA.out qe);replace HB:A (Bt g w w5):=X qh;replace HR:=X R5;clear b5 R5;clear i5;have hy5:=Y.out.lt;go_wp2_with fail;refine(mh _ (HR.out.low qe)).mono ?_;rintro e w6 h6;rcases h6.cases with⟨x6,u6,v6,r6,rfl,b6,V6,R6⟩|⟨u6,r6,rfl,b6⟩
   rotate_left 1
   · exact BJ
   replace HS:=bY HS r6;replace Z:=X (bS (w2:=w6) Z.out qe);replace Y:=X (bS (w2:=w6) Y.out qe);replace KA:=X (gK (kX dZ.map) (w2:=w6) KA.out qe);replace HB:A (Bt g w w6):=X qh;replace HR:=X R6;clear b6 R6;clear r6 h6;obtain⟨rfl,n2,n3⟩:=V6;have hy6:=Y.out.lt;replace HS:=jG HS;have l3:ae _ ⟨_,3,U⟩=ai (.int .i64 0):=Y.out.get rfl;have fy:∀i,ah _ ⟨_,i,U⟩=false:=fun i=>df (i:=i) Y.out;go_wp2_with fail;replace Y:=X (fq (i:=3) (v:=.int .i64 x6) Y.out);replace Z:=X (bS (w2:=au w6 ⟨w2.heap.size,3,U⟩ (.int .i64 x6)) Z.out qe);replace HR:=X (HR.out.low (w2:=au w6 ⟨w2.heap.size,3,U⟩ (.int .i64 x6)) qe);replace HB:=X (bR.set (p:=⟨w2.heap.size,3,U⟩) (v:=.int .i64 x6) HB.out X0);replace KA:=X (gK (kX dZ.map) (w2:=w6.setCell ⟨w2.heap.size,3,U⟩ (.int .i64 x6)) KA.out qe);clear l3 fy;refine(gW _ _ (HR.out.low qe) (by decide)).mono ?_;rintro e w7 h7;rcases h7.cases with⟨x7,u7,v7,r7,rfl,b7,V7,R7⟩|⟨u7,r7,rfl,b7⟩
   rotate_left 1
   · exact BJ
   replace HS:=bY HS r7;replace Z:=X (bS (w2:=w7) Z.out qe);replace Y:=X (bS (w2:=w7) Y.out qe);replace KA:=X (gK (kX dZ.map) (w2:=w7) KA.out qe);replace HB:A (Bt g w w7):=X qh;replace HR:=X R7;clear b7 R7;clear r7 h7;obtain rfl:=V7;replace HS:=jG HS;have hy7:=Y.out.lt;go_wp2_with fail;refine(mh _ (HR.out.low qe)).mono ?_;rintro e w8 h8;rcases h8.cases with⟨x8,u8,v8,r8,rfl,b8,V8,R8⟩|⟨u8,r8,rfl,b8⟩
   rotate_left 1
   · exact BJ
   replace HS:=bY HS r8;replace Z:=X (bS (w2:=w8) Z.out qe);replace Y:=X (bS (w2:=w8) Y.out qe);replace KA:=X (gK (kX dZ.map) (w2:=w8) KA.out qe);replace HB:A (Bt g w w8):=X qh;replace HR:=X R8;clear b8 R8;clear r8 h8;obtain⟨rfl,n4,n5⟩:=V8;have hy8:=Y.out.lt;replace HS:=nJ HS;have l4:ae _ ⟨_,4,U⟩=ai (.int .i64 0):=Y.out.get rfl;have fy:∀i,ah _ ⟨_,i,U⟩=false:=fun i=>df (i:=i) Y.out;go_wp2_with fail;replace Y:=X (fq (i:=4) (v:=.int .i64 x8) Y.out);replace Z:=X (bS (w2:=au w8 ⟨w2.heap.size,4,U⟩ (.int .i64 x8)) Z.out qe);replace HR:=X (HR.out.low (w2:=au w8 ⟨w2.heap.size,4,U⟩ (.int .i64 x8)) qe);replace HB:=X (bR.set (p:=⟨w2.heap.size,4,U⟩) (v:=.int .i64 x8) HB.out X0);replace KA:=X (gK (kX dZ.map) (w2:=w8.setCell ⟨w2.heap.size,4,U⟩ (.int .i64 x8)) KA.out qe);clear l4 fy;refine(mg _ (HR.out.low qe)).mono ?_;rintro e w9 h9;rcases h9.cases with⟨x9,u9,v9,r9,rfl,b9,V9,R9⟩|⟨u9,r9,rfl,b9⟩
   rotate_left 1
   · exact BJ
   replace HS:=bY HS r9;replace Z:=X (bS (w2:=w9) Z.out qe);replace Y:=X (bS (w2:=w9) Y.out qe);replace KA:=X (gK (kX dZ.map) (w2:=w9) KA.out qe);replace HB:A (Bt g w w9):=X qh;replace HR:=X R9;clear b9 R9;clear r9 h9;obtain rfl:=V9;replace Y:A (bT w9 w2.heap.size 122 (fB ⟨x1,x2,x4,x6,x8⟩ ⟨p2,m2,c2⟩)):=X Y.out;have q:∀W,bR (fun b=>w.heap.size<b/\¬b=w2.heap.size) w9 W->kU (fun b=>w.heap.size<=b) W ⟨x1,x2,x4,x6,x8⟩ (fB ⟨x1,x2,x4,x6,x8⟩ ⟨p2,m2,c2⟩):=fun W q=>⟨_,rfl,⟨OI ((gK (kX dZ.map) KA.out q).mono dZ.map fun b hb _=>Nat.le_of_lt hb.1)⟩⟩
   obtain⟨W,hP⟩:=gM (c:=fB ⟨x1,x2,x4,x6,x8⟩ ⟨p2,m2,c2⟩) Z.out F7 (jP _ _) rfl;have gY:=hP.bt;have eT:=X hP.box;have gZ:=hP.size;go_wp2_with (first|(refine wpList_load_row rfl 122 _ rfl _ rfl 122 _ (0,0) _ Y.out Tryz.underlying122 rfl (by kernel_rfl) ?_)|(refine gN rfl 122 _ _ rfl w.heap.size _ rfl rfl hP ?_))
   have bU:=HB.out;refine ax (v:=.agg (fB ⟨x1,x2,x4,x6,x8⟩ ⟨p2,m2,c2⟩)) ?_ rfl (PO.ok (dA HS) qe ⟨_,rfl,q _ qe⟩ (HR.out.low qe));exact av rfl _ _ w.heap.size 122 _ (0,0) _ rfl eT.out Tryz.underlying122 rfl (by kernel_rfl)
 · replace HS:=nJ (yH HS i5);replace Z:=X (bS (w2:=w5) Z.out qe);replace Y:=X (bS (w2:=w5) Y.out qe);replace KA:=X (gK (kX dZ.map) (w2:=w5) KA.out qe);replace HB:A (Bt g w w5):=X qh;replace HR:=X R5;clear b5 R5;clear i5;go_wp2_with fail;refine(mg _ (HR.out.low qe)).mono ?_;rintro e w9 h9;rcases h9.cases with⟨x9,u9,v9,r9,rfl,b9,V9,R9⟩|⟨u9,r9,rfl,b9⟩
   rotate_left 1
   · exact BJ
   replace HS:=bY HS r9;replace Z:=X (bS (w2:=w9) Z.out qe);replace Y:=X (bS (w2:=w9) Y.out qe);replace KA:=X (gK (kX dZ.map) (w2:=w9) KA.out qe);replace HB:A (Bt g w w9):=X qh;replace HR:=X R9;clear b9 R9;clear r9 h9;obtain rfl:=V9;replace Y:A (bT w9 w2.heap.size 122 (fB ⟨x1,x2,x4,0,0⟩ ⟨p2,m2,c2⟩)):=X Y.out;have q:∀W,bR (fun b=>w.heap.size<b/\¬b=w2.heap.size) w9 W->kU (fun b=>w.heap.size<=b) W ⟨x1,x2,x4,0,0⟩ (fB ⟨x1,x2,x4,0,0⟩ ⟨p2,m2,c2⟩):=fun W q=>⟨_,rfl,⟨OI ((gK (kX dZ.map) KA.out q).mono dZ.map fun b hb _=>Nat.le_of_lt hb.1)⟩⟩
   obtain⟨W,hP⟩:=gM (c:=fB ⟨x1,x2,x4,0,0⟩ ⟨p2,m2,c2⟩) Z.out F7 (jP _ _) rfl;have gY:=hP.bt;have eT:=X hP.box;have gZ:=hP.size;go_wp2_with (first|(refine wpList_load_row rfl 122 _ rfl _ rfl 122 _ (0,0) _ Y.out Tryz.underlying122 rfl (by kernel_rfl) ?_)|(refine gN rfl 122 _ _ rfl w.heap.size _ rfl rfl hP ?_))
   have bU:=HB.out;refine ax (v:=.agg (fB ⟨x1,x2,x4,0,0⟩ ⟨p2,m2,c2⟩)) ?_ rfl (PO.ok (dA HS) qe ⟨_,rfl,q _ qe⟩ (HR.out.low qe));exact av rfl _ _ w.heap.size 122 _ (0,0) _ rfl eT.out Tryz.underlying122 rfl (by kernel_rfl)
end
end Ps
namespace Ps
open Md
set_option maxHeartbeats 16000000
theorem z8 {p:Prop} (h:p:=by kernel_rfl):p:=h
theorem abJ:Kind 23 93 3:=nC Tryz.underlying23 (z:=.agg #[.string ⟨#[]⟩,.int .i64 0,.int .i64 0]) (b:=32) z8 (by decide) (by decide) (by decide)
theorem P_:iH 3 fV:=by intro G w x c h;exact h.is
theorem amE:Kind 45 111 17:=nC Tryz.underlying45 (z:=.agg #[.string ⟨#[]⟩,.int .i64 0,.slice U 0 0,.int .i64 0,.string ⟨#[]⟩,.int .i64 0,.int .i64 0,.int .i64 0,.int .i64 0,.slice U 0 0,.slice U 0 0,.int .i64 0,.int .i64 0,.int .i64 0,.int .i64 0,.slice U 0 0,.slice U 0 0]) (b:=232) z8 (by decide) (by decide) (by decide)
theorem aeS:iH 17 iV:=by intro G w x c h;exact h.is
theorem amH:Kind 46 114 3:=nC Tryz.underlying46 (z:=.agg #[.string ⟨#[]⟩,.int .i64 0,.int .i64 0]) (b:=32) z8 (by decide) (by decide) (by decide)
theorem aeY:iH 3 jZ:=by intro G w x c h;exact h.is
theorem amB:Kind 47 116 3:=nC Tryz.underlying47 (z:=.agg #[.string ⟨#[]⟩,.int .i64 0,.int .i64 0]) (b:=32) z8 (by decide) (by decide) (by decide)
theorem aeN:iH 3 jY:=by intro G w x c h;exact h.is
theorem amF:Kind 49 119 4:=nC Tryz.underlying49 (z:=.agg #[.string ⟨#[]⟩,.slice U 0 0,.slice U 0 0,.slice U 0 0]) (b:=88) z8 (by decide) (by decide) (by decide)
theorem aeT:iH 4 gT:=by intro G w x c h;exact h.is
theorem amG:Kind 50 122 5:=nC Tryz.underlying50 (z:=.agg #[.string ⟨#[]⟩,.slice U 0 0,.int .i64 0,.int .i64 0,.int .i64 0]) (b:=64) z8 (by decide) (by decide) (by decide)
theorem aeV:iH 5 kU:=by intro G w x c h;exact h.is
theorem gLw:Kind 51 127 3:=nC Tryz.underlying51 (z:=.agg #[.string ⟨#[]⟩,.slice U 0 0,.int .i64 0]) (b:=48) z8 (by decide) (by decide) (by decide)
theorem aeQ:iH 3 kT:=by intro G w x c h;exact h.is
theorem TM:Kind 125 181 3:=nC Tryz.underlying125 (z:=.agg #[.int .i64 0,.string ⟨#[]⟩,.string ⟨#[]⟩]) (b:=40) z8 (by decide) (by decide) (by decide)
theorem amD:Kind 25 73 3:=nC Tryz.underlying25 (z:=.agg #[.string ⟨#[]⟩,.string ⟨#[]⟩,.int .i64 0]) (b:=40) z8 (by decide) (by decide) (by decide)
theorem aeP:iH 3 ng:=by intro G w x c h;exact h.is
theorem amC:Kind 107 177 2:=nC Tryz.underlying107 (z:=.agg #[.int .i64 0,.int .i64 0]) (b:=16) z8 (by decide) (by decide) (by decide)
theorem KJ:iH 2 iU:=by intro G w x c h;exact h.is
theorem aeW:iH 13 gH:=by intro G w x c h;exact h.is
theorem zN:iH 1 dP:=by intro G w x c h;subst h;exact⟨rfl,by simp[Value.oneCell']⟩
end Ps
namespace Ps
open Ps.P (rt bd see exp)
open Go.RowKit
open Lx (Tk)
open Md (bT iH fo Nn M6 kT gU iw jw)
set_option maxHeartbeats 1000000
theorem KO:iH 3 jw:=by intro G w x c h;exact h.is
def O0 (z:Nat) (zc:Array aj) (v:aj) (l:List gU):Nat->(Nat->Prop)->af->Prop
 | 0=>fun G w=>G z/\bT w z 127 zc
 | 1=>fun G w=>bZ 181 3 jw G w v l
 | _+2=>fun _ _=>True
theorem oC (z:Nat) (zc:Array aj) (v:aj) (l:List gU):∀j,Mv (O0 z zc v l j)
 | 0=>zA
 | 1=>pY jw.map
 | _+2=>Kr
theorem UL {z:Nat} {zc:Array aj} {v v':aj} {l l':List gU}:∀j G W,(if j=1 then fun G w=>bZ 181 3 jw G w v' l' else O0 z zc v l j) G W->O0 z zc v' l' j G W
 | 0,G,W,h=>h
 | 1,G,W,h=>h
 | _+2,G,W,h=>trivial
abbrev FQ (w:af) (B:Nat) (nm:ByteArray) (v:aj) (l:List gU) (W:af):Prop:=g_ w.heap.size B 127 #[.string nm,v,.int .i64 0] (O0 w.heap.size #[.string ⟨#[]⟩,.slice U 0 0,.int .i64 0] v l) W
structure YM (L:Lk) (g:Nat) (r:R Md.Lw) (K:List gU->P Md.Lw) (nm:ByteArray) (B N:Nat) (w:af) (k:Nat) (wr:af):Prop where
 ex:∃l u p c,run (bd (CV k l) K) u=r/\u.length<k/\l.length+u.length<=30001/\FQ w B nm (.slice p l.length c) l wr/\Rd L g u wr
 bt:Bt g w wr
section
variable {L:Lk} {g:Nat} {t:List Tk}
theorem QQ {p:Prop} (h:p:=by
 have bU:=HB.out;go_wp2_with fail;exact⟨rfl,PO.no (dJ HS (by assumption)) qe⟩
 ):p:=h
theorem X3 {p:Prop} (h:p:=by have bU:=HB.out;exact bR.call (S:=fun k=>k≠g) (S':=fun k=>k<w.heap.size) (w:=wa) qe q5 (fun k hk _=>hk)):p:=h
set_option maxRecDepth 100000 in
theorem anT (w:af) (hR:Rd L g t w):Calls ag 157 #[.pointer (ai ⟨g,0,U⟩)] w (PO L g (VR kT) (run law t) w):=by
 have ht:=hR.small;obtain⟨r,hr⟩:∃r,run law t=r:=⟨_,rfl⟩
 rw[hr];have HS:=X hr;have hg:=hR.blk;have HR:=X hR;have HB:A (Bt g w w):=X (bR.refl _ _);clear hR hr;have Z:=X (bT.new (w:=w) (t:=127) (c:=#[.string ⟨#[]⟩,.slice U 0 0,.int .i64 0]));go_enter Tryz.func157,Tryz.ntmps157;go_wp2_with fail;refine(jR _ (HR.out.low qe)).mono ?_;rintro e w1 h1;rcases h1.cases with⟨x1,u1,v1,r1,rfl,b1,V1,R1⟩|⟨u1,r1,rfl,b1⟩
 rotate_left 1
 · exact QQ
 replace HS:=bY HS r1;replace Z:=X (bS (w2:=w1) Z.out qe);replace HB:A (Bt g w w1):=X qh;replace HR:=X R1;clear b1 R1;clear r1 h1;obtain rfl:=V1;have hz1:=Z.out.lt;have hd1:A (FQ w w1.heap.size x1 (.slice U 0 0) [] (w1.alloc (.cells #[.string x1,.slice U 0 0,.int .i64 0] 127))):=X (g_.new bT.new (Nat.le_of_lt hz1) ⟨⟨ak _,by omega⟩,bS Z.out qe⟩ zA fun j hj G=>(match j,hj with|1,_=>bZ.nil|n+2,_=>trivial));go_wp2_with fail;refine(gW _ _ (HR.out.low qe) (by decide)).mono ?_;rintro e w2 h2;rcases h2.cases with⟨x2,u2,v2,r2,rfl,b2,V2,R2⟩|⟨u2,r2,rfl,b2⟩
 rotate_left 1
 · exact QQ
 replace HS:=bY HS r2;have HD:=X (hd1.out.up (oC _ _ _ _) (w1:=w2) qe);have mZ:=X (((Dn.exp (by decide):Dn 1 (exp XT)).out HR.out.gd r2));replace HB:A (Bt g w w2):=X qh;replace HR:=X R2;clear b2 R2;clear r2 h2;obtain rfl:=V2;clear hd1;have ltt:=mZ.out.2;have sm2:=HR.out.small;go_wp2_with fail;have lT:A (∀x v,run xE u2=.ok x v->v.length+1<=u2.length):=X fun x v h=>by have:=(Jw.out HR.out.gd h).2;omega
 obtain⟨K,hK⟩:∃K:List gU->P Md.Lw,(fun ts=>bd vz fun n=>bd fU fun _=>rt ⟨x1,ts,n⟩)=K:=⟨_,rfl⟩
 have HK:=X hK;replace HS:A (run (bd (see xK (rt []) (bd xE fun x=>rt [x])) fun l=>bd (CV FU l) K) u2=r):=X (by rw[← hK];exact HS.out);clear hK mZ
 cases i3:is xK u2
 · replace HS:=jG (ary HS i3);refine(qf xK _ (HR.out.low qe)).mono ?_;rintro e w3 ⟨rfl,hb3⟩;have b3:Bt g _ w3:=bR.of hb3;have R3:Rd L g _ w3:=HR.out.low (by have q:Lw g _ w3:=bR.of hb3;exact qe);clear hb3;rw[i3];replace HD:=X (HD.out.up (oC _ _ _ _) (w1:=w3) qe);replace HB:A (Bt g w w3):=X qh;replace HR:=X R3;clear b3 R3;clear i3;have lm:ae w3 ⟨w1.heap.size,1,U⟩=ai (.slice U 0 0):=HD.out.cell rfl;have hy3:=HD.out.box.lt;go_wp2_with fail;go_region_law (first|(rw[if_pos (by rfl)];refine Lib.wp_append_run _ _ _ _ _ rfl _ _ rfl rfl _ _ hrun ?_)|(go_simp;go_at_call 186;refine(WL _ (HR.out.low qe)).mono ?_;rintro e' wa h3;rcases h3.cases with⟨x3,u3,v3,r3,rfl,b3,V3,R3⟩|⟨u3,r3,rfl,b3⟩;rotate_left 1;(have bU:=HB.out;exact⟨rfl,PO.no (dJ HS (by assumption)) qe⟩);obtain rfl:=V3;obtain⟨v5,w5,hrun,⟨p5,n5,rfl⟩,k5,f5,D5,q5⟩:=HD.out.push TM jw.map KO (oC _ _ _ _) (w1:=wa) qe (i:=1) rfl (by decide) rfl (y:=x3) (ce:=iw x3) rfl (by decide);(have nG:ae wa ⟨w1.heap.size,1,U⟩=ai (.slice U 0 0):=(fA HD.out.box (S:=fun k=>k≠g) qe (by omega)).get rfl;have iM:ae (wa.alloc (.cells (iw x3) 181)) ⟨w1.heap.size,1,U⟩=ai (.slice U 0 0):=(fA HD.out.box (S:=fun k=>k≠g) qe (by omega)).get rfl;dsimp only [iw] at hrun iM ⊢)))
   all_goals
    have lt3:=lT.out _ _ r3;replace HS:=nJ (bY HS r3);have HG:=X (R3.low (w2:=w5.setCell ⟨w1.heap.size,1,U⟩ (.slice p5 (1) n5)) (q5.mono fun k _ hk=>by have hk':k<=g:=hk;omega));have v_:A (Bt g w (w5.setCell ⟨w1.heap.size,1,U⟩ (.slice p5 (1) n5))):=X X3;have lh:A (FQ w w1.heap.size x1 (.slice p5 1 n5) [x3] (w5.setCell ⟨w1.heap.size,1,U⟩ (.slice p5 1 n5))):=X (D5.cast UL rfl);clear HR HB HD D5 q5 R3 b3 hrun k5 f5 r3 h3 lm nG iM lT Z;go_wp2_with fail;go_loopg [] FU (YM L g r K x1 w1.heap.size t.length w)
    case atStart=>exact⟨⟨[x3],u3,p5,n5,HS.out,by unfold FU;omega,by simp;omega,lh.out,HG.out⟩,v_.out⟩
    case round=>
     obtain⟨⟨l,u,p,c,hs,hk,hl,hd,hR⟩,hb⟩:=hrel;clear HS HG v_ lh;obtain⟨k,rfl⟩:∃k,gk=k+1:=⟨gk-1,by omega⟩
     rw[CV] at hs;have HL:=X hl;have HKK:=X hk;have lT:A (∀x v,run Dp u=.ok x v->v.length+1<=u.length):=X fun x v h=>(Tf.out hR.gd h).2;have HD:=X hd;have HR:=X hR;have HB:=X hb;have HS:=X hs;have hbl:=hd.box.lt;clear hl hk hd hR hb hs;go_wp2_with fail;refine(dL BK _ (HR.out.low qe) (by decide)).mono ?_;rintro e w8 ⟨b8,⟨i8,rfl,R8⟩|⟨i8,rfl,R8⟩⟩
     · replace HS:=nJ (yI HS i8);replace HS:A (run (bd vz fun n=>bd fU fun _=>rt ⟨x1,l,n⟩) u.tail=r):=X (by have h:=HS.out;rw[← HK.out] at h;exact h);replace HD:=X (HD.out.up (oC _ _ _ _) (w1:=w8) qe);replace HB:A (Bt g w w8):=X qh;replace HR:=X R8;clear b8 R8;clear i8 lT;have sw:=HD.out.box.lt;go_wp2_with fail;refine(OH _ (HR.out.low qe)).mono ?_;rintro e w9 h9;rcases h9.cases with⟨x9,u9,v9,r9,rfl,b9,V9,R9⟩|⟨u9,r9,rfl,b9⟩
       rotate_left 1
       · have bU:=HB.out;go_wp2_with fail;exact⟨rfl,PO.no (dJ HS (by assumption)) qe⟩
       replace HS:=bY HS r9;replace HD:=X (HD.out.up (oC _ _ _ _) (w1:=w9) qe);replace HB:A (Bt g w w9):=X qh;replace HR:=X R9;clear b9 R9;clear r9 h9;obtain rfl:=V9;have Ev:=HD.out.box.lt;have lm:ae w9 ⟨w1.heap.size,2,U⟩=ai (.int .i64 0):=HD.out.cell rfl;have fy:∀i,ah w9 ⟨w1.heap.size,i,U⟩=false:=fun i=>HD.out.tZ i;go_wp2_with fail;have HD2:=X (HD.out.set (oC _ _ _ _) 2 (.int .i64 x9));clear lm fy;refine(mg _ (HR.out.low qe)).mono ?_;rintro e eX h10;rcases h10.cases with⟨Hg,iP,v10,jC,rfl,b10,Al,jK⟩|⟨iP,jC,rfl,b10⟩
       rotate_left 1
       · have bU:=HB.out;go_wp2_with fail;exact⟨rfl,PO.no (dJ HS (by assumption)) qe⟩
       replace HS:=bY HS jC;replace HD2:=X (HD2.out.up (oC _ _ _ _) (w1:=eX) qe);replace HB:A (Bt g w eX):=X qh;replace HR:=X jK;clear b10 jK;clear jC h10;obtain rfl:=Al;have Z0:=HD2.out.part (oC _ _ _ _) 0;have Z:=X Z0.2;have Y:A (bT eX w1.heap.size 127 (fo ⟨x1,l,x9⟩ ⟨p,l.length,c⟩)):=X HD2.out.box;have K1:=HD2.out.off (oC _ _ _ _) (z:=w.heap.size) (fun G h=>h.1) (j:=1) (by decide);obtain⟨p',c',e,hrw⟩:=bZ.rw jw.map KO K1 (by have:=HL.out;omega);obtain⟨rfl,rfl⟩:p=p'/\c=c':=by simpa using e
       have q:∀W,bR (fun k=>w.heap.size<=k/\¬k=w.heap.size/\¬k=w1.heap.size) eX W->kT (fun b=>w.heap.size<=b) W ⟨x1,l,x9⟩ (fo ⟨x1,l,x9⟩ ⟨p,l.length,c⟩):=fun W q=>⟨_,rfl,⟨(gK (kX jw.map) hrw q).mono jw.map fun b hb _=>hb.1⟩⟩
       clear Z0 K1 e hrw HD HD2;obtain⟨W,hP⟩:=gM (c:=fo ⟨x1,l,x9⟩ ⟨p,l.length,c⟩) Z.out M6 (Nn _ _) rfl;have gY:=hP.bt;have eT:=X hP.box;have gZ:=hP.size;go_wp2_with (first|(refine wpList_load_row rfl 127 _ rfl _ rfl 127 _ (0,0) _ Y.out Tryz.underlying127 rfl (by kernel_rfl) ?_)|(refine gN rfl 127 _ _ rfl w.heap.size _ rfl rfl hP ?_))
       have bU:=HB.out;refine ax (v:=.agg (fo ⟨x1,l,x9⟩ ⟨p,l.length,c⟩)) ?_ rfl (PO.ok (dA HS) qe ⟨_,rfl,q _ qe⟩ (HR.out.low qe));exact av rfl _ _ w.heap.size 127 _ (0,0) _ rfl eT.out Tryz.underlying127 rfl (by kernel_rfl)
     · replace HS:=jG (yH HS i8);replace HD:=X (HD.out.up (oC _ _ _ _) (w1:=w8) qe);replace HB:A (Bt g w w8):=X qh;replace HR:=X R8;clear b8 R8;clear i8;have lm:ae w8 ⟨w1.heap.size,1,U⟩=ai (.slice p l.length c):=HD.out.cell rfl;have sw:=HD.out.box.lt;go_wp2_with fail;go_region_law (first|(rw[if_pos (by rfl)];refine Lib.wp_append_run _ _ _ _ _ rfl _ _ rfl rfl _ _ hrun ?_)|(go_simp;go_at_call 187;refine(ae9 _ (HR.out.low qe)).mono ?_;rintro e' wa h3;rcases h3.cases with⟨x3,u3,v3,r3,rfl,b3,V3,R3⟩|⟨u3,r3,rfl,b3⟩;rotate_left 1;(have bU:=HB.out;exact⟨rfl,PO.no (dJ HS (by assumption)) qe⟩);obtain rfl:=V3;obtain⟨v5,w5,hrun,⟨p5,n5,rfl⟩,k5,f5,D5,q5⟩:=HD.out.push TM jw.map KO (oC _ _ _ _) (w1:=wa) qe (i:=1) rfl (by decide) rfl (y:=x3) (ce:=iw x3) rfl (by have:=HL.out;omega);(have nG:ae wa ⟨w1.heap.size,1,U⟩=ai (.slice p l.length c):=(fA HD.out.box (S:=fun k=>k≠g) qe (by omega)).get rfl;have iM:ae (wa.alloc (.cells (iw x3) 181)) ⟨w1.heap.size,1,U⟩=ai (.slice p l.length c):=(fA HD.out.box (S:=fun k=>k≠g) qe (by omega)).get rfl;dsimp only [iw] at hrun iM ⊢)))
       all_goals
        have lt3:=lT.out _ _ r3;replace HS:=bY HS r3;have HG:=X (R3.low (w2:=w5.setCell ⟨w1.heap.size,1,U⟩ (.slice p5 (l.length+1) n5)) (q5.mono fun k _ hk=>by have hk':k<=g:=hk;omega));have v_:A (Bt g w (w5.setCell ⟨w1.heap.size,1,U⟩ (.slice p5 (l.length+1) n5))):=X X3;have e1:(l++[x3]).length=l.length+1:=by simp
        have lh:A (FQ w w1.heap.size x1 (.slice p5 (l++[x3]).length n5) (l++[x3]) (w5.setCell ⟨w1.heap.size,1,U⟩ (.slice p5 (l.length+1) n5))):=X (by rw[e1];exact D5.cast UL rfl);clear HR HB HD D5 q5 R3 b3 hrun k5 f5 r3 h3 lm nG iM lT;go_wp2_with fail;go_roundg k
        case measure=>omega
        case rel=>exact⟨⟨l++[x3],u3,p5,n5,HS.out,by have:=HKK.out;omega,by have:=HL.out;rw[e1];omega,lh.out,HG.out⟩,v_.out⟩
 · replace HS:=nJ (arz HS i3);refine(qf xK _ (HR.out.low qe)).mono ?_;rintro e w3 ⟨rfl,hb3⟩;have b3:Bt g _ w3:=bR.of hb3;have R3:Rd L g _ w3:=HR.out.low (by have q:Lw g _ w3:=bR.of hb3;exact qe);clear hb3;rw[i3];replace HD:=X (HD.out.up (oC _ _ _ _) (w1:=w3) qe);replace HB:A (Bt g w w3):=X qh;replace HR:=X R3;clear b3 R3;have HG:=HR;have v_:=HB;have lh:A (FQ w w1.heap.size x1 (.slice U 0 0) [] w3):=HD;clear i3 HR HB HD lT Z;go_wp2_with fail;go_loopg [] FU (YM L g r K x1 w1.heap.size t.length w)
   case atStart=>exact⟨⟨[],u2,U,0,HS.out,by unfold FU;omega,by simp;omega,lh.out,HG.out⟩,v_.out⟩
   case round=>
    obtain⟨⟨l,u,p,c,hs,hk,hl,hd,hR⟩,hb⟩:=hrel;clear HS HG v_ lh;obtain⟨k,rfl⟩:∃k,gk=k+1:=⟨gk-1,by omega⟩
    rw[CV] at hs;have HL:=X hl;have HKK:=X hk;have lT:A (∀x v,run Dp u=.ok x v->v.length+1<=u.length):=X fun x v h=>(Tf.out hR.gd h).2;have HD:=X hd;have HR:=X hR;have HB:=X hb;have HS:=X hs;have hbl:=hd.box.lt;clear hl hk hd hR hb hs;go_wp2_with fail;refine(dL BK _ (HR.out.low qe) (by decide)).mono ?_;rintro e w8 ⟨b8,⟨i8,rfl,R8⟩|⟨i8,rfl,R8⟩⟩
    · replace HS:=nJ (yI HS i8);replace HS:A (run (bd vz fun n=>bd fU fun _=>rt ⟨x1,l,n⟩) u.tail=r):=X (by have h:=HS.out;rw[← HK.out] at h;exact h);replace HD:=X (HD.out.up (oC _ _ _ _) (w1:=w8) qe);replace HB:A (Bt g w w8):=X qh;replace HR:=X R8;clear b8 R8;clear i8 lT;have sw:=HD.out.box.lt;go_wp2_with fail;refine(OH _ (HR.out.low qe)).mono ?_;rintro e w9 h9;rcases h9.cases with⟨x9,u9,v9,r9,rfl,b9,V9,R9⟩|⟨u9,r9,rfl,b9⟩
      rotate_left 1
      · exact QQ
      replace HS:=bY HS r9;replace HD:=X (HD.out.up (oC _ _ _ _) (w1:=w9) qe);replace HB:A (Bt g w w9):=X qh;replace HR:=X R9;clear b9 R9;clear r9 h9;obtain rfl:=V9;have Ev:=HD.out.box.lt;have lm:ae w9 ⟨w1.heap.size,2,U⟩=ai (.int .i64 0):=HD.out.cell rfl;have fy:∀i,ah w9 ⟨w1.heap.size,i,U⟩=false:=fun i=>HD.out.tZ i;go_wp2_with fail;have HD2:=X (HD.out.set (oC _ _ _ _) 2 (.int .i64 x9));clear lm fy;refine(mg _ (HR.out.low qe)).mono ?_;rintro e eX h10;rcases h10.cases with⟨Hg,iP,v10,jC,rfl,b10,Al,jK⟩|⟨iP,jC,rfl,b10⟩
      rotate_left 1
      · exact QQ
      replace HS:=bY HS jC;replace HD2:=X (HD2.out.up (oC _ _ _ _) (w1:=eX) qe);replace HB:A (Bt g w eX):=X qh;replace HR:=X jK;clear b10 jK;clear jC h10;obtain rfl:=Al;have Z0:=HD2.out.part (oC _ _ _ _) 0;have Z:=X Z0.2;have Y:A (bT eX w1.heap.size 127 (fo ⟨x1,l,x9⟩ ⟨p,l.length,c⟩)):=X HD2.out.box;have K1:=HD2.out.off (oC _ _ _ _) (z:=w.heap.size) (fun G h=>h.1) (j:=1) (by decide);obtain⟨p',c',e,hrw⟩:=bZ.rw jw.map KO K1 (by have:=HL.out;omega);obtain⟨rfl,rfl⟩:p=p'/\c=c':=by simpa using e
      have q:∀W,bR (fun k=>w.heap.size<=k/\¬k=w.heap.size/\¬k=w1.heap.size) eX W->kT (fun b=>w.heap.size<=b) W ⟨x1,l,x9⟩ (fo ⟨x1,l,x9⟩ ⟨p,l.length,c⟩):=fun W q=>⟨_,rfl,⟨(gK (kX jw.map) hrw q).mono jw.map fun b hb _=>hb.1⟩⟩
      clear Z0 K1 e hrw HD HD2;obtain⟨W,hP⟩:=gM (c:=fo ⟨x1,l,x9⟩ ⟨p,l.length,c⟩) Z.out M6 (Nn _ _) rfl;have gY:=hP.bt;have eT:=X hP.box;have gZ:=hP.size;go_wp2_with (first|(refine wpList_load_row rfl 127 _ rfl _ rfl 127 _ (0,0) _ Y.out Tryz.underlying127 rfl (by kernel_rfl) ?_)|(refine gN rfl 127 _ _ rfl w.heap.size _ rfl rfl hP ?_))
      have bU:=HB.out;refine ax (v:=.agg (fo ⟨x1,l,x9⟩ ⟨p,l.length,c⟩)) ?_ rfl (PO.ok (dA HS) qe ⟨_,rfl,q _ qe⟩ (HR.out.low qe));exact av rfl _ _ w.heap.size 127 _ (0,0) _ rfl eT.out Tryz.underlying127 rfl (by kernel_rfl)
    · replace HS:=jG (yH HS i8);replace HD:=X (HD.out.up (oC _ _ _ _) (w1:=w8) qe);replace HB:A (Bt g w w8):=X qh;replace HR:=X R8;clear b8 R8;clear i8;have lm:ae w8 ⟨w1.heap.size,1,U⟩=ai (.slice p l.length c):=HD.out.cell rfl;have sw:=HD.out.box.lt;go_wp2_with fail;go_region_law (first|(rw[if_pos (by rfl)];refine Lib.wp_append_run _ _ _ _ _ rfl _ _ rfl rfl _ _ hrun ?_)|(go_simp;go_at_call 187;refine(ae9 _ (HR.out.low qe)).mono ?_;rintro e' wa h3;rcases h3.cases with⟨x3,u3,v3,r3,rfl,b3,V3,R3⟩|⟨u3,r3,rfl,b3⟩;rotate_left 1;(have bU:=HB.out;exact⟨rfl,PO.no (dJ HS (by assumption)) qe⟩);obtain rfl:=V3;obtain⟨v5,w5,hrun,⟨p5,n5,rfl⟩,k5,f5,D5,q5⟩:=HD.out.push TM jw.map KO (oC _ _ _ _) (w1:=wa) qe (i:=1) rfl (by decide) rfl (y:=x3) (ce:=iw x3) rfl (by have:=HL.out;omega);(have nG:ae wa ⟨w1.heap.size,1,U⟩=ai (.slice p l.length c):=(fA HD.out.box (S:=fun k=>k≠g) qe (by omega)).get rfl;have iM:ae (wa.alloc (.cells (iw x3) 181)) ⟨w1.heap.size,1,U⟩=ai (.slice p l.length c):=(fA HD.out.box (S:=fun k=>k≠g) qe (by omega)).get rfl;dsimp only [iw] at hrun iM ⊢)))
      all_goals
       have lt3:=lT.out _ _ r3;replace HS:=bY HS r3;have HG:=X (R3.low (w2:=w5.setCell ⟨w1.heap.size,1,U⟩ (.slice p5 (l.length+1) n5)) (q5.mono fun k _ hk=>by have hk':k<=g:=hk;omega));have v_:A (Bt g w (w5.setCell ⟨w1.heap.size,1,U⟩ (.slice p5 (l.length+1) n5))):=X X3;have e1:(l++[x3]).length=l.length+1:=by simp
       have lh:A (FQ w w1.heap.size x1 (.slice p5 (l++[x3]).length n5) (l++[x3]) (w5.setCell ⟨w1.heap.size,1,U⟩ (.slice p5 (l.length+1) n5))):=X (by rw[e1];exact D5.cast UL rfl);clear HR HB HD D5 q5 R3 b3 hrun k5 f5 r3 h3 lm nG iM lT;go_wp2_with fail;go_roundg k
       case measure=>omega
       case rel=>exact⟨⟨l++[x3],u3,p5,n5,HS.out,by have:=HKK.out;omega,by have:=HL.out;rw[e1];omega,lh.out,HG.out⟩,v_.out⟩
end
end Ps
namespace Ps
open Ps.P (rt bd exp)
open Go.RowKit
open Lx (Tk)
open Sm (St dE)
open Md (Rw bT eQ fJ j_ F6 gT d_ gI dH ED)
set_option maxHeartbeats 1000000
theorem adY {l:List St} {p:Option Addr} {m:Nat}:Mv (fun G w=>dE G w l p m):=fun hs hk h=>Sm.dE.map hs hk h
def Fa (z:Nat) (zc:Array aj) (ps:List d_) (pp:Option Addr) (pm:Nat) (v:aj) (l:List d_) (bo:List St) (bp:Option Addr) (bm:Nat):Nat->(Nat->Prop)->af->Prop
 | 0=>fun G w=>G z/\bT w z 119 zc
 | 1=>fun G w=>Rw 2 dH G w ps pp pm
 | 2=>fun G w=>bZ 179 2 dH G w v l
 | 3=>fun G w=>dE G w bo bp bm
 | _+4=>fun _ _=>True
section
variable {z:Nat} {zc:Array aj} {ps:List d_} {pp:Option Addr} {pm:Nat} {v v':aj} {l l':List d_} {bo Sq:List St} {bp bp':Option Addr} {bm Ja:Nat}
theorem uo:∀j,Mv (Fa z zc ps pp pm v l bo bp bm j)
 | 0=>zA
 | 1=>kX dH.map
 | 2=>pY dH.map
 | 3=>adY
 | _+4=>Kr
theorem aql:∀j G W,(if j=2 then fun G w=>bZ 179 2 dH G w v' l' else Fa z zc ps pp pm v l bo bp bm j) G W->Fa z zc ps pp pm v' l' bo bp bm j G W
 | 0,_,_,h=>h
 | 1,_,_,h=>h
 | 2,_,_,h=>h
 | 3,_,_,h=>h
 | _+4,_,_,h=>trivial
theorem aqk:∀j G W,(if j=3 then fun G w=>dE G w Sq bp' Ja else Fa z zc ps pp pm v l bo bp bm j) G W->Fa z zc ps pp pm v l Sq bp' Ja j G W
 | 0,_,_,h=>h
 | 1,_,_,h=>h
 | 2,_,_,h=>h
 | 3,_,_,h=>h
 | _+4,_,_,h=>trivial
end
abbrev MU (w:af) (B:Nat) (nm:ByteArray) (ps:List d_) (pp:Option Addr) (pm pc:Nat) (v:aj) (l:List d_) (bo:List St) (bp:Option Addr) (bm bc:Nat) (W:af):Prop:=g_ w.heap.size B 119 #[.string nm,.slice pp pm pc,v,.slice bp bm bc] (Fa w.heap.size #[.string ⟨#[]⟩,.slice U 0 0,.slice U 0 0,.slice U 0 0] ps pp pm v l bo bp bm) W
structure aib (L:Lk) (g:Nat) (r:R eQ) (K:List d_->P eQ) (nm:ByteArray) (ps:List d_) (pp:Option Addr) (pm pc B:Nat) (w:af) (k:Nat) (wr:af):Prop where
 ex:∃l u p c,run (bd (Cz k l) K) u=r/\u.length<k/\l.length+u.length<=30001/\MU w B nm ps pp pm pc (.slice p l.length c) l [] U 0 0 wr/\Rd L g u wr
 bt:Bt g w wr
section
variable {L:Lk} {g:Nat} {t:List Tk}
theorem Ie {p:Prop} (h:p:=by
 have bU:=HB.out;go_wp2_with fail;exact⟨rfl,PO.no (dJ HS (by assumption)) qe⟩
 ):p:=h
set_option maxRecDepth 100000 in
theorem P5 (w:af) (hR:Rd L g t w):Calls ag 155 #[.pointer (ai ⟨g,0,U⟩)] w (PO L g (VR gT) (run E_ t) w):=by
 obtain⟨r,hr⟩:∃r,run E_ t=r:=⟨_,rfl⟩
 rw[hr];have HS:=X hr;have hg:=hR.blk;have HR:=X hR;have HB:A (Bt g w w):=X (bR.refl _ _);clear hR hr;have Z:=X (bT.new (w:=w) (t:=119) (c:=#[.string ⟨#[]⟩,.slice U 0 0,.slice U 0 0,.slice U 0 0]));go_enter Tryz.func155,Tryz.ntmps155;go_wp2_with fail;refine(jR _ (HR.out.low qe)).mono ?_;rintro e w1 h1;rcases h1.cases with⟨x1,u1,v1,r1,rfl,b1,V1,R1⟩|⟨u1,r1,rfl,b1⟩
 rotate_left 1
 · exact Ie
 replace HS:=bY HS r1;replace Z:=X (bS (w2:=w1) Z.out qe);replace HB:A (Bt g w w1):=X qh;replace HR:=X R1;clear b1 R1;clear r1 h1;obtain rfl:=V1;have hz1:=Z.out.lt;go_wp2_with fail;refine(an6 183 zm NV _ (HR.out.low qe) (fun _ _=>rfl) (fun W u hW _=>abk W hW)).mono ?_;rintro e w2 h2;rcases h2.cases with⟨x2,u2,v2,r2,rfl,b2,V2,R2⟩|⟨u2,r2,rfl,b2⟩
 rotate_left 1
 · exact Ie
 replace HS:=bY HS r2;replace Z:=X (bS (w2:=w2) Z.out qe);replace HB:A (Bt g w w2):=X qh;replace HR:=X R2;clear b2 R2;clear r2 h2;obtain⟨p2,m2,c2,rfl,k2⟩:=V2;have hz2:=Z.out.lt;have hd0:g_ w.heap.size w2.heap.size 119 #[.string x1,.slice p2 m2 c2,.slice U 0 0,.slice U 0 0] (Fa w.heap.size #[.string ⟨#[]⟩,.slice U 0 0,.slice U 0 0,.slice U 0 0] [] U 0 (.slice U 0 0) [] [] U 0) (w2.alloc (.cells #[.string x1,.slice p2 m2 c2,.slice U 0 0,.slice U 0 0] 119)):=g_.new bT.new (Nat.le_of_lt hz2) ⟨⟨ak _,by omega⟩,bS Z.out qe⟩ zA fun j hj G=>(match j,hj with|1,_=>Rw.nil|2,_=>bZ.nil|3,_=>Sm.dE.nil|n+4,_=>trivial)
 have hd1:A (MU w w2.heap.size x1 x2 p2 m2 c2 (.slice U 0 0) [] [] U 0 0 (w2.alloc (.cells #[.string x1,.slice p2 m2 c2,.slice U 0 0,.slice U 0 0] 119))):=X ⟨bT.new,Nat.le_of_lt hz2,fun k=>if k<w1.heap.size then 0 else if k=w2.heap.size then 0 else 1,by simp,fun j=>(match j with
  | 0=>⟨⟨ak _,by simp[hz1],by omega⟩,bS Z.out qe⟩
  | 1=>k2.map dH.map (by simp) (fun b hb hlt=>⟨⟨by have hb':w1.heap.size<=b:=hb;omega,by have hb':w1.heap.size<=b:=hb;show(if b<w1.heap.size then 0 else if b=w2.heap.size then 0 else 1)=1;rw[if_neg (by omega),if_neg (by omega)],by omega⟩,by show(w2.heap.push _)[b]?=_;rw[Array.getElem?_push,if_neg (by omega)]⟩)
  | 2=>bZ.nil
  | 3=>Sm.dE.nil
  | n+4=>trivial)⟩
 clear hd0 k2 Z;obtain⟨K,hK⟩:∃K:List d_->P eQ,(fun ls=>bd Bu fun b=>bd (exp qD) fun _=>bd fU fun _=>rt ⟨x1,x2,ls,b⟩)=K:=⟨_,rfl⟩
 have HK:=X hK;replace HS:A (run (bd fU fun _=>bd (Cz FU []) K) u2=r):=X (by rw[← hK];exact HS.out);clear hK;go_wp2_with fail;refine(mg _ (HR.out.low qe)).mono ?_;rintro e w3 h3;rcases h3.cases with⟨x3,u3,v3,r3,rfl,b3,V3,R3⟩|⟨u3,r3,rfl,b3⟩
 rotate_left 1
 · exact Ie
 replace HS:=bY HS r3;have HD:=X (hd1.out.up uo (w1:=w3) qe);replace HB:A (Bt g w w3):=X qh;replace HR:=X R3;clear b3 R3;clear r3 h3;obtain rfl:=V3;have sm3:=HR.out.small;have hb3:=HD.out.box.lt;clear hd1;go_wp2_with fail;go_loopg [] FU (aib L g r K x1 x2 p2 m2 c2 w2.heap.size w)
 case atStart=>exact⟨⟨[],u3,U,0,HS.out,by unfold FU;omega,by simp;omega,HD.out,HR.out⟩,HB.out⟩
 case round=>
  obtain⟨⟨l,u,p,c,hs,hk,hl,hd,hR⟩,hb⟩:=hrel;clear HS HD HR HB;obtain⟨k,rfl⟩:∃k,gk=k+1:=⟨gk-1,by omega⟩
  rw[Cz] at hs;have HL:=X hl;have HKK:=X hk;have lT:A (∀x v,run zm u.tail=.ok x v->is Ux u=true->Gd v/\v.length+1<=u.length):=X fun x v h hi=>by
   obtain⟨h1,h2⟩:=Cw hR.gd (by decide) hi;obtain⟨h3,h4⟩:=NV.out h1 h;exact⟨h3,by omega⟩
  have HD:=X hd;have HR:=X hR;have HB:=X hb;have HS:=X hs;have hbl:=hd.box.lt;clear hl hk hd hR hb hs;go_wp2_with fail;refine(dL Ux _ (HR.out.low qe) (by decide)).mono ?_;rintro e w8 ⟨b8,⟨i8,rfl,R8⟩|⟨i8,rfl,R8⟩⟩
  · have HI:=X i8;replace HS:=jG (yI HS i8);replace HD:=X (HD.out.up (uo) (w1:=w8) qe);replace HB:A (Bt g w w8):=X qh;replace HR:=X R8;clear b8 R8;clear i8;have lm:ae w8 ⟨w2.heap.size,2,U⟩=ai (.slice p l.length c):=HD.out.cell rfl;have sw:=HD.out.box.lt;go_wp2_with fail;go_region_law (first|(rw[if_pos (by rfl)];refine Lib.wp_append_run _ _ _ _ _ rfl _ _ rfl rfl _ _ hrun ?_)|(go_simp;go_at_call 183;refine(abk _ (HR.out.low qe)).mono ?_;rintro e' wa h3;rcases h3.cases with⟨x3,u3,v3,r3,rfl,b3,V3,R3⟩|⟨u3,r3,rfl,b3⟩;rotate_left 1;(have bU:=HB.out;exact⟨rfl,PO.no (dJ HS (by assumption)) qe⟩);obtain rfl:=V3;obtain⟨v5,w5,hrun,⟨p5,n5,rfl⟩,k5,f5,D5,q5⟩:=HD.out.push ED dH.map Bj uo (w1:=wa) qe (i:=2) rfl (by decide) rfl (y:=x3) (ce:=gI x3) rfl (by have:=HL.out;omega);(have nG:ae wa ⟨w2.heap.size,2,U⟩=ai (.slice p l.length c):=(fA HD.out.box (S:=fun k=>k≠g) qe (by omega)).get rfl;have iM:ae (wa.alloc (.cells (gI x3) 179)) ⟨w2.heap.size,2,U⟩=ai (.slice p l.length c):=(fA HD.out.box (S:=fun k=>k≠g) qe (by omega)).get rfl;dsimp only [gI] at hrun iM ⊢)))
    all_goals
     have HT3:=X (lT.out _ _ r3 HI.out);replace HS:=jG (bY HS r3);have HG:=X (R3.low (w2:=w5.setCell ⟨w2.heap.size,2,U⟩ (.slice p5 (l.length+1) n5)) (q5.mono fun k _ hk=>by have hk':k<=g:=hk;omega));have v_:A (Bt g w (w5.setCell ⟨w2.heap.size,2,U⟩ (.slice p5 (l.length+1) n5))):=X (by have bU:=HB.out;exact bR.call (S:=fun k=>k≠g) (S':=fun k=>k<w.heap.size) (w:=wa) qe q5 (fun k hk _=>hk));have e1:(l++[x3]).length=l.length+1:=by simp
     have lh:A (MU w w2.heap.size x1 x2 p2 m2 c2 (.slice p5 (l++[x3]).length n5) (l++[x3]) [] U 0 0 (w5.setCell ⟨w2.heap.size,2,U⟩ (.slice p5 (l.length+1) n5))):=X (by rw[e1];exact D5.cast aql rfl);clear HR HB HD D5 q5 R3 b3 hrun k5 f5 r3 h3 lm nG iM lT HI;have HR:=HG;have HB:=v_;have HD:=lh;clear HG v_ lh;go_wp2_with fail;refine(mg _ (HR.out.low qe)).mono ?_;rintro e w9 h9;rcases h9.cases with⟨x9,u9,v9,r9,rfl,b9,V9,R9⟩|⟨u9,r9,rfl,b9⟩
     rotate_left 1
     · have bU:=HB.out;go_wp2_with fail;exact⟨rfl,PO.no (dJ HS (by assumption)) qe⟩
     replace HS:=bY HS r9;have FN:=X (oP.out HT3.out.1 r9).2;replace HD:=X (HD.out.up (uo) (w1:=w9) qe);replace HB:A (Bt g w w9):=X qh;replace HR:=X R9;clear b9 R9;clear r9 h9;obtain rfl:=V9;go_wp2_with fail;go_roundg k
     case measure=>omega
     case rel=>exact⟨⟨l++[x3],u9,p5,n5,HS.out,by have h1:=HKK.out;have h2:=FN.out;have h3:=HT3.out.2;omega,by have h1:=HL.out;have h2:=FN.out;have h3:=HT3.out.2;rw[e1];omega,HD.out,HR.out⟩,HB.out⟩
  · replace HS:=nJ (yH HS i8);replace HS:A (run (bd Bu fun b=>bd (exp qD) fun _=>bd fU fun _=>rt ⟨x1,x2,l,b⟩) u=r):=X (by have h:=HS.out;rw[← HK.out] at h;exact h);replace HD:=X (HD.out.up (uo) (w1:=w8) qe);replace HB:A (Bt g w w8):=X qh;replace HR:=X R8;clear b8 R8;clear i8 lT;have sw:=HD.out.box.lt;go_wp2_with fail;refine(afq _ (HR.out.low qe)).mono ?_;rintro e w9 h9;rcases h9.cases with⟨x9,u9,v9,r9,rfl,b9,V9,R9⟩|⟨u9,r9,rfl,b9⟩
    rotate_left 1
    · exact Ie
    replace HS:=bY HS r9;obtain⟨p9,m9,c9,rfl,k9⟩:=V9;have yX:A (MU w w2.heap.size x1 x2 p2 m2 c2 (.slice p l.length c) l x9 p9 m9 c9 (w9.setCell ⟨w2.heap.size,3,U⟩ (.slice p9 m9 c9))):=X (((HD.out.put uo (w1:=w9) qe (i:=3) (by decide) (F2:=fun G w=>dE G w x9 p9 m9) k9 adY).cast aqk rfl).set uo 3 (.slice p9 m9 c9));replace HD:=X (HD.out.up uo (w1:=w9) qe);replace HB:A (Bt g w w9):=X qh;replace HR:=X R9;clear b9 R9;clear k9 h9 r9;have lm:ae w9 ⟨w2.heap.size,3,U⟩=ai (.slice U 0 0):=HD.out.cell rfl;have fy:∀i,ah w9 ⟨w2.heap.size,i,U⟩=false:=fun i=>HD.out.tZ i;have Ev:=HD.out.box.lt;go_wp2_with fail;clear lm fy;refine(gW _ _ (HR.out.low qe) (by decide)).mono ?_;rintro e eX h10;rcases h10.cases with⟨Hg,iP,v10,jC,rfl,b10,Al,jK⟩|⟨iP,jC,rfl,b10⟩
    rotate_left 1
    · exact Ie
    replace HS:=bY HS jC;replace yX:=X (yX.out.up uo (w1:=eX) qe);replace HB:A (Bt g w eX):=X qh;replace HR:=X jK;clear b10 jK;clear jC h10;obtain rfl:=Al;go_wp2_with fail;refine(mg _ (HR.out.low qe)).mono ?_;rintro e iC h11;rcases h11.cases with⟨Xu,jU,v11,rF,rfl,b11,RL,lW⟩|⟨jU,rF,rfl,b11⟩
    rotate_left 1
    · exact Ie
    replace HS:=bY HS rF;replace yX:=X (yX.out.up uo (w1:=iC) qe);replace HB:A (Bt g w iC):=X qh;replace HR:=X lW;clear b11 lW;clear rF h11;obtain rfl:=RL;have Z0:=yX.out.part uo 0;have Z:=X Z0.2;have Y:A (bT iC w2.heap.size 119 (fJ ⟨x1,x2,l,x9⟩ ⟨p2,m2,c2,p,l.length,c,p9,m9,c9⟩)):=X yX.out.box;have K1:=yX.out.off uo (z:=w.heap.size) (fun G h=>h.1) (j:=1) (by decide);have K2:=yX.out.off uo (z:=w.heap.size) (fun G h=>h.1) (j:=2) (by decide);have K3:=yX.out.off uo (z:=w.heap.size) (fun G h=>h.1) (j:=3) (by decide);obtain⟨p',c',e,hrw⟩:=bZ.rw dH.map Bj K2 (by have:=HL.out;omega);obtain⟨rfl,rfl⟩:p=p'/\c=c':=by simpa using e
    have q:∀W,bR (fun k=>w.heap.size<=k/\¬k=w.heap.size/\¬k=w2.heap.size) iC W->gT (fun b=>w.heap.size<=b) W ⟨x1,x2,l,x9⟩ (fJ ⟨x1,x2,l,x9⟩ ⟨p2,m2,c2,p,l.length,c,p9,m9,c9⟩):=fun W q=>⟨_,rfl,⟨(gK (kX dH.map) K1 q).mono dH.map fun b hb _=>hb.1,(gK (kX dH.map) hrw q).mono dH.map fun b hb _=>hb.1,(Kl K3 q).mono fun b hb _=>hb.1⟩⟩
    clear Z0 K1 K2 K3 e hrw HD yX;obtain⟨W,hP⟩:=gM (c:=fJ ⟨x1,x2,l,x9⟩ ⟨p2,m2,c2,p,l.length,c,p9,m9,c9⟩) Z.out F6 (j_ _ _) rfl;have gY:=hP.bt;have eT:=X hP.box;have gZ:=hP.size;go_wp2_with (first|(refine wpList_load_row rfl 119 _ rfl _ rfl 119 _ (0,0) _ Y.out Tryz.underlying119 rfl (by kernel_rfl) ?_)|(refine gN rfl 119 _ _ rfl w.heap.size _ rfl rfl hP ?_))
    have bU:=HB.out;refine ax (v:=.agg (fJ ⟨x1,x2,l,x9⟩ ⟨p2,m2,c2,p,l.length,c,p9,m9,c9⟩)) ?_ rfl (PO.ok (dA HS) qe ⟨_,rfl,q _ qe⟩ (HR.out.low qe));exact av rfl _ _ w.heap.size 119 _ (0,0) _ rfl eT.out Tryz.underlying119 rfl (by kernel_rfl)
end
end Ps
end Go.Proofs.YtbgodajefaahdaaGreatDoor
