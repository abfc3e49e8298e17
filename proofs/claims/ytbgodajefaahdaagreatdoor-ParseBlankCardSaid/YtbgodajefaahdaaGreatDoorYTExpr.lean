/-
  Parts of this proof: The contract of Expr.
-/
import Derived.Test.YtbgodajefaahdaaGreatDoorYTSzS
import Derived.Test.YtbgodajefaahdaaGreatDoorYECheckN
open Go.World renaming cell?->ae,frozen?->ag
open Option renaming none->U,some->af
open Go renaming bodyPost_ret->ah
open Go.Lib renaming hid->ai
set_option linter.unusedVariables false
open Go.Lib (hid)
namespace Go.Proofs.YtbgodajefaahdaaGreatDoor
namespace Ps
open Go.RowKit
open Lx (Tk bs mt BX eP mW fI EN He)
open Ex (Ex In bW iy)
open Md (bT)
set_option maxHeartbeats 600000
def nX:Ex:=.mk 0 mt 0 []
def qE (s:List UInt8):Ex×Int×Int:=
 if fI s=0 then (match run Bb (eP s) with
  | .ok x _=>if iy false x=0 then (x,0,0) else (nX,0,iy false x)
  | .no u=>(nX,(hd u).l,9))
 else (nX,mW s,fI s)
def XO (q:Ex×Int×Int) (w:World) (e:Ending) (w':World):Prop:=Below w.heap.size w w'/\∃p m c,e=.returned (.tuple #[.agg (cu q.1 p m c),.int .i64 q.2.1,.int .i64 q.2.2])/\bW (fun b=>w.heap.size<=b) w' q.1 p m
theorem apS {s:List UInt8} (h:¬fI s=0):qE s=(nX,(mW s:Int),fI s):=by unfold qE;rw[if_neg h]
theorem apT {s:List UInt8} {u:List Tk} (h:fI s=0) (hr:run Bb (eP s)=.no u):qE s=(nX,(hd u).l,9):=by unfold qE;rw[if_pos h,hr]
theorem apR {s:List UInt8} {x:Ex} {u:List Tk} (h:fI s=0) (hr:run Bb (eP s)=.ok x u) (hc:¬iy false x=0):qE s=(nX,0,iy false x):=by unfold qE;rw[if_pos h,hr];simp only[if_neg hc]
theorem apU {s:List UInt8} {x:Ex} {u:List Tk} (h:fI s=0) (hr:run Bb (eP s)=.ok x u) (hc:iy false x=0):qE s=(x,0,0):=by unfold qE;rw[if_pos h,hr];simp only[if_pos hc]
theorem XO.mk {q:Ex×Int×Int} {w w':World} {x:Ex} {p:Option Addr} {m c:Nat} {a b:Int} (hq:q=(x,a,b)) (hb:Below w.heap.size w w') (hk:bW (fun b=>w.heap.size<=b) w' x p m):XO q w (.returned (.tuple #[.agg (cu x p m c),.int .i64 a,.int .i64 b])) w':=by subst hq;exact⟨hb,p,m,c,rfl,hk⟩
theorem Q0 {p:Prop} (h:p:=by
 exact aeE rfl _ _ w.heap.size 41 _ (0,0) _ rfl (lu Z.out rfl) Tryz.underlying41 rfl (by kernel_rfl) rfl rfl
 ):p:=h
theorem agO {p:Prop} (h:p:=by have bU:=HB.out;have q1:=hb2;have q:bR (fun k=>k<w.heap.size) _ w2:=bR.of q1;exact qe):p:=h
theorem agP {p:Prop} (h:p:=by have q1:=hb2;have q:bR (fun k=>k=w.heap.size+1) _ w2:=bR.of q1;exact qe):p:=h
theorem agQ {p:Prop} (h:p:=by have q1:=hb2;have q:bR (fun k=>k=w.heap.size) _ w2:=bR.of q1;exact qe):p:=h
theorem agR {p:Prop} (h:p:=by have q1:=hb;have q:bR (fun k=>k=w.heap.size) _ w1:=bR.of q1;exact qe):p:=h
theorem agS {p:Prop} (h:p:=by have q1:=hb;have q:bR (fun k=>k<w.heap.size) _ w1:=bR.of q1;exact qe):p:=h
set_option maxRecDepth 100000 in
theorem ap6 (s:ByteArray) (w:World) (hs:s.size<=9223372036854775807) (hE:Nu.Env w):Calls Tryz.prog 23 #[.string s,.func (.func 24) #[] #[],.func (.func 25) #[] #[]] w (XO (qE (bs s)) w):=by
 have HE:Hid (∀W,Below w.heap.size w W->Calls Tryz.prog 27 #[.string s] W (BX W (eP (bs s)) (mW (bs s)) (fI (bs s)))):=ai fun W hW=>He s W hs (hE.below hW);clear hE hs;have Z:=ai (bT.new (w:=w) (t:=41) (c:=#[.int .i64 0,.string ⟨#[]⟩,.int .i64 0,.slice U 0 0]));have n0:bT ((w.alloc (.cells #[.int .i64 0,.string ⟨#[]⟩,.int .i64 0,.slice U 0 0] 41)).alloc (.cells #[.int .i64 0,.string ⟨#[]⟩,.int .i64 0,.slice U 0 0] 41)) (w.heap.size+1) 41 #[.int .i64 0,.string ⟨#[]⟩,.int .i64 0,.slice U 0 0]:=by
  have h:=bT.new (w:=w.alloc (.cells #[.int .i64 0,.string ⟨#[]⟩,.int .i64 0,.slice U 0 0] 41)) (t:=41) (c:=#[.int .i64 0,.string ⟨#[]⟩,.int .i64 0,.slice U 0 0]);rwa [show(w.alloc (.cells #[.int .i64 0,.string ⟨#[]⟩,.int .i64 0,.slice U 0 0] 41)).heap.size=w.heap.size+1 by simp] at h
 have N:=ai n0;clear n0;obtain⟨E,yf⟩:∃E,fI (bs s)=E:=⟨_,rfl⟩
 obtain⟨q,hq⟩:∃q,qE (bs s)=q:=⟨_,rfl⟩
 rw[yf] at HE;rw[hq];have jr:=ai yf;have HQ:=ai hq;clear yf hq;go_enter Tryz.func23,Tryz.ntmps23;go_wp2_with fail;refine(HE.out _ bl).mono ?_;rintro e w1 ⟨v1,rfl,ho,hb⟩;clear HE;replace Z:=ai (bS (w2:=w1) Z.out agR);replace N:=ai (bS (w2:=w1) N.out (by have q1:=hb;have q:bR (fun k=>k=w.heap.size+1) _ w1:=bR.of q1;exact qe));have HB:Hid (bR (fun k=>k<w.heap.size) w w1):=ai agS;have HO:=ai ho;have hz:=Z.out.lt;have hn:=N.out.lt;clear hb ho;by_cases h0:E=0
 · have b0:(E != 0)=false:=by simp[h0]
   subst h0;obtain⟨hgd,nu⟩:=Az jr.out;obtain⟨p,c,rfl,ht,hc,hp⟩:=EN HO.out;have hne:=hgd.ne;obtain⟨g,rfl,hg⟩:∃g,p=af ⟨g,0,U⟩/\w.heap.size<=g:=by
    rcases hp with⟨-,h⟩|⟨g,h,h2⟩
    · omega
    · exact⟨g,h,by simp at h2;omega⟩
   have HT:=ai ht;have HG:=ai hgd;have HF:=ai nu;clear ht hgd nu hc hp hg hne HO;go_wp2_with fail;refine(ams 24 Bb ⟨g,0,(eP (bs s)).length,c,eP (bs s)⟩ w1 (fun _ _=>rfl) HT.out HG.out HF.out (fun g W hR=>ao7 W hR)).mono ?_;rintro e w2 h2;obtain⟨hb2,⟨x2,u2,v2,r2,rfl,V2⟩|⟨u2,r2,rfl⟩⟩:=h2.cases
   · obtain⟨p2,m2,c2,rfl,k2⟩:=V2;obtain⟨hcnt,hsz⟩:=ao0 HG.out HF.out r2;have HX:Hid ((iy false x2=0->q=(x2,0,0))/\(¬iy false x2=0->q=(nX,0,iy false x2))):=ai ⟨fun h=>HQ.out.symm.trans (apU jr.out r2 h),fun h=>HQ.out.symm.trans (apR jr.out r2 h)⟩;have HC:=ai (fun W (hI:In W x2 p2 m2)=>Ex.pO x2 p2 m2 c2 W hI hsz (by omega));replace Z:=ai (bS (w2:=w2) Z.out agQ);replace N:=ai (bS (w2:=w2) N.out agP);replace HB:Hid (bR (fun k=>k<w.heap.size) w w2):=ai agO;have KX:Hid (bW (fun b=>w.heap.size+1<b) w2 x2 p2 m2):=ai (k2.mono fun b hb hlt=>by
      have hb':w1.heap.size<=b:=hb;omega)
     have Y:=ai (bT.new (w:=w2) (t:=41) (c:=cu x2 p2 m2 c2));have hs2:w1.heap.size<=w2.heap.size:=hb2.size;clear h2 r2 hb2 hcnt hsz k2 HQ jr HT HG HF;obtain⟨V,hV⟩:∃V,iy false x2=V:=⟨_,rfl⟩
     rw[hV] at HX HC;clear hV;dsimp only [cu] at Y ⊢;have l0:ae _ ⟨_,0,U⟩=af (.int .i64 x2.o):=Y.out.get rfl;have l1:ae _ ⟨_,1,U⟩=af (.string x2.s):=Y.out.get rfl;have l2:ae _ ⟨_,2,U⟩=af (.int .i64 x2.n):=Y.out.get rfl;have l3:ae _ ⟨_,3,U⟩=af (.slice p2 m2 c2):=Y.out.get rfl;go_wp2_with fail;refine(HC.out _ (bW.all (Ex.bW.map (G:=fun b=>w.heap.size+1<b) (w:=w2) (by simp) (fun b hb hlt=>⟨hb,by show(w2.heap.push _)[b]?=_;rw[Array.getElem?_push,if_neg (by omega)]⟩) _ KX.out))).mono ?_;rintro e w3 ⟨rfl,hb3⟩;clear l0 l1 l2 l3 HC;replace Z:=ai (bS (w2:=w3) Z.out (by have q1:=hb3;have q:bR (fun k=>k=w.heap.size) _ w3:=bR.of q1;exact qe));replace N:=ai (bS (w2:=w3) N.out (by have q1:=hb3;have q:bR (fun k=>k=w.heap.size+1) _ w3:=bR.of q1;exact qe));replace HB:Hid (bR (fun k=>k<w.heap.size) w w3):=ai (by have bU:=HB.out;have q1:=hb3;have q:bR (fun k=>k<w.heap.size) _ w3:=bR.of q1;exact qe);replace Y:=ai (bS (w2:=w3) Y.out (by have q1:=hb3;have q:bR (fun k=>k=w2.heap.size) _ w3:=bR.of q1;exact qe));have KK:Hid (bW (fun b=>w.heap.size+1<b) w3 x2 p2 m2):=ai (by
      have q1:=hb3;have q:bR (fun b=>w.heap.size+1<b) w2 w3:=by
       have q2:bR (fun b=>w.heap.size+1<b) _ w3:=bR.of q1;exact qe
      exact Ex.bW.map q.size (fun b hb hlt=>⟨hb,q.block b hlt hb⟩) _ KX.out)
     have hs3:=Y.out.lt;clear hb3 KX;by_cases h1:V=0
     · have b1:(V != 0)=false:=by simp[h1]
       have hx:=ai (HX.out.1 h1);clear h1 HX;have l0:ae _ ⟨_,0,U⟩=af (.int .i64 x2.o):=Y.out.get rfl;have l1:ae _ ⟨_,1,U⟩=af (.string x2.s):=Y.out.get rfl;have l2:ae _ ⟨_,2,U⟩=af (.int .i64 x2.n):=Y.out.get rfl;have l3:ae _ ⟨_,3,U⟩=af (.slice p2 m2 c2):=Y.out.get rfl;have y0:ae _ ⟨_,0,U⟩=af (.int .i64 0):=Z.out.get rfl;have y1:ae _ ⟨_,1,U⟩=af (.string ⟨#[]⟩):=Z.out.get rfl;have y2:ae _ ⟨_,2,U⟩=af (.int .i64 0):=Z.out.get rfl;have y3:ae _ ⟨_,3,U⟩=af (.slice U 0 0):=Z.out.get rfl;have fz:∀i,ag _ ⟨_,i,U⟩=false:=fun i=>df (i:=i) Z.out;go_wp2_with fail;have q:∀W,bR (fun b=>w.heap.size+1<b) w3 W->bW (fun b=>w.heap.size<=b) W x2 p2 m2:=fun W q=>Ex.bW.map q.size (fun b hb hlt=>⟨by show w.heap.size<=b;have hb':w.heap.size+1<b:=hb;omega,q.block b hlt hb⟩) _ KK.out;refine ah (v:=.tuple #[.agg (cu x2 p2 m2 c2),.int .i64 0,.int .i64 0]) ?_ rfl (XO.mk hx.out (oq qh) (q _ qe));exact Q0
     · have b1:(V != 0)=true:=by simp[h1]
       have hx:=ai (HX.out.2 h1);clear h1 HX;have l0:ae _ ⟨_,0,U⟩=af (.int .i64 0):=N.out.get rfl;have l1:ae _ ⟨_,1,U⟩=af (.string ⟨#[]⟩):=N.out.get rfl;have l2:ae _ ⟨_,2,U⟩=af (.int .i64 0):=N.out.get rfl;have l3:ae _ ⟨_,3,U⟩=af (.slice U 0 0):=N.out.get rfl;have y0:ae _ ⟨_,0,U⟩=af (.int .i64 0):=Z.out.get rfl;have y1:ae _ ⟨_,1,U⟩=af (.string ⟨#[]⟩):=Z.out.get rfl;have y2:ae _ ⟨_,2,U⟩=af (.int .i64 0):=Z.out.get rfl;have y3:ae _ ⟨_,3,U⟩=af (.slice U 0 0):=Z.out.get rfl;have fz:∀i,ag _ ⟨_,i,U⟩=false:=fun i=>df (i:=i) Z.out;go_wp2_with fail;refine ah (v:=.tuple #[.agg (cu nX U 0 0),.int .i64 0,.int .i64 V]) ?_ rfl (XO.mk hx.out (oq qh) (Ex.bW.zero));exact Q0
   · have HX:=ai (HQ.out.symm.trans (apT jr.out r2));replace Z:=ai (bS (w2:=w2) Z.out agQ);replace N:=ai (bS (w2:=w2) N.out agP);replace HB:Hid (bR (fun k=>k<w.heap.size) w w2):=ai agO;clear h2 r2 hb2 HQ jr HT HG HF;replace Z:=ai (bS (w2:=w2.alloc (.cells #[.int .i64 0,.string ⟨#[]⟩,.int .i64 0,.slice U 0 0] 41)) Z.out qe);replace N:=ai (bS (w2:=w2.alloc (.cells #[.int .i64 0,.string ⟨#[]⟩,.int .i64 0,.slice U 0 0] 41)) N.out qe);have l0:ae _ ⟨_,0,U⟩=af (.int .i64 0):=N.out.get rfl;have l1:ae _ ⟨_,1,U⟩=af (.string ⟨#[]⟩):=N.out.get rfl;have l2:ae _ ⟨_,2,U⟩=af (.int .i64 0):=N.out.get rfl;have l3:ae _ ⟨_,3,U⟩=af (.slice U 0 0):=N.out.get rfl;have y0:ae _ ⟨_,0,U⟩=af (.int .i64 0):=Z.out.get rfl;have y1:ae _ ⟨_,1,U⟩=af (.string ⟨#[]⟩):=Z.out.get rfl;have y2:ae _ ⟨_,2,U⟩=af (.int .i64 0):=Z.out.get rfl;have y3:ae _ ⟨_,3,U⟩=af (.slice U 0 0):=Z.out.get rfl;have fz:∀i,ag _ ⟨_,i,U⟩=false:=fun i=>df (i:=i) Z.out;go_wp2_with fail;refine ah (v:=.tuple #[.agg (cu nX U 0 0),.int .i64 (hd u2).l,.int .i64 9]) ?_ rfl (XO.mk HX.out (oq qh) (Ex.bW.zero));exact Q0
 · have b0:(E != 0)=true:=by simp[h0]
   have HX:=ai (HQ.out.symm.trans (apS (by rw[jr.out];exact h0)));clear h0 HO;have l0:ae _ ⟨_,0,U⟩=af (.int .i64 0):=N.out.get rfl;have l1:ae _ ⟨_,1,U⟩=af (.string ⟨#[]⟩):=N.out.get rfl;have l2:ae _ ⟨_,2,U⟩=af (.int .i64 0):=N.out.get rfl;have l3:ae _ ⟨_,3,U⟩=af (.slice U 0 0):=N.out.get rfl;have y0:ae _ ⟨_,0,U⟩=af (.int .i64 0):=Z.out.get rfl;have y1:ae _ ⟨_,1,U⟩=af (.string ⟨#[]⟩):=Z.out.get rfl;have y2:ae _ ⟨_,2,U⟩=af (.int .i64 0):=Z.out.get rfl;have y3:ae _ ⟨_,3,U⟩=af (.slice U 0 0):=Z.out.get rfl;have fz:∀i,ag _ ⟨_,i,U⟩=false:=fun i=>df (i:=i) Z.out;go_wp2_with fail;refine ah (v:=.tuple #[.agg (cu nX U 0 0),.int .i64 (mW (bs s):Int),.int .i64 E]) ?_ rfl (XO.mk (by rw[HX.out,jr.out]) (oq qh) (Ex.bW.zero));exact Q0
def EO (q:Ex×Int×Int) (w:World) (e:Ending) (w':World):Prop:=Below w.heap.size w w'/\∃p m c,e=.returned (.tuple #[.agg (cu q.1 p m c),.int .i64 q.2.2])/\bW (fun b=>w.heap.size<=b) w' q.1 p m
set_option maxRecDepth 100000 in
theorem al2 (s:ByteArray) (w:World) (hs:s.size<=9223372036854775807) (hE:Nu.Env w):Calls Tryz.prog 11 #[.string s] w (EO (qE (bs s)) w):=by
 have HC:=ai (fun W (hW:Nu.Env W)=>ap6 s W hs hW);have Z:=ai (bT.new (w:=w) (t:=41) (c:=#[.int .i64 0,.string ⟨#[]⟩,.int .i64 0,.slice U 0 0]));have HE:=ai hE;obtain⟨⟨x,a,b⟩,hq⟩:∃q,qE (bs s)=q:=⟨_,rfl⟩
 rw[hq] at HC ⊢;clear hE hs hq;go_enter Tryz.func11,Tryz.ntmps11;go_wp2_with fail;refine(HC.out _ (HE.out.below bl)).mono ?_;rintro e w1 ⟨hb,p,m,c,rfl,hk⟩;replace Z:=ai (bS (w2:=w1) Z.out agR);have HB:Hid (bR (fun k=>k<w.heap.size) w w1):=ai agS;have hz:w.heap.size<w1.heap.size:=by have h:=hb.size;simp at h;omega
 have KX:Hid (bW (fun b=>w.heap.size<b) w1 x p m):=ai (hk.mono fun b hb hlt=>by
  have hb':_<=b:=hb;simp at hb'
  omega)
 have Y:=ai (bT.new (w:=w1) (t:=41) (c:=cu x p m c));clear hb hk HC;dsimp only [cu] at Y ⊢;have l0:ae _ ⟨_,0,U⟩=af (.int .i64 x.o):=Y.out.get rfl;have l1:ae _ ⟨_,1,U⟩=af (.string x.s):=Y.out.get rfl;have l2:ae _ ⟨_,2,U⟩=af (.int .i64 x.n):=Y.out.get rfl;have l3:ae _ ⟨_,3,U⟩=af (.slice p m c):=Y.out.get rfl;have y0:ae _ ⟨_,0,U⟩=af (.int .i64 0):=Z.out.get rfl;have y1:ae _ ⟨_,1,U⟩=af (.string ⟨#[]⟩):=Z.out.get rfl;have y2:ae _ ⟨_,2,U⟩=af (.int .i64 0):=Z.out.get rfl;have y3:ae _ ⟨_,3,U⟩=af (.slice U 0 0):=Z.out.get rfl;have fz:∀i,ag _ ⟨_,i,U⟩=false:=fun i=>df (i:=i) Z.out;go_wp2_with fail;have q:∀W,bR (fun b=>w.heap.size<b) w1 W->bW (fun b=>w.heap.size<=b) W x p m:=fun W q=>Ex.bW.map q.size (fun b hb hlt=>⟨by show w.heap.size<=b;have hb':w.heap.size<b:=hb;omega,q.block b hlt hb⟩) _ KX.out;refine ah (v:=.tuple #[.agg (cu x p m c),.int .i64 b]) ?_ rfl ⟨oq qh,p,m,c,rfl,q _ qe⟩;have Z4:bT _ w.heap.size 41 #[.int .i64 x.o,.string x.s,.int .i64 x.n,.slice p m c]:=lu Z.out rfl;exact ap7 rfl _ _ w.heap.size 41 _ (0,0) _ rfl (bS (w2:=World.alloc _ (.cells #[.int .i64 x.o,.string x.s,.int .i64 x.n,.slice p m c] 41)) Z4 qe) Tryz.underlying41 rfl (by kernel_rfl) rfl
end Ps
end Go.Proofs.YtbgodajefaahdaaGreatDoor
