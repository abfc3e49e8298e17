/-
  Parts of this proof: The contract of Stmts. The contract of Expr. The chapter's examples, as the reader's mathemat. The contracts of the reference's Same and SameAl. The contracts of the reference's Same and sameEx. The contract of the reference's Same.
-/
import Derived.Test.YtkpekhpgdajabaaGreatDoorYTSit
open Go.Proofs.Tryz
open Go.Proofs.Tryz renaming prog->ae
open Go.Lib renaming hid->U
open List renaming getElem?_eq_getElem->af,take_of_length_le->ai
open Go renaming World->ag,bodyPost_ret->ak
open Go.RowKit renaming Below->ah
open Option renaming none->aj
set_option linter.unusedVariables false
set_option maxRecDepth 100000
set_option maxHeartbeats 4000000
open Go.Lib (hid)
namespace Go.Proofs.YtkpekhpgdajabaaGreatDoor
namespace Ps
open Go.RowKit
open Lx (bs Av gz mY gy Df Fy)
open Sm (St dA pY kF)
def Dm (s:List UInt8):List St×Int×Int:=yL [] Fb kF s
def SO (q:List St×Int×Int) (w:ag) (e:Ending) (w':ag):Prop:=ah w.heap.size w w'/\∃p m c,e=.returned (.tuple #[.slice p m c,.int .i64 q.2.1,.int .i64 q.2.2])/\dA (fun b=>w.heap.size<=b) w' q.1 p m
theorem SO.mk {q:List St×Int×Int} {w w':ag} {x:List St} {p:Option Addr} {m c:Nat} {a b:Int} (hq:q=(x,a,b)) (hb:ah w.heap.size w w') (hk:dA (fun b=>w.heap.size<=b) w' x p m):SO q w (.returned (.tuple #[.slice p m c,.int .i64 a,.int .i64 b])) w':=by subst hq;exact⟨hb,p,m,c,rfl,hk⟩
theorem ady {p:Prop} (h:p:=by have bY:=HB.out;have q1:=hb2;have q:bS (fun k=>k<w.heap.size) _ w2:=bS.of q1;exact qe):p:=h
theorem alP (s:ByteArray) (w:ag) (hs:s.size<=9223372036854775807) (hE:Nu.Env w):Calls ae 26 #[.string s,.func (.func 27) #[] #[],.func (.func 28) #[] #[]] w (SO (Dm (bs s)) w):=by
 have HE:Hid (∀W,ah w.heap.size w W->Calls ae 37 #[.string s] W (Av W (gz (bs s)) (mY (bs s)) (gy (bs s)))):=U fun W hW=>Fy s W hs (hE.below hW);clear hE hs;obtain⟨E,wK⟩:∃E,gy (bs s)=E:=⟨_,rfl⟩
 obtain⟨q,hq⟩:∃q,Dm (bs s)=q:=⟨_,rfl⟩
 rw[wK] at HE;rw[hq];have iX:=U wK;have HQ:=U hq;clear wK hq;go_enter func26,ntmps26;go_wp2_with fail;refine(HE.out _ bl).mono ?_;rintro e w1 ⟨v1,rfl,ho,hb⟩;clear HE;have HB:Hid (bS (fun k=>k<w.heap.size) w w1):=U (by have q1:=hb;have q:bS (fun k=>k<w.heap.size) _ w1:=bS.of q1;exact qe);have HO:=U ho;have hs1:=hb.size;clear hb ho;by_cases h0:E=0
 · have b0:(E != 0)=false:=by simp[h0]
   subst h0;obtain⟨hgd,lU⟩:=QF iX.out;obtain⟨p,c,rfl,ht,hc,hp⟩:=Df HO.out;have hne:=hgd.ne;obtain⟨g,rfl,hg⟩:∃g,p=some ⟨g,0,aj⟩/\w.heap.size<=g:=by
    rcases hp with⟨-,h⟩|⟨g,h,h2⟩
    · omega
    · exact⟨g,h,by omega⟩
   have HT:=U ht;have HG:=U hgd;have HF:=U lU;clear ht hgd lU hc hp hg hne HO;go_wp2_with fail;refine(aip 27 Fb ⟨g,0,(gz (bs s)).length,c,gz (bs s)⟩ w1 (fun _ _=>rfl) HT.out HG.out HF.out (fun g W hR=>akR W hR)).mono ?_;rintro e w2 h2;obtain⟨hb2,⟨x2,u2,v2,r2,rfl,V2⟩|⟨u2,r2,rfl⟩⟩:=h2.cases
   · obtain⟨p2,m2,c2,rfl,k2⟩:=V2;obtain⟨hcnt,hsz⟩:=akI HG.out HF.out r2;have HX:Hid ((kF x2=0->q=(x2,0,0))/\(¬kF x2=0->q=([],0,kF x2))):=U ⟨fun h=>HQ.out.symm.trans (aa9 iX.out r2 h),fun h=>HQ.out.symm.trans (aa6 iX.out r2 h)⟩;have HC:=U (fun W (hI:pY W x2 p2 m2)=>Sm.nZ x2 p2 m2 c2 W hI hsz);replace HB:Hid (bS (fun k=>k<w.heap.size) w w2):=U ady;have KX:Hid (dA (fun b=>w.heap.size<=b) w2 x2 p2 m2):=U (k2.mono fun b hb hlt=>by
      have hb':w1.heap.size<=b:=hb
      show w.heap.size<=b
      omega)
     have hs2:w1.heap.size<=w2.heap.size:=hb2.size;clear h2 r2 hb2 hcnt hsz k2 HQ iX HT HG HF;obtain⟨V,hV⟩:∃V,kF x2=V:=⟨_,rfl⟩
     rw[hV] at HX HC;clear hV;go_wp2_with fail;refine(HC.out _ KX.out.all).mono ?_;rintro e w3 ⟨rfl,hb3⟩;replace HB:Hid (bS (fun k=>k<w.heap.size) w w3):=U UE;have KK:Hid (dA (fun b=>w.heap.size<=b) w3 x2 p2 m2):=U (Ip KX.out (bS.of hb3));clear hb3 KX HC;by_cases h1:V=0
     · have b1:(V != 0)=false:=by simp[h1]
       have hx:=U (HX.out.1 h1);clear h1 HX;go_wp2_with fail;go_ret3
       exact SO.mk hx.out (oh HB.out) KK.out
     · have b1:(V != 0)=true:=by simp[h1]
       have hx:=U (HX.out.2 h1);clear h1 HX;go_wp2_with fail;go_ret3
       exact SO.mk hx.out (oh HB.out) Sm.dA.nil
   · have HX:=U (HQ.out.symm.trans (aa8 iX.out r2));replace HB:Hid (bS (fun k=>k<w.heap.size) w w2):=U ady;clear h2 r2 hb2 HQ iX HT HG HF;go_wp2_with fail;go_ret3
     exact SO.mk HX.out (oh HB.out) Sm.dA.nil
 · have b0:(E != 0)=true:=by simp[h0]
   have HX:=U (HQ.out.symm.trans (aa7 (by rw[iX.out];exact h0)));clear h0 HO;go_wp2_with fail;go_ret3
   exact SO.mk (by rw[HX.out,iX.out]) (oh HB.out) Sm.dA.nil
theorem an1 (s:ByteArray) (w:ag) (hs:s.size<=9223372036854775807) (hE:Nu.Env w):Calls ae 12 #[.string s] w (SO (Dm (bs s)) w):=by
 have HC:=U (fun W (hW:Nu.Env W)=>alP s W hs hW);have HE:=U hE;obtain⟨⟨x,a,b⟩,hq⟩:∃q,Dm (bs s)=q:=⟨_,rfl⟩
 rw[hq] at HC ⊢;clear hE hs hq;go_enter func12,ntmps12;go_wp2_with fail;refine(HC.out _ (HE.out.below bl)).mono ?_;rintro e w1 ⟨hb,p,m,c,rfl,hk⟩;have HB:=U hb;have HK:=U hk;clear hb hk HC;go_wp2_with fail;go_ret3
 exact⟨by have q:=HB.out;exact bl,p,m,c,rfl,HK.out⟩
end Ps
namespace Ps
open Go.RowKit
open Lx (Tk bs mt Av gz mY gy Df Fy)
open Ex (Ex In bX fI)
open Md (bU)
def nX:Ex:=.mk 0 mt 0 []
def o_ (s:List UInt8):Ex×Int×Int:=
 if gy s=0 then (match run tF (gz s) with
  | .ok x _=>if fI false x=0 then (x,0,0) else (nX,0,fI false x)
  | .no u=>(nX,(hd u).l,9))
 else (nX,mY s,gy s)
def XO (q:Ex×Int×Int) (w:ag) (e:Ending) (w':ag):Prop:=ah w.heap.size w w'/\∃p m c,e=.returned (.tuple #[.agg (cu q.1 p m c),.int .i64 q.2.1,.int .i64 q.2.2])/\bX (fun b=>w.heap.size<=b) w' q.1 p m
theorem alD {s:List UInt8} (h:¬gy s=0):o_ s=(nX,(mY s:Int),gy s):=by unfold o_;rw[if_neg h]
theorem alE {s:List UInt8} {u:List Tk} (h:gy s=0) (hr:run tF (gz s)=.no u):o_ s=(nX,(hd u).l,9):=by unfold o_;rw[if_pos h,hr]
theorem alC {s:List UInt8} {x:Ex} {u:List Tk} (h:gy s=0) (hr:run tF (gz s)=.ok x u) (hc:¬fI false x=0):o_ s=(nX,0,fI false x):=by unfold o_;rw[if_pos h,hr];simp only[if_neg hc]
theorem aa_ {s:List UInt8} {x:Ex} {u:List Tk} (h:gy s=0) (hr:run tF (gz s)=.ok x u) (hc:fI false x=0):o_ s=(x,0,0):=by unfold o_;rw[if_pos h,hr];simp only[if_pos hc]
theorem XO.mk {q:Ex×Int×Int} {w w':ag} {x:Ex} {p:Option Addr} {m c:Nat} {a b:Int} (hq:q=(x,a,b)) (hb:ah w.heap.size w w') (hk:bX (fun b=>w.heap.size<=b) w' x p m):XO q w (.returned (.tuple #[.agg (cu x p m c),.int .i64 a,.int .i64 b])) w':=by subst hq;exact⟨hb,p,m,c,rfl,hk⟩
theorem NP {p:Prop} (h:p:=by
 exact aba rfl _ _ w.heap.size 25 _ (0,0) _ rfl (qK Z.out rfl) underlying25 rfl dx rfl rfl
 ):p:=h
theorem adz {p:Prop} (h:p:=by have bY:=HB.out;have q1:=hb2;have q:bS (fun k=>k<w.heap.size) _ w2:=bS.of q1;exact qe):p:=h
theorem adA {p:Prop} (h:p:=by have q1:=hb2;have q:bS (fun k=>k=w.heap.size+1) _ w2:=bS.of q1;exact qe):p:=h
theorem adB {p:Prop} (h:p:=by have q1:=hb2;have q:bS (fun k=>k=w.heap.size) _ w2:=bS.of q1;exact qe):p:=h
theorem adC {p:Prop} (h:p:=by have q1:=hb;have q:bS (fun k=>k=w.heap.size) _ w1:=bS.of q1;exact qe):p:=h
theorem adD {p:Prop} (h:p:=by have q1:=hb;have q:bS (fun k=>k<w.heap.size) _ w1:=bS.of q1;exact qe):p:=h
theorem alQ (s:ByteArray) (w:ag) (hs:s.size<=9223372036854775807) (hE:Nu.Env w):Calls ae 15 #[.string s,.func (.func 16) #[] #[],.func (.func 17) #[] #[]] w (XO (o_ (bs s)) w):=by
 have HE:Hid (∀W,ah w.heap.size w W->Calls ae 37 #[.string s] W (Av W (gz (bs s)) (mY (bs s)) (gy (bs s)))):=U fun W hW=>Fy s W hs (hE.below hW);clear hE hs;have Z:=pW w;have n0:bU ((w.alloc (.cells #[.int .i64 0,.string ⟨#[]⟩,.int .i64 0,.slice aj 0 0] 25)).alloc (.cells #[.int .i64 0,.string ⟨#[]⟩,.int .i64 0,.slice aj 0 0] 25)) (w.heap.size+1) 25 #[.int .i64 0,.string ⟨#[]⟩,.int .i64 0,.slice aj 0 0]:=by
  have h:=bU.new (w:=w.alloc (.cells #[.int .i64 0,.string ⟨#[]⟩,.int .i64 0,.slice aj 0 0] 25)) (t:=25) (c:=#[.int .i64 0,.string ⟨#[]⟩,.int .i64 0,.slice aj 0 0]);exact adK
 have N:=U n0;clear n0;obtain⟨E,wK⟩:∃E,gy (bs s)=E:=⟨_,rfl⟩
 obtain⟨q,hq⟩:∃q,o_ (bs s)=q:=⟨_,rfl⟩
 rw[wK] at HE;rw[hq];have iX:=U wK;have HQ:=U hq;clear wK hq;go_enter func15,ntmps15;go_wp2_with fail;refine(HE.out _ bl).mono ?_;rintro e w1 ⟨v1,rfl,ho,hb⟩;clear HE;replace Z:=U (cZ (w2:=w1) Z.out adC);replace N:=U (cZ (w2:=w1) N.out (by have q1:=hb;have q:bS (fun k=>k=w.heap.size+1) _ w1:=bS.of q1;exact qe));have HB:Hid (bS (fun k=>k<w.heap.size) w w1):=U adD;have HO:=U ho;have hz:=Z.out.lt;have hn:=N.out.lt;clear hb ho;by_cases h0:E=0
 · have b0:(E != 0)=false:=by simp[h0]
   subst h0;obtain⟨hgd,lU⟩:=QF iX.out;obtain⟨p,c,rfl,ht,hc,hp⟩:=Df HO.out;have hne:=hgd.ne;obtain⟨g,rfl,hg⟩:∃g,p=some ⟨g,0,aj⟩/\w.heap.size<=g:=by
    rcases hp with⟨-,h⟩|⟨g,h,h2⟩
    · omega
    · exact⟨g,h,by simp at h2;omega⟩
   have HT:=U ht;have HG:=U hgd;have HF:=U lU;clear ht hgd lU hc hp hg hne HO;go_wp2_with fail;refine(aiq 16 tF ⟨g,0,(gz (bs s)).length,c,gz (bs s)⟩ w1 (fun _ _=>rfl) HT.out HG.out HF.out (fun g W hR=>akQ W hR)).mono ?_;rintro e w2 h2;obtain⟨hb2,⟨x2,u2,v2,r2,rfl,V2⟩|⟨u2,r2,rfl⟩⟩:=h2.cases
   · obtain⟨p2,m2,c2,rfl,k2⟩:=V2;obtain⟨hcnt,hsz⟩:=akH HG.out HF.out r2;have HX:Hid ((fI false x2=0->q=(x2,0,0))/\(¬fI false x2=0->q=(nX,0,fI false x2))):=U ⟨fun h=>HQ.out.symm.trans (aa_ iX.out r2 h),fun h=>HQ.out.symm.trans (alC iX.out r2 h)⟩;have HC:=U (fun W (hI:In W x2 p2 m2)=>Ex.nZ x2 p2 m2 c2 W hI hsz bT);replace Z:=U (cZ (w2:=w2) Z.out adB);replace N:=U (cZ (w2:=w2) N.out adA);replace HB:Hid (bS (fun k=>k<w.heap.size) w w2):=U adz;have KX:Hid (bX (fun b=>w.heap.size+1<b) w2 x2 p2 m2):=U (k2.mono fun b hb hlt=>by
      have hb':w1.heap.size<=b:=hb;omega)
     have Y:=U (bU.new (w:=w2) (t:=25) (c:=cu x2 p2 m2 c2));have hs2:w1.heap.size<=w2.heap.size:=hb2.size;clear h2 r2 hb2 hcnt hsz k2 HQ iX HT HG HF;obtain⟨V,hV⟩:∃V,fI false x2=V:=⟨_,rfl⟩
     rw[hV] at HX HC;clear hV;dsimp only [cu] at Y ⊢;obtain⟨l0,l1,l2,l3,-⟩:=dM Y.out;go_wp2_with fail;refine(HC.out _ (bX.all (Ex.bX.map (G:=fun b=>w.heap.size+1<b) (w:=w2) cK (fun b hb hlt=>⟨hb,by show(w2.heap.push _)[b]?=_;rw[Array.getElem?_push,if_neg bT]⟩) _ KX.out))).mono ?_;rintro e w3 ⟨rfl,hb3⟩;clear l0 l1 l2 l3 HC;replace Z:=U (cZ (w2:=w3) Z.out (by have q1:=hb3;have q:bS (fun k=>k=w.heap.size) _ w3:=bS.of q1;exact qe));replace N:=U (cZ (w2:=w3) N.out (by have q1:=hb3;have q:bS (fun k=>k=w.heap.size+1) _ w3:=bS.of q1;exact qe));replace HB:Hid (bS (fun k=>k<w.heap.size) w w3):=U UE;replace Y:=U (cZ (w2:=w3) Y.out (by have q1:=hb3;have q:bS (fun k=>k=w2.heap.size) _ w3:=bS.of q1;exact qe));have KK:Hid (bX (fun b=>w.heap.size+1<b) w3 x2 p2 m2):=U (by
      have q1:=hb3;have q:bS (fun b=>w.heap.size+1<b) w2 w3:=by
       have q2:bS (fun b=>w.heap.size+1<b) _ w3:=bS.of q1;exact qe
      exact Ex.bX.map q.size (fun b hb hlt=>⟨hb,q.block b hlt hb⟩) _ KX.out)
     have hs3:=Y.out.lt;clear hb3 KX;by_cases h1:V=0
     · have b1:(V != 0)=false:=by simp[h1]
       have hx:=U (HX.out.1 h1);clear h1 HX;obtain⟨l0,l1,l2,l3,-⟩:=dM Y.out;obtain⟨y0,y1,y2,y3,fz⟩:=dM Z.out;go_wp2_with fail;have q:∀W,bS (fun b=>w.heap.size+1<b) w3 W->bX (fun b=>w.heap.size<=b) W x2 p2 m2:=fun W q=>Ex.bX.map q.size (fun b hb hlt=>⟨by show w.heap.size<=b;have hb':w.heap.size+1<b:=hb;omega,q.block b hlt hb⟩) _ KK.out;refine ak (v:=.tuple #[.agg (cu x2 p2 m2 c2),.int .i64 0,.int .i64 0]) ?_ rfl (XO.mk hx.out (oh qh) (q _ qe));exact NP
     · have b1:(V != 0)=true:=by simp[h1]
       have hx:=U (HX.out.2 h1);clear h1 HX;obtain⟨l0,l1,l2,l3,-⟩:=dM N.out;obtain⟨y0,y1,y2,y3,fz⟩:=dM Z.out;go_wp2_with fail;refine ak (v:=.tuple #[.agg (cu nX aj 0 0),.int .i64 0,.int .i64 V]) ?_ rfl (XO.mk hx.out (oh qh) (Ex.bX.zero));exact NP
   · have HX:=U (HQ.out.symm.trans (alE iX.out r2));replace Z:=U (cZ (w2:=w2) Z.out adB);replace N:=U (cZ (w2:=w2) N.out adA);replace HB:Hid (bS (fun k=>k<w.heap.size) w w2):=U adz;clear h2 r2 hb2 HQ iX HT HG HF;replace Z:=U (cZ (w2:=w2.alloc (.cells #[.int .i64 0,.string ⟨#[]⟩,.int .i64 0,.slice aj 0 0] 25)) Z.out qe);replace N:=U (cZ (w2:=w2.alloc (.cells #[.int .i64 0,.string ⟨#[]⟩,.int .i64 0,.slice aj 0 0] 25)) N.out qe);obtain⟨l0,l1,l2,l3,-⟩:=dM N.out;obtain⟨y0,y1,y2,y3,fz⟩:=dM Z.out;go_wp2_with fail;refine ak (v:=.tuple #[.agg (cu nX aj 0 0),.int .i64 (hd u2).l,.int .i64 9]) ?_ rfl (XO.mk HX.out (oh qh) (Ex.bX.zero));exact NP
 · have b0:(E != 0)=true:=by simp[h0]
   have HX:=U (HQ.out.symm.trans (alD (by rw[iX.out];exact h0)));clear h0 HO;obtain⟨l0,l1,l2,l3,-⟩:=dM N.out;obtain⟨y0,y1,y2,y3,fz⟩:=dM Z.out;go_wp2_with fail;refine ak (v:=.tuple #[.agg (cu nX aj 0 0),.int .i64 (mY (bs s):Int),.int .i64 E]) ?_ rfl (XO.mk (by rw[HX.out,iX.out]) (oh qh) (Ex.bX.zero));exact NP
def EO (q:Ex×Int×Int) (w:ag) (e:Ending) (w':ag):Prop:=ah w.heap.size w w'/\∃p m c,e=.returned (.tuple #[.agg (cu q.1 p m c),.int .i64 q.2.2])/\bX (fun b=>w.heap.size<=b) w' q.1 p m
theorem X7 (s:ByteArray) (w:ag) (hs:s.size<=9223372036854775807) (hE:Nu.Env w):Calls ae 7 #[.string s] w (EO (o_ (bs s)) w):=by
 have HC:=U (fun W (hW:Nu.Env W)=>alQ s W hs hW);have Z:=pW w;have HE:=U hE;obtain⟨⟨x,a,b⟩,hq⟩:∃q,o_ (bs s)=q:=⟨_,rfl⟩
 rw[hq] at HC ⊢;clear hE hs hq;go_enter func7,ntmps7;go_wp2_with fail;refine(HC.out _ (HE.out.below bl)).mono ?_;rintro e w1 ⟨hb,p,m,c,rfl,hk⟩;replace Z:=U (cZ (w2:=w1) Z.out adC);have HB:Hid (bS (fun k=>k<w.heap.size) w w1):=U adD;have hz:w.heap.size<w1.heap.size:=by have h:=hb.size;simp at h;omega
 have KX:Hid (bX (fun b=>w.heap.size<b) w1 x p m):=U (hk.mono fun b hb hlt=>by
  have hb':_<=b:=hb;simp at hb'
  omega)
 have Y:=U (bU.new (w:=w1) (t:=25) (c:=cu x p m c));clear hb hk HC;dsimp only [cu] at Y ⊢;obtain⟨l0,l1,l2,l3,-⟩:=dM Y.out;obtain⟨y0,y1,y2,y3,fz⟩:=dM Z.out;go_wp2_with fail;have q:∀W,bS (fun b=>w.heap.size<b) w1 W->bX (fun b=>w.heap.size<=b) W x p m:=fun W q=>Ex.bX.map q.size (fun b hb hlt=>⟨by show w.heap.size<=b;have hb':w.heap.size<b:=hb;omega,q.block b hlt hb⟩) _ KX.out;refine ak (v:=.tuple #[.agg (cu x p m c),.int .i64 b]) ?_ rfl ⟨oh qh,p,m,c,rfl,q _ qe⟩;have Z4:bU _ w.heap.size 25 #[.int .i64 x.o,.string x.s,.int .i64 x.n,.slice p m c]:=qK Z.out rfl;exact alS rfl _ _ w.heap.size 25 _ (0,0) _ rfl (cZ (w2:=World.alloc _ (.cells #[.int .i64 x.o,.string x.s,.int .i64 x.n,.slice p m c] 25)) Z4 qe) underlying25 rfl dx rfl
end Ps
namespace Ps
open Lx (bs mt)
open Ex (Ex)
open Sm (St zD)
open Md (dL)
def zx:Ex:=.mk 16 mt 0 [.mk 5 mt 0 [fO 1 3],.mk 10 mt 0 [.mk 10 mt 0 [fO 1 1,fO 1 2],rQ 3 ⟨#[120]⟩]]
def zy:Ex:=.mk 7 mt 0 [.mk 5 mt 0 [fO 1 3]]
def AP:Ex:=fO 1 (-3)
def X6:dL:=⟨⟨#[109]⟩,[],[Bj ⟨#[97]⟩],[]⟩
def KJ:List St:=[.mk 6 ⟨#[114]⟩ mt (fO 1 2) (fO 1 1) [] zD true [] []]
theorem alF:o_ (bs ⟨#[49,32,45,32,50,32,45,32,120,32,62,32,45,51]⟩)=(zx,0,0):=by kernel_rfl
theorem alG:o_ (bs ⟨#[100,117,114,40,45,51,41]⟩)=(zy,0,0):=by kernel_rfl
theorem rd_c:o_ (bs ⟨#[40,45,51,41]⟩)=(AP,0,0):=by kernel_rfl
theorem alH:o_ (bs ⟨#[97,32,60,32,98,32,60,32,99]⟩)=(nX,1,9):=by kernel_rfl
theorem alI:Dl (bs ⟨#[109,111,100,101,108,32,109,10,115,105,116,101,32,97,10,101,110,100,10,101,110,100,10]⟩)=(X6,0,0):=by kernel_rfl
theorem alJ:Dl (bs ⟨#[109,111,100,101,108,32,109,10,115,105,116,101,32,105,102,10,101,110,100,10,101,110,100,10]⟩)=(nM,2,9):=by kernel_rfl
theorem alK:Dm (bs ⟨#[104,111,108,100,32,100,117,114,40,50,41,10,104,111,108,100,32,104,111,108,100,10]⟩)=([],2,9):=by kernel_rfl
theorem alL:Dm (bs ⟨#[115,101,105,122,101,32,114,32,50,32,112,114,105,111,32,49,32,112,114,101,101,109,112,116]⟩)=(KJ,0,0):=by kernel_rfl
end Ps
namespace Ex
open Go.RowKit
open Na (bs)
theorem amz (l:List Ex) (ih:∀x∈l,∀(y:Ex) (p:Option Addr) (m c:Nat) (p2:Option Addr) (m2 c2:Nat) (w:ag),In w x p m->In w y p2 m2->Calls ae 9 #[.agg #[.int .i64 x.o,.string x.s,.int .i64 x.n,.slice p m c],.agg #[.int .i64 y.o,.string y.s,.int .i64 y.n,.slice p2 m2 c2]] w (Gives (.bool (same x y)) w))
 (l2:List Ex) (p:Option Addr) (m c:Nat) (p2:Option Addr) (m2 c2:Nat) (w:ag) (h:In w (.mk 0 nE 0 l) p m) (h2:In w (.mk 0 nE 0 l2) p2 m2) :
 Calls ae 19 #[.slice p m c,.slice p2 m2 c2] w (Gives (.bool (jU l l2)) w):=by
 have HH:=U h;have vX:=U h2;have HI:=U ih;obtain⟨hl,hm⟩:=h.len;obtain⟨hl2,hm2⟩:=h2.len;have HL:=U hl;have HL2:=U hl2;clear ih h h2 hl hl2;by_cases hmm:m=m2
 · subst hmm;go_enter func19,ntmps19;go_wp2_with fail;go_loopw [5] (fun i wr=>∃k:Nat,k<=m/\Hid (l.take k=l2.take k)/\i=.int .i64 (k:Nat)/\Hid (ah w.heap.size w wr)) (fun i _=>m-(intOf i).toNat)
   case atStart=>exact⟨0,Nat.zero_le _,U rfl,rfl,U bl⟩
   case round=>
    obtain⟨k,hk,HT0,rfl,HW⟩:=hrel;have k0:(0:Int)<=(k:Int):=by omega
    rcases Nat.lt_or_ge k m with h|h
    · have k1:(k:Int)<(m:Int):=by omega
      obtain⟨b,o',rfl,-,hG,hcell⟩:=HH.out.kids bT;have hkl:k<l.length:=by rw[HL.out];omega
      obtain⟨q,j,c',hc4,eH⟩:=hcell.out k hkl;have hmem:l[k]∈l:=List.getElem_mem hkl;have hgx:l[k]?=some l[k]:=af hkl;obtain⟨x,hx⟩:∃x,l[k]=x:=⟨_,rfl⟩
      rw[hx] at hc4 eH hmem hgx;obtain⟨e0,e1,e2,e3⟩:=hc4.on HW.out hG;have mO:=U eH;have HX:=U hgx;have HM:=U hmem;clear hcell hc4 eH hx hmem hgx hkl;obtain⟨b',o'',rfl,-,hG',hcell'⟩:=vX.out.kids bT;have om:k<l2.length:=by rw[HL2.out];omega
      obtain⟨q',j',c'',wL,wM⟩:=hcell'.out k om;have wN:l2[k]∈l2:=List.getElem_mem om;have hgx2:l2[k]?=some l2[k]:=af om;obtain⟨y,hy⟩:∃y,l2[k]=y:=⟨_,rfl⟩
      rw[hy] at wL wM wN hgx2;obtain⟨f0,f1,f2,f3⟩:=wL.on HW.out hG';have JG:=U wM;have iG:=U hgx2;have U4:=U wN;clear hcell' wL wM hy wN hgx2 om;have HS:=U (Sy HX.out iG.out);have HE:=U (take_same HX.out iG.out);have HI1:=U (fun W=>HI.out x HM.out y q j c' q' j' c'' W);obtain⟨E,hE⟩:∃E,same x y=E:=⟨_,rfl⟩
      exact zz5
    · exact adW
 · rw[Sw NY];have t1:((m:Int)==(m2:Int))=false:=beq_eq_false_iff_ne.2 bT;have t2:((m:Int) != (m2:Int))=true:=bne_iff_ne.2 bT;clear hmm;go_enter func19,ntmps19;exact dX
theorem Ut {p:Prop} (h:p:=by
 go_enter func9,ntmps9;exact dX
 ):p:=h
theorem Fs (e:Ex):∀(y:Ex) (p:Option Addr) (m c:Nat) (p2:Option Addr) (m2 c2:Nat) (w:ag),In w e p m->In w y p2 m2->Calls ae 9 #[.agg #[.int .i64 e.o,.string e.s,.int .i64 e.n,.slice p m c],.agg #[.int .i64 y.o,.string y.s,.int .i64 y.n,.slice p2 m2 c2]] w (Gives (.bool (same e y)) w):=by
 induction e using Ex.ind with
 | h o s n l ih=>
  intro y p m c p2 m2 c2 w h h2;obtain⟨o2,s2,n2,l2⟩:=y;have HE:=U fun W=>amz l ih l2 p m c p2 m2 c2 W;have HH:=U (h.any (o2:=0) (n2:=0) (s2:=nE));have vX:=U (h2.any (o2:=0) (n2:=0) (s2:=nE));rw[abx];simp only[Ex.o,Ex.s,Ex.n];clear h h2 ih;by_cases t1:o=o2
  · by_cases t2:bs s=bs s2
    · by_cases t3:n=n2
      · rw[decide_eq_true t1,decide_eq_true t2,decide_eq_true t3,Bool.true_and,Bool.true_and,Bool.true_and];have u2:=rH t2;subst t1 t3;clear t2;obtain⟨E,hE⟩:∃E,jU l l2=E:=⟨_,rfl⟩
        rw[hE] at HE ⊢;clear hE;go_enter func9,ntmps9;go_wp2_with fail;refine(HE.out _ (HH.out.on bl) (vX.out.on bl)).mono ?_;exact D8
      · rw[decide_eq_true t1,decide_eq_true t2,decide_eq_false t3,Bool.true_and,Bool.true_and,Bool.false_and];have u2:=rH t2;subst t1;clear t2;exact Ut
    · rw[decide_eq_true t1,decide_eq_false t2,Bool.true_and,Bool.false_and,Bool.false_and];have u2:=vk t2;subst t1;clear t2;exact Ut
  · rw[decide_eq_false t1,Bool.false_and,Bool.false_and,Bool.false_and];exact Ut
end Ex
namespace Sm
open Go.RowKit
open Ex (Ex In Gives)
attribute [local go_sem] cs0 cs1 cs2 uW uX uY uZ u_ ve vg uI uJ uK uM uP uQ uR uS uT uU uV
theorem alV (l:List Ex)
 (l2:List Ex) (p:Option Addr) (m c:Nat) (p2:Option Addr) (m2 c2:Nat) (w:ag) (h:In w (.mk 0 nE 0 l) p m) (h2:In w (.mk 0 nE 0 l2) p2 m2) :
 Calls ae 29 #[.slice p m c,.slice p2 m2 c2] w (Gives (.bool (Ex.jU l l2)) w):=by
 have HH:=U h;have vX:=U h2;obtain⟨hl,hm⟩:=h.len;obtain⟨hl2,hm2⟩:=h2.len;have HL:=U hl;have HL2:=U hl2;clear h h2 hl hl2;by_cases hmm:m=m2
 · subst hmm;go_enter func29,ntmps29;go_wp2_with fail;go_loopw [5] (fun i wr=>∃k:Nat,k<=m/\Hid (l.take k=l2.take k)/\i=.int .i64 (k:Nat)/\Hid (ah w.heap.size w wr)) (fun i _=>m-(intOf i).toNat)
   case atStart=>exact⟨0,Nat.zero_le _,U rfl,rfl,U bl⟩
   case round=>
    obtain⟨k,hk,HT0,rfl,HW⟩:=hrel;have k0:(0:Int)<=(k:Int):=by omega
    rcases Nat.lt_or_ge k m with h|h
    · have k1:(k:Int)<(m:Int):=by omega
      obtain⟨b,o',rfl,-,hG,hcell⟩:=HH.out.kids bT;have hkl:k<l.length:=by rw[HL.out];omega
      obtain⟨q,j,c',hc4,eH⟩:=hcell.out k hkl;have hmem:l[k]∈l:=List.getElem_mem hkl;have hgx:l[k]?=some l[k]:=af hkl;obtain⟨x,hx⟩:∃x,l[k]=x:=⟨_,rfl⟩
      rw[hx] at hc4 eH hmem hgx;obtain⟨e0,e1,e2,e3⟩:=hc4.on HW.out hG;have mO:=U eH;have HX:=U hgx;have HM:=U hmem;clear hcell hc4 eH hx hmem hgx hkl;obtain⟨b',o'',rfl,-,hG',hcell'⟩:=vX.out.kids bT;have om:k<l2.length:=by rw[HL2.out];omega
      obtain⟨q',j',c'',wL,wM⟩:=hcell'.out k om;have wN:l2[k]∈l2:=List.getElem_mem om;have hgx2:l2[k]?=some l2[k]:=af om;obtain⟨y,hy⟩:∃y,l2[k]=y:=⟨_,rfl⟩
      rw[hy] at wL wM wN hgx2;obtain⟨f0,f1,f2,f3⟩:=wL.on HW.out hG';have JG:=U wM;have iG:=U hgx2;have U4:=U wN;clear hcell' wL wM hy wN hgx2 om;have HS:=U (Ex.Sy HX.out iG.out);have HE:=U (Ex.take_same HX.out iG.out);have HI1:=U (fun W=>Ex.Fs x y q j c' q' j' c'' W);obtain⟨E,hE⟩:∃E,Ex.same x y=E:=⟨_,rfl⟩
      exact zz5
    · obtain rfl:m=k:=by omega
      have HR:Hid (Ex.jU l l2=true):=U (by
       have h1:=HT0.out;rw[ai x_,ai (by rw[HL2.out];exact Nat.le_refl _)] at h1;rw[h1];exact Ex.IQ _)
      exact N_
 · rw[Ex.Sw NY];have t1:((m:Int)==(m2:Int))=false:=beq_eq_false_iff_ne.2 bT;have t2:((m:Int) != (m2:Int))=true:=bne_iff_ne.2 bT;clear hmm;go_enter func29,ntmps29;exact dX
end Sm
namespace Sm
open Go.RowKit
open Na (bs)
open Ex (Ex Gives qJ rF rH vk)
attribute [local go_sem] cs0 cs1 cs2 uW uX uY uZ u_ ve vg uI uJ uK uM uP uQ uR uS uT uU uV
theorem alN {w:ag} {x y:St} {P Q:Pl} (hx:uo w x P) (hy:uo w y Q):Calls ae 30 #[.agg #[.int .i64 x.di.op,.int .i64 x.di.a,.int .i64 x.di.b,.int .i64 x.di.n,.slice P.vp P.vm P.vc,.slice P.wp P.wm P.wc],.agg #[.int .i64 y.di.op,.int .i64 y.di.a,.int .i64 y.di.b,.int .i64 y.di.n,.slice Q.vp Q.vm Q.vc,.slice Q.wp Q.wm Q.wc]] w (Gives (.bool (lD x.di y.di)) w):=by
 have h:=Di.Fs x.di.op x.di.a x.di.b x.di.n P.vp x.di.vs.length P.vc P.wp x.di.ws.length P.wc _ _ y.di.op y.di.a y.di.b y.di.n Q.vp y.di.vs.length Q.vc Q.wp y.di.ws.length Q.wc _ _ w hx.vs hx.ws hy.vs hy.ws;rw[MG,hx.Ja,hx.Jd,hy.Ja,hy.Jd] at h;exact h
def adZ (wr:ag) (x y:St) (P Q:Pl) (a b:Value) (wc:ag):Prop:=∃g1 g2:Nat,a=.pointer (some ⟨g1,0,aj⟩)/\b=.pointer (some ⟨g2,0,aj⟩)/\dB wc g1 x P/\dB wc g2 y Q/\ah wr.heap.size wr wc
theorem am7 (w:ag) (c c':Array Value) (t:TypeId) (o:Obj):((w.alloc (.cells c t)).alloc o).setRow w.heap.size c'=(w.alloc (.cells c' t)).alloc o:=by
 simp only[World.setRow,World.alloc]
 congr 1
 apply Array.ext_getElem?
 intro i;rw[Array.getElem?_modify];by_cases h:w.heap.size=i
 · subst h;rw[if_pos rfl,Array.getElem?_push,Array.getElem?_push];simp[Array.getElem?_push]
 · have h':¬i=w.heap.size:=fun e=>h e.symm;simp[h,h',Array.getElem?_push]
theorem ai4 (w:ag) (a o:Obj):((w.alloc a).alloc o).heap[w.heap.size]?=some a:=by
 show((w.heap.push a).push o)[w.heap.size]?=some a
 simp[Array.getElem?_push]
theorem MP (x:St) (P:Pl) (z:Array Value) (hz:z.size=21) (W:ag) (o:Obj) (B:Nat) (hB:W.heap.size=B):(storeVar 62 ⟨B,0,aj⟩ (.agg (cs x P))).run ae ((W.alloc (.cells z 62)).alloc o)=.ok () ((W.alloc (.cells (cs x P) 62)).alloc o):=by
 subst hB;rw[run_storeVar_row _ _ 62 62 z (cs x P) (ai4 _ _ _) (by rw[IY];rfl) hz (jF x P),am7]
theorem abY (x:St) (P:Pl) (z:Array Value) (hz:z.size=21) (W:ag) (o:Obj) (B:Nat) (hB:W.heap.size=B):(storeCells ⟨B,0,aj⟩ (cs x P).toList 0).run ae ((W.alloc (.cells z 62)).alloc o)=.ok () ((W.alloc (.cells (cs x P) 62)).alloc o):=by
 have h:=MP x P z hz W o B hB;obtain⟨i0,hi0,hi1,hi2,hi3⟩:=alf aif
 simpa [storeVar,sizeOf,typeInfo,hi0,Value.cells,hi2,WI] using h
theorem abX (x:St) (P:Pl) (z:Array Value) (hz:z.size=21) (W:ag) (o:Obj) (B:Nat) (hB:W.heap.size=B):(Instr.storeAt 62 (.pointer (some ⟨B,0,aj⟩)) (.agg (cs x P))).run ae ((W.alloc (.cells z 62)).alloc o)=.ok () ((W.alloc (.cells (cs x P) 62)).alloc o):=by
 simp only[Instr.storeAt,Instr.sureAddr,Sem.run_bind,Sem.run_pure,Result.andThen];exact MP x P z hz W o B hB
theorem anE (x:St) (P:Pl) (z:Array Value) (hz:z.size=21) (W:ag) (o:Obj) (B:Nat) (hB:W.heap.size=B):(storeVar 62 ⟨B,0,aj⟩ (.agg (cs x P))).run ae ((W.alloc (.cells z 62)).alloc o).drew=.ok () ((W.alloc (.cells (cs x P) 62)).alloc o).drew:=MP x P z hz W.drew o B hB
theorem anv (x:St) (P:Pl) (z:Array Value) (hz:z.size=21) (W:ag) (B:Nat) (hB:W.heap.size=B):(storeVar 62 ⟨B,0,aj⟩ (.agg (cs x P))).run ae (W.alloc (.cells z 62)).drew=.ok () (W.alloc (.cells (cs x P) 62)).drew:=abV x P z hz W.drew B hB
theorem anD (x:St) (P:Pl) (z:Array Value) (hz:z.size=21) (W:ag) (o:Obj) (B:Nat) (hB:W.heap.size=B):(storeCells ⟨B,0,aj⟩ (cs x P).toList 0).run ae ((W.alloc (.cells z 62)).alloc o).drew=.ok () ((W.alloc (.cells (cs x P) 62)).alloc o).drew:=abY x P z hz W.drew o B hB
theorem anu (x:St) (P:Pl) (z:Array Value) (hz:z.size=21) (W:ag) (B:Nat) (hB:W.heap.size=B):(storeCells ⟨B,0,aj⟩ (cs x P).toList 0).run ae (W.alloc (.cells z 62)).drew=.ok () (W.alloc (.cells (cs x P) 62)).drew:=abU x P z hz W.drew B hB
theorem anC (x:St) (P:Pl) (z:Array Value) (hz:z.size=21) (W:ag) (o:Obj) (B:Nat) (hB:W.heap.size=B):(Instr.storeAt 62 (.pointer (some ⟨B,0,aj⟩)) (.agg (cs x P))).run ae ((W.alloc (.cells z 62)).alloc o).drew=.ok () ((W.alloc (.cells (cs x P) 62)).alloc o).drew:=abX x P z hz W.drew o B hB
theorem ant (x:St) (P:Pl) (z:Array Value) (hz:z.size=21) (W:ag) (B:Nat) (hB:W.heap.size=B):(Instr.storeAt 62 (.pointer (some ⟨B,0,aj⟩)) (.agg (cs x P))).run ae (W.alloc (.cells z 62)).drew=.ok () (W.alloc (.cells (cs x P) 62)).drew:=abT x P z hz W.drew B hB
theorem M5 (w:ag) (x y:St) (P Q:Pl):dB ((w.alloc (.cells (cs x P) 62)).alloc (.cells (cs y Q) 62)).drew w.heap.size x P/\dB ((w.alloc (.cells (cs x P) 62)).alloc (.cells (cs y Q) 62)).drew (w.heap.size+1) y Q:=(aol (w:=w) x y P Q).out _ (qJ (Below.refl _ _))
theorem Jp {p:Prop} (h:p:=by
 go_wp2_with fail;go_ret;exact⟨by first|(rw[HR.out];rfl)|(simp[HR.out];done),by with_reducible first|exact Ow.out|exact ui.out⟩
 ):p:=h
theorem F3 {p:Prop} (h:p:=by
 have HR:=U (HS.out cK);exact Jp
 ):p:=h
theorem F4 {p:Prop} (h:p:=by have h1:=Ow.out;exact bl):p:=h
theorem amy (sl:List St):aep 13 sl:=by
 induction sl using Rx with
 | h sl ih=>
  intro l2 p m c p2 m2 c2 w h h2;have HH:=U h;have vX:=U h2;have HI:=U ih;obtain⟨hl,hm⟩:=h.len;obtain⟨hl2,hm2⟩:=h2.len;have HL:=U hl;have HL2:=U hl2;clear ih h h2 hl hl2;by_cases hmm:m=m2
  · subst hmm;obtain⟨n21,nH⟩:∃n:Nat,21=n:=⟨_,rfl⟩
    have hsz:∀w,(sizeOf 62).run ae w=.ok n21 w:=fun w=>by rw[sizeOf62,nH]
    have kK:=U nH;clear nH;go_enter func13,ntmps13;go_wp2_with fail;go_loopw [5] (fun i wr=>∃k:Nat,k<=m/\Hid (sl.take k=l2.take k)/\i=.int .i64 (k:Nat)/\Hid (ah w.heap.size w wr)) (fun i _=>m-(intOf i).toNat)
    case atStart=>exact⟨0,Nat.zero_le _,U rfl,rfl,U bl⟩
    case round=>
     obtain⟨k,hk,HT0,rfl,HW⟩:=hrel;have k0:(0:Int)<=(k:Int):=by omega
     rcases Nat.lt_or_ge k m with h|h
     · have k1:(k:Int)<(m:Int):=by omega
       obtain⟨b,o',rfl,-,hG,hcell⟩:=HH.out.rows bT;have hkl:k<sl.length:=by rw[HL.out];omega
       obtain⟨P,hc21,wO⟩:=hcell.out k hkl;have hmem:sl[k]∈sl:=List.getElem_mem hkl;have hgx:sl[k]?=some sl[k]:=af hkl;obtain⟨x,hx⟩:∃x,sl[k]=x:=⟨_,rfl⟩
       rw[hx] at hc21 wO hmem hgx;have zh:=U wO;have HX:=U hgx;have HM:=U hmem;have hcw:=(hc21.on HW.out hG).at kK.out;have hbr:b<wr.heap.size:=Nat.lt_of_lt_of_le hG HW.out.size;have hcsz:(cs x P).size=n21:=kK.out;have ld1:=(hcw).fZ kK.out;have oU:=(hcw).loadVar;have oV:=(hcw).loadAt;have st1:=IZ x P;have st2:=I5 x P;have qB:=I4 x P;have Oj:=U hcw;clear hcell hc21 wO hx hmem hgx hkl hcw;obtain⟨b2,o2,rfl,-,hG2,hcell2⟩:=vX.out.rows bT;have om:k<l2.length:=by rw[HL2.out];omega
       obtain⟨Q,hcy,hsy⟩:=hcell2.out k om;have AQ:l2[k]?=some l2[k]:=af om;obtain⟨y,hy⟩:∃y,l2[k]=y:=⟨_,rfl⟩
       rw[hy] at hcy hsy AQ;have Zf:=(hcy.on HW.out hG2).at kK.out;have Zd:b2<wr.heap.size:=Nat.lt_of_lt_of_le hG2 HW.out.size;have ai3:(cs y Q).size=n21:=kK.out;have aiW:b<wr.heap.size:=hbr;have FL:Hid (∀W,ah wr.heap.size wr W->(loadCellsFrom ⟨b,o'+k*n21,aj⟩ 0 n21 #[]).run ae W=.ok (cs x P) W/\(loadCellsFrom ⟨b2,o2+k*n21,aj⟩ 0 n21 #[]).run ae W=.ok (cs y Q) W):=U fun W hb=>⟨(Oj.out.on hb hbr).fZ kK.out,(Zf.on hb Zd).fZ kK.out⟩
       have sp1:=abU;have sp2:=abV;have sp3:=abT;have sp4:=abY;have sp5:=MP;have sp6:=abX;have sp7:=anD;have sp8:=anE;have sp9:=anC;have sq7:=anu;have sq8:=anv;have sq9:=ant;clear ld1 oU oV st1 st2 qB;have HSY:=U hsy;have HS:=U (amL HX.out AQ);have HE:=U (aoa HX.out AQ);have HI1:=U (HI.out x HM.out).1;have HI2:=U (HI.out x HM.out).2;clear hcell2 om hcy hsy AQ hy Zf
       go_upto_region 6 with fail
       go_cut [6,7] from 13 to 98 (adZ wr x y P Q)
       case first=>
        go_region_held3 (fun w'=>(loadCellsFrom ⟨b,o'+k*n21,aj⟩ 0 n21 #[]).run ae w'=.ok (cs x P) w'/\(loadCellsFrom ⟨b2,o2+k*n21,aj⟩ 0 n21 #[]).run ae w'=.ok (cs y Q) w') (first|(refine FL.out _ ?_;exact bl;done)|(go_keep;done)) (fail)
        all_goals
         go_wp2_with fail
         go_meet
         first
          | exact⟨_,_,rfl,rfl,(M5 wr x y P Q).1,(M5 wr x y P Q).2,bl⟩
          | exact⟨_,_,rfl,rfl,(M5 wr y x Q P).2,(M5 wr y x Q P).1,bl⟩
       case rest=>
        obtain⟨g1,g2,rfl,rfl,B1,B2,hBc⟩:=hcut
        rename_i wc
        have FX:Hid (∀W,ah wc.heap.size wc W->dB W g1 x P/\dB W g2 y Q):=U fun W hb=>⟨B1.on hb,B2.on hb⟩
        have Ow:Hid (ah w.heap.size w wc):=U (by have h1:=HW.out;exact bl);have uj:Hid (∀W,ah wc.heap.size wc W->uo W x P/\uo W y Q):=U fun W hb=>by
         have hbb:ah w.heap.size w W:=rF Ow.out hb;exact⟨zh.out.on hbb,HSY.out.on hbb⟩
        clear B1 B2 hBc sp1 sp2 sp3 sp4 sp5 sp6 sp7 sp8 sp9 sq7 sq8 sq9 FL hcsz ai3 Oj hbr Zd aiW;have q:=FX.out wc (Below.refl _ _);have c0:=q.1.c0;have c1:=q.1.c1;have c2:=q.1.c2;have c18:=q.1.c18;have c3:=q.1.c3;have c4:=q.1.c4;have c5:=q.1.c5;have c6:=q.1.c6;have d0:=q.2.c0;have d1:=q.2.c1;have d2:=q.2.c2;have d18:=q.2.c18;have d3:=q.2.c3;have d4:=q.2.c4;have d5:=q.2.c5;have d6:=q.2.c6;clear q;by_cases t1:x.o=y.o
        case neg=>
         have u:=(show(x.o==y.o)=false from beq_eq_false_iff_ne.2 t1)
         have v1:(x.o != y.o)=true:=bne_iff_ne.2 t1;have HR:=U (HS.out (MI (by unfold zZ;rw[decide_eq_false t1];simp)));exact Jp
        have u1:(x.o==y.o)=true:=beq_iff_eq.2 t1;have v1:(x.o != y.o)=false:=by rw[t1];simp
        by_cases t2:bs x.nm=bs y.nm
        case neg=>
         have u:=vk t2;have v2:=u;have HR:=U (HS.out (MI (by unfold zZ;rw[decide_eq_false t2];simp)));exact Jp
        have u2:=rH t2;by_cases t3:bs x.f=bs y.f
        case neg=>
         have u:=vk t3;have v3:=u;have HR:=U (HS.out (MI (by unfold zZ;rw[decide_eq_false t3];simp)));exact Jp
        have u3:=rH t3
        cases t4:(x.fl==y.fl) with
        | false=>
         have v4:(x.fl != y.fl)=true:=by unfold bne;rw[t4];rfl
         have HR:=U (HS.out (MI (by unfold zZ;rw[t4];simp)));exact Jp
        | true=>
        have v4:(x.fl != y.fl)=false:=by unfold bne;rw[t4];rfl
        have e:yP x y=(Ex.same x.e y.e&&Ex.same x.g y.g&&Ex.jU x.ar y.ar&&lD x.di y.di&&kr x.bo y.bo&&kr x.el y.el):=by rw[SC];unfold zZ;rw[decide_eq_true t1,decide_eq_true t2,decide_eq_true t3,t4];simp only[Bool.true_and]
        rw[e] at HS HE;have C1:=U (fun W (hb:ah wc.heap.size wc W)=>Ex.Fs x.e y.e P.ep P.em P.ec Q.ep Q.em Q.ec W (uj.out W hb).1.e (uj.out W hb).2.e);have C2:=U (fun W (hb:ah wc.heap.size wc W)=>Ex.Fs x.g y.g P.gp P.gm P.gc Q.gp Q.gm Q.gc W (uj.out W hb).1.g (uj.out W hb).2.g);have C3:=U (fun W (hb:ah wc.heap.size wc W)=>alV x.ar y.ar P.ap P.am P.ac Q.ap Q.am Q.ac W (uj.out W hb).1.ar (uj.out W hb).2.ar);have C4:=U (fun W (hb:ah wc.heap.size wc W)=>alN (uj.out W hb).1 (uj.out W hb).2);have C5:=U (fun W (hb:ah wc.heap.size wc W)=>HI1.out y.bo P.bp P.bm P.bc Q.bp Q.bm Q.bc W (uj.out W hb).1.bo (uj.out W hb).2.bo);have C6:=U (fun W (hb:ah wc.heap.size wc W)=>HI2.out y.el P.lp P.lm P.lc Q.lp Q.lm Q.lc W (uj.out W hb).1.el (uj.out W hb).2.el);obtain⟨b1,hb1⟩:∃v,Ex.same x.e y.e=v:=⟨_,rfl⟩
        rw[hb1] at C1 HS HE;obtain⟨b2,hb2⟩:∃v,Ex.same x.g y.g=v:=⟨_,rfl⟩
        rw[hb2] at C2 HS HE;obtain⟨b3,hb3⟩:∃v,Ex.jU x.ar y.ar=v:=⟨_,rfl⟩
        rw[hb3] at C3 HS HE;obtain⟨b4,hb4⟩:∃v,lD x.di y.di=v:=⟨_,rfl⟩
        rw[hb4] at C4 HS HE;obtain⟨b5,hb5⟩:∃v,kr x.bo y.bo=v:=⟨_,rfl⟩
        rw[hb5] at C5 HS HE;obtain⟨b6,hb6⟩:∃v,kr x.el y.el=v:=⟨_,rfl⟩
        rw[hb6] at C6 HS HE;clear hb1 hb2 hb3 hb4 hb5 hb6 e t1 t2 t3;go_wp2_with fail;clear c0 d0 c1 d1 c2 d2 c18 d18 c3 d3 c4 d4 c5 d5 c6 d6;refine(C1.out _ bl).mono ?_;rintro e w1 ⟨rfl,hw1⟩;have ui:Hid (ah w.heap.size w w1):=U F4
        cases b1 with
        | false=>
         exact F3
        | true=>
        clear ui;have q:=FX.out w1 bl;have c7:=q.1.c7;have d7:=q.2.c7;have c8:=q.1.c8;have d8:=q.2.c8;have c9:=q.1.c9;have d9:=q.2.c9;have c10:=q.1.c10;have d10:=q.2.c10;clear q;go_wp2_with fail;clear c7 d7 c8 d8 c9 d9 c10 d10;refine(C2.out _ bl).mono ?_;rintro e w2 ⟨rfl,hw2⟩;have ui:Hid (ah w.heap.size w w2):=U F4
        cases b2 with
        | false=>
         exact F3
        | true=>
        clear ui;have q:=FX.out w2 bl;have c11:=q.1.c11;have d11:=q.2.c11;clear q;go_wp2_with fail;clear c11 d11;refine(C3.out _ bl).mono ?_;rintro e w3 ⟨rfl,hw3⟩;have ui:Hid (ah w.heap.size w w3):=U F4
        cases b3 with
        | false=>
         exact F3
        | true=>
        clear ui;have q:=FX.out w3 bl;have c12:=q.1.c12;have d12:=q.2.c12;have c13:=q.1.c13;have d13:=q.2.c13;have c14:=q.1.c14;have d14:=q.2.c14;have c15:=q.1.c15;have d15:=q.2.c15;have c16:=q.1.c16;have d16:=q.2.c16;have c17:=q.1.c17;have d17:=q.2.c17;clear q;go_wp2_with fail;clear c12 d12 c13 d13 c14 d14 c15 d15 c16 d16 c17 d17;refine(C4.out _ bl).mono ?_;rintro e w4 ⟨rfl,hw4⟩;have ui:Hid (ah w.heap.size w w4):=U F4
        cases b4 with
        | false=>
         exact F3
        | true=>
        clear ui;have q:=FX.out w4 bl;have c19:=q.1.c19;have d19:=q.2.c19;clear q;go_wp2_with fail;clear c19 d19;refine(C5.out _ bl).mono ?_;rintro e w5 ⟨rfl,vB⟩;have ui:Hid (ah w.heap.size w w5):=U F4
        cases b5 with
        | false=>
         exact F3
        | true=>
        clear ui;have q:=FX.out w5 bl;have c20:=q.1.c20;have d20:=q.2.c20;clear q;go_wp2_with fail;clear c20 d20;refine(C6.out _ bl).mono ?_;rintro e w6 ⟨rfl,hw6⟩;have ui:Hid (ah w.heap.size w w6):=U F4
        cases b6 with
        | false=>
         exact F3
        | true=>
        have HR:=U (HE.out cK HT0.out);go_wp2_with fail;go_roundw
        case rel=>exact⟨k+1,by omega,HR,by go_num,ui⟩
        case measure=>simp[intOf];omega
     · obtain rfl:m=k:=by omega
       have HR:Hid (kr sl l2=true):=U (by
        have h1:=HT0.out;rw[ai x_,ai (by rw[HL2.out];exact Nat.le_refl _)] at h1;rw[h1];exact amK _)
       exact N_
  · rw[amJ NY];have t1:((m:Int)==(m2:Int))=false:=beq_eq_false_iff_ne.2 bT;have t2:((m:Int) != (m2:Int))=true:=bne_iff_ne.2 bT;clear hmm;go_enter func13,ntmps13;exact dX
end Sm
end Go.Proofs.YtkpekhpgdajabaaGreatDoor
