/-
  Parts of this proof: How much is read of statements. How lists of statements among the arguments are . The contracts of checkEach at its types.
-/
import Derived.Test.YthnillhnjhalmaaGreatDoorYTXC
open Go.Proofs.Tryz
open Go.Proofs.Tryz renaming prog->ae
open List renaming getElem?_eq_getElem->af
open Go.Lib renaming hid->U
open Go renaming Value->ag,World->ah,Calls->au,sizeOf->av
open Nat renaming zero_le->ai,lt_or_ge->aj,le_trans->ak
open Go.RowKit renaming Hid->V,Below->ax
set_option linter.unusedVariables false
set_option maxRecDepth 100000
set_option maxHeartbeats 2000000
open Go.Lib (hid)
namespace Go.Proofs.YthnillhnjhalmaaGreatDoor
namespace Ps
open Ps.P (rt fl bd acc see kd)
open Lx (Tk bs)
open Ex (Ex IA)
open Sm (St Dt zE cn eT ord fq Am zB Iy Gp Dh lu)
def ZS (d:Nat) (x:St):Prop:=x.nm.size<=20000/\x.f.size<=20000/\QX x.e d/\QX x.g d/\∀y∈x.ar,QX y d
theorem ZS.le {x:St} {d c:Nat} (h:ZS d x) (hd:d<=c):ZS c x:=⟨h.1,h.2.1,h.2.2.1.le hd,h.2.2.2.1.le hd,fun y hy=>(h.2.2.2.2 y hy).le hd⟩
theorem ZS.szS {x:St} {d:Nat} (h:ZS d x) (hd:d<=1000000):Dh x:=⟨ak h.1 bS,ak h.2.1 bS,⟨h.2.2.1.sz,ak h.2.2.1.1 hd⟩,⟨h.2.2.2.1.sz,ak h.2.2.2.1.1 hd⟩,fun y hy=>⟨(h.2.2.2.2 y hy).sz,ak (h.2.2.2.2 y hy).1 hd⟩⟩
def QS (x:St) (d:Nat):Prop:=cn x<=d/\∀y∈ord x,ZS d y
def nO (l:List St) (d:Nat):Prop:=eT l<=d/\∀y∈fq l,ZS d y
theorem QS.le {x:St} {d c:Nat} (h:QS x d) (hd:d<=c):QS x c:=⟨ak h.1 hd,fun y hy=>(h.2 y hy).le hd⟩
theorem nO.le {l:List St} {d c:Nat} (h:nO l d) (hd:d<=c):nO l c:=⟨ak h.1 hd,fun y hy=>(h.2 y hy).le hd⟩
theorem nO.nil {d:Nat}:nO [] d:=⟨ai _,fun y hy=>by rw[fq] at hy;cases hy⟩
theorem asQ {p:Prop} (h:p:=by omega):p:=h
theorem nO.snoc {l:List St} {x:St} {d c k:Nat} (h:nO l d) (g:QS x c) (hk:d+c<=k):nO (l++[x]) k:=by
 refine⟨?_,fun y hy=>?_⟩
 · have h1:=h.1;have h2:=g.1;rw[Iy];simp only[eT];omega
 · rw[Gp,List.mem_append] at hy;rcases hy with hy|hy
   · exact(h.2 y hy).le asQ
   · simp only[fq,List.append_nil] at hy;exact(g.2 y hy).le asQ
theorem nO.Ck {l:List St} {d:Nat} (h:nO l d) (hd:d<=1000000):lu l:=fun x hx=>(h.2 x hx).szS hd
theorem Gt {o:Int} {nm f:ByteArray} {e g:Ex} {ar:List Ex} {di:Dt} {fl:Bool} {bo el:List St} {d a b:Nat} (h1:nm.size<=20000) (h2:f.size<=20000) (h3:QX e d) (h4:QX g d) (h5:∀y∈ar,QX y d) (h6:nO bo a) (h7:nO el b) (h8:a+b+1<=d):QS (.mk o nm f e g ar di fl bo el) d:=by
 refine⟨?_,fun y hy=>?_⟩
 · have e1:=h6.1;have e2:=h7.1;rw[Am]
   show eT bo+eT el+1<=d
   omega
 · rw[zB,List.mem_cons,List.mem_append] at hy;rcases hy with rfl|hy|hy
   · exact⟨h1,h2,h3,h4,h5⟩
   · exact(h6.2 y hy).le asQ
   · exact(h7.2 y hy).le asQ
theorem zC {d:Nat} (h:1<=d):QX zE d:=Ca (ai _) h
theorem B_ {o:Int} {nm f:ByteArray} {e:Ex} {d:Nat} (h1:nm.size<=20000) (h2:f.size<=20000) (h3:QX e d) (h:1<=d):QS (fJ o nm f e) d:=Gt (a:=0) (b:=0) h1 h2 h3 (zC h) (fun y hy=>by cases hy) .nil .nil asQ
theorem IM {s:ByteArray} (hs:¬bs s=[]):dh (fun x d=>d=2/\x.size<=20000) (zy s):=.bd (lD hs) fun _ a ha=>lT.imp fun x d h=>⟨by omega,h.2⟩
theorem IL (o:Int):dh QS (uu o):=.bd lT fun s a ha=>.bd zk fun e d he=>.rt (B_ ha.2 nW (he.le asQ) asQ)
theorem RG {α:Type} {Q:α->Nat->Prop} {e:P α} (hm:∀x a b,Q x a->a<=b->Q x b) (hp:∀x d,Q x d->1<=d) (h:dh Q e):∀n l k,(∀y∈l,Q y k)->l.length<=k->dh (fun x d=>(∀y∈x,Q y (k+d))/\x.length<=k+d) (xQ e n l)
 | 0,_,_,_,_=>.fl
 | n+1,l,k,hl,hk=>by
  rw[Nl];refine .acc bS (.rt ⟨fun y hy=>hm _ _ _ (hl y hy) asQ,by omega⟩) ?_
  cases l with
  | nil=>
   exact .bd h fun x d hx=>(RG hm hp h n [x] (k+d) (fun y hy=>by rw[List.mem_singleton] at hy;subst hy;exact hm _ _ _ hx asQ) (by have:=hp _ _ hx;simp;omega)).imp fun z c hz=>⟨fun y hy=>hm _ _ _ (hz.1 y hy) asQ,by omega⟩
  | cons y r=>
   exact .bd (lD bS) fun _ a ha=>.bd h fun x d hx=>(RG hm hp h n ((y::r)++[x]) (k+d) (fun z hz=>by
    rcases List.mem_append.1 hz with hz|hz
    · exact hm _ _ _ (hl z hz) asQ
    · rw[List.mem_singleton] at hz;subst hz;exact hm _ _ _ hx asQ) (by have:=hp _ _ hx;simp at hk ⊢; omega)).imp fun z c hz=>⟨fun y hy=>hm _ _ _ (hz.1 y hy) asQ,by omega⟩
theorem YZ {α:Type} {Q:α->Nat->Prop} {e:P α} (hm:∀x a b,Q x a->a<=b->Q x b) (hp:∀x d,Q x d->1<=d) (h:dh Q e):dh (fun x d=>(∀y∈x,Q y d)/\x.length<=d) (BQ e):=
 .bd (lD bS) fun _ a ha=>(RG hm hp h FU [] 0 (fun y hy=>by cases hy) (Nat.le_refl _)).imp fun x d hx=>⟨fun y hy=>hm _ _ _ (hx.1 y hy) asQ,by omega⟩
theorem YR (o:Int) {f:ByteArray} (hf:f.size<=20000):dh QS (Fu o f):=
 .bd lT fun s a ha=>.bd (YZ (Q:=QX) (fun x a b h hb=>h.le hb) (fun x d h=>ak (IA x) h.1) zk) fun l b hl=>.bd (lD bS) fun _ c hc=>.bd zk fun e d he=>
  .rt (Gt (a:=0) (b:=0) ha.2 hf (he.le asQ) (zC asQ) (fun y hy=>(hl.1 y hy).le asQ) .nil .nil asQ)
theorem YT:dh QX cnd:=.bd zk fun e d he=>.bd rG fun _ a ha=>.rt (he.le asQ)
theorem aja:dh (fun _ d=>1<=d) dst:=
 .acc bS (.bd oF fun _ a ha=>.rt asQ) <|
 .acc bS (.bd oF fun _ a ha=>.bd oF fun _ b hb=>.rt asQ) <|
 .acc bS (.bd Zb fun _ a ha=>.rt asQ) <|
 .acc bS (.bd oF fun _ a ha=>.bd oF fun _ b hb=>.bd oF fun _ c hc=>.rt asQ) <|
 .acc bS (.bd oF fun _ a ha=>.bd oF fun _ b hb=>.rt asQ) .fl
theorem QS.up {x:St} {d:Nat} (h:QS x d):QS x (1+d):=h.le asQ
theorem ajk {B:P (List St)} (h:dh nO B):dh QS (stt B):=
 .acc bS (.bd lT fun s a ha=>.bd (lD bS) fun _ b hb=>.bd zk fun e d he=>.rt (B_ ha.2 nW (he.le asQ) asQ)) <|
 .acc bS (.bd lT fun s a ha=>.bd (IM bS) fun f b hb=>.bd aja fun d c hc=>.rt (Gt (a:=0) (b:=0) ha.2 hb.2 (zC asQ) (zC asQ) (fun y hy=>by cases hy) .nil .nil asQ)) <|
 .acc bS (.bd YT fun e a ha=>.bd h fun b c hb=>.bd (.acc (Q:=nO) bS (.bd rG fun _ u hu=>h.imp fun x d hx=>hx.le asQ) (.rt .nil)) fun l d hl=>.bd (lD bS) fun _ k hk=>.rt (Gt (a:=c) (b:=d) nW nW (ha.le asQ) (zC asQ) (fun y hy=>by cases hy) hb hl asQ)) <|
 .acc bS (.bd YT fun e a ha=>.bd h fun b c hb=>.bd (lD bS) fun _ k hk=>.rt (Gt (a:=c) (b:=0) nW nW (ha.le asQ) (zC asQ) (fun y hy=>by cases hy) hb .nil asQ)) <|
 .acc bS (.bd zk fun e d he=>.rt (B_ nW nW (he.le asQ) asQ)) <|
 .acc bS (.bd lT fun s a ha=>.bd zk fun e d he=>.bd (lD bS) fun _ b hb=>.bd zk fun g c hc=>.bd (.acc (Q:=fun(_:Bool) _=>True) bS (.rt trivial) (.rt trivial)) fun z k hz=>.rt (Gt (a:=0) (b:=0) ha.2 nW (he.le asQ) (hc.le asQ) (fun y hy=>by cases hy) .nil .nil asQ)) <|
 .acc bS ((IL 7).imp fun x d hx=>hx.up) <|
 .acc bS (.bd zk fun e d he=>.bd (IM bS) fun s a ha=>.rt (B_ ha.2 nW (he.le asQ) asQ)) <|
 .acc bS (.bd lT fun f a ha=>.bd (IM bS) fun s b hb=>.rt (B_ hb.2 ha.2 (zC asQ) asQ)) <|
 .acc bS (.bd lT fun s a ha=>.rt (B_ ha.2 nW (zC asQ) asQ)) <|
 .acc bS (.bd lT fun s a ha=>.rt (B_ ha.2 nW (zC asQ) asQ)) <|
 .acc bS ((IL 12).imp fun x d hx=>hx.up) <|
 .acc bS (.bd lT fun f a ha=>.bd (lD bS) fun _ b hb=>(YR 13 ha.2).imp fun x d hx=>hx.le asQ) <|
 .acc bS ((YR 14 nW).imp fun x d hx=>hx.up) <|
 .acc bS ((IL 15).imp fun x d hx=>hx.up) <|
 .acc bS ((IL 16).imp fun x d hx=>hx.up) <|
 .acc bS ((IL 17).imp fun x d hx=>hx.up) <|
 .acc bS (.rt (B_ nW nW (zC asQ) asQ)) <|
 .fl
theorem Ze {S:P St} (h:dh QS S):∀n l k,nO l k->dh (fun x d=>nO x (k+d)) (zN S n l)
 | 0,_,_,_=>.fl
 | n+1,l,k,hl=>.see (.rt hl) <| .see (.rt hl) <| .kd (.rt hl) <| .bd h fun x d hx=>.bd rG fun _ a ha=>(Ze h n _ (k+d) (hl.snoc hx (Nat.le_refl _))).imp fun y c hy=>hy.le asQ
theorem YV:∀n,dh nO (fS n)
 | 0=>.fl
 | n+1=>by
  rw[fS];exact(Ze (ajk (YV n)) FU [] 0 .nil).imp fun x d hx=>hx.le asQ
theorem Zf:dh nO Cj:=YV FU
theorem amg {t u:List Tk} {l:List St} (g:Gd t) (hl:t.length<=30000) (h:run JM t=.ok l u):eT l<=30000/\lu l:=by
 unfold JM at h
 cases hm:run Cj t with
 | no v=>rw[eU hm] at h;cases h
 | ok y v=>
  obtain⟨h1,d,h2,h3⟩:=Zf.out g hm;rw[dN hm] at h;have e:l=y:=by
   cases F4:run pz v with
   | no v3=>rw[eU F4] at h;cases h
   | ok y3 v3=>rw[dN F4,jX] at h;cases h;rfl
  subst e;exact⟨by have:=h3.1;omega,h3.Ck asQ⟩
end Ps
namespace Sm
open Go.ChangeShapes Go.WideShapes Go.ChangeAt Go.RowKit Go.Joins Go.Deep
open Ex (Ex)
section
variable {H:Type} {enc:TypeId×ag->H}
def Fits (B:Nat) (x:St):Prop:=x.nm.size<=B/\x.f.size<=B/\(5*Ex.cnt x.e<=B/\∀z∈Ex.pre x.e,z.s.size<=B)/\(5*Ex.cnt x.g<=B/\∀z∈Ex.pre x.g,z.s.size<=B)/\∀u∈x.ar,5*Ex.cnt u<=B/\∀z∈Ex.pre u,z.s.size<=B
theorem Fits.mono {B C:Nat} {x:St} (iE:B<=C) (h:Fits B x):Fits C x:=
 ⟨by have:=h.1;omega,by have:=h.2.1;omega,⟨by have:=h.2.2.1.1;omega,fun z hz=>ak (h.2.2.1.2 z hz) iE⟩,⟨by have:=h.2.2.2.1.1;omega,fun z hz=>ak (h.2.2.2.1.2 z hz) iE⟩,fun u hu=>⟨by have:=(h.2.2.2.2 u hu).1;omega,fun z hz=>ak ((h.2.2.2.2 u hu).2 z hz) iE⟩⟩
end
end Sm
namespace Md
open Go.RowKit
open Ex (Lo)
theorem fC.below {α:Type} {R:Rec α} (hm:fC R) {B:Nat} {w w2:ah} {x:α} {c:Array ag} (hb:ax B w w2) (h:R (Lo B) w x c):R (Lo B) w2 x c:=hm hb.size (fun b g=>fun _=>⟨g,hb.block b g⟩) h
def Does {σ:Type} (Inv:σ->ah->Prop) (r:Int×σ) (e:Ending) (w':ah):Prop:=e=.returned (.int .i64 r.1)/\Inv r.2 w'
structure qy {σ:Type} (w0:ah) (Inv:σ->ah->Prop):Prop where
 below:∀s W,Inv s W->ax w0.heap.size w0 W
 on:∀s W W2,Inv s W->ax W.heap.size W W2->Inv s W2
theorem auw {p:Prop} (h:p:=by
 by_cases hv:v=0
 · have HN:=U (aj6 HX.out HG.out (by rw[HF.out];exact hv));rw[HF.out] at HN;subst hv;go_wp2_with fail;go_roundw
   case rel=>exact⟨k+1,s2,by omega,by go_num,U ⟨HN.out,HI.out⟩⟩
   case measure=>simp[intOf];omega
 · have HN:=U (aj8 HX.out HG.out (by rw[HF.out];exact hv));rw[HF.out] at HN;have hz:(v != 0)=true:=bne_iff_ne.2 hv;go_wp2_with fail;go_ret;exact⟨by rw[HE.out,HN.out];rfl,by rw[HE.out,HN.out];exact HI.out⟩
 ):p:=h
theorem as4 {p:Prop} (h:p:=by
 rintro e w2 ⟨rfl,hI⟩;have HI:=U hI;have HG:=U HS.out.1;obtain⟨r,hr⟩:∃r,f s x=r:=⟨_,rfl⟩
 have HF:=U hr;rw[hr] at HI ⊢;obtain⟨v,s2⟩:=r;clear ld1 pI pJ xM st1 st2 qZ hI hr;exact auw
 ):p:=h
theorem as2 {p:Prop} (h:p:=by
 obtain rfl:m=k:=by omega
 have HT:=U (show dL f l s0=(0,s) by have h1:=HS.out.1;rwa [List.take_of_length_le t_] at h1);go_wp2_with fail;go_ret;exact⟨by rw[HE.out,HT.out];rfl,by rw[HE.out,HT.out];exact HS.out.2⟩
 ):p:=h
theorem as3 {p:Prop} (h:p:=by
 go_wp2_with fail;go_ret;exact⟨by rw[HE.out];rfl,by rw[HE.out];exact h0.out⟩
 ):p:=h
theorem asS {p:Prop} (h:p:=by rw[hz,HC.out]):p:=h
theorem asR {p:Prop} (h:p:=by omega):p:=h
theorem ai2 {σ:Type} {w0:ah} {l:List Val} {p:Option Addr} {m c:Nat} (hl:V (Rw 3 iI (Lo w0.heap.size) w0 l p m)) (bnd cap:Array ag) (Inv:σ->ah->Prop) (F:V (qy w0 Inv)) (f:σ->Val->Int×σ) (most:Nat) (sW:(most:Int)<=1000) (s0:σ)
 (hc:V (∀k s x c W,l[k]?=some x->l.length<=most->dL f (l.take k) s0=(0,s)->iI (Lo w0.heap.size) W x c->Inv s W->au ae 52 (bnd.push (.agg c)++cap) W (Does Inv (f s x))))
 (W:ah) (h0:V (Inv s0 W)):au ae 51 #[.slice p m c,.int .i64 (most:Int),.func (.func 52) bnd cap] W (Does Inv (dB f most l s0)):=by
 obtain⟨hlm,hm⟩:=hl.out.len;have HL:=U hlm;have HM:=U hm;by_cases hlt:most<m
 · have HE:=U (show dB f most l s0=(6,s0) by unfold dB;rw[if_pos asR]);have t1:decide (most<m)=true:=decide_eq_true hlt;clear hlm hm;go_enter func51,ntmps51;exact as3
 have t1:decide (most<m)=false:=decide_eq_false hlt;have t3:(m:Int)<=1000:=by omega
 have HE:=U (show dB f most l s0=dL f l s0 by unfold dB;rw[if_neg asR]);have k_:=U (show l.length<=most by omega);clear hlm hm;obtain⟨kk,hkk⟩:∃n:Nat,3=n:=⟨_,rfl⟩
 have hsz:∀w,(av 103).run ae w=.ok kk w:=fun w=>by rw[sizeOf103,hkk]
 have HKK:=U hkk;clear hkk;go_enter func51,ntmps51;go_wp2_with fail;go_loopw [16] (fun i wr=>∃k:Nat,∃s,k<=m/\i=.int .i64 (k:Nat)/\V (dL f (l.take k) s0=(0,s)/\Inv s wr)) (fun i _=>m-(intOf i).toNat)
 case atStart=>exact⟨0,s0,ai _,rfl,U ⟨rfl,h0.out⟩⟩
 case round=>
  obtain⟨k,s,hk,rfl,HS⟩:=hrel;have k0:(0:Int)<=(k:Int):=by omega
  rcases aj k m with h|h
  · have k1:(k:Int)<(m:Int):=by omega
    have hkl:k<l.length:=by rw[HL.out];exact h
    have HX:=U (af hkl);have hB:=F.out.below _ _ HS.out.2;obtain⟨b,o,rfl,mD,hG,hcell⟩:=(hl.out.below iI.map hB).rows asR;obtain⟨c,hcs,hat,hR⟩:=hcell.out k hkl;have HC:=U hcs;have jB:=U hB.size;have HR:=U hR;have hcsz:c.size=kk:=by rw[HC.out,HKK.out]
    have dR:=hat.at HKK.out;have bt:Big 103 c.size:=by rw[HC.out];exact Xf
    have ld1:=dR.gJ hcsz;have pI:=dR.uM bt;have pJ:=dR.wM bt;have st1:=fun(z:Array ag) (hz:z.size=3)=>yc bt (iI.is hR).2 z asS;have st2:=fun(z:Array ag) (hz:z.size=3)=>yf bt (iI.is hR).2 z asS;have qZ:=fun(z:Array ag) (hz:z.size=3)=>x_ bt (iI.is hR).2 z asS;have xM:=fun W=>run_loadCellsFrom_new (P:=ae) W 103 c kk hcsz;obtain⟨x,hx⟩:∃x,l[k]=x:=⟨_,rfl⟩
    rw[hx] at HX HR;clear hB hcell hcs hat dR bt hR hx hkl;go_wp2_with fail;refine(hc.out k s x c _ HX.out k_.out HS.out.1 (iI.map.below ((show ax wr.heap.size wr _ by exact bl).mono jB.out) HR.out) (F.out.on _ _ _ HS.out.2 bl)).mono ?_;exact as4
  · exact as2
theorem aiY {σ:Type} {w0:ah} {l:List cZ} {p:Option Addr} {m c:Nat} (hl:V (Rw 13 g_ (Lo w0.heap.size) w0 l p m)) (bnd cap:Array ag) (Inv:σ->ah->Prop) (F:V (qy w0 Inv)) (f:σ->cZ->Int×σ) (most:Nat) (sW:(most:Int)<=1000) (s0:σ)
 (hc:V (∀k s x c W,l[k]?=some x->l.length<=most->dL f (l.take k) s0=(0,s)->g_ (Lo w0.heap.size) W x c->Inv s W->au ae 95 (bnd.push (.agg c)++cap) W (Does Inv (f s x))))
 (W:ah) (h0:V (Inv s0 W)):au ae 94 #[.slice p m c,.int .i64 (most:Int),.func (.func 95) bnd cap] W (Does Inv (dB f most l s0)):=by
 obtain⟨hlm,hm⟩:=hl.out.len;have HL:=U hlm;have HM:=U hm;by_cases hlt:most<m
 · have HE:=U (show dB f most l s0=(6,s0) by unfold dB;rw[if_pos asR]);have t1:decide (most<m)=true:=decide_eq_true hlt;clear hlm hm;go_enter func94,ntmps94;exact as3
 have t1:decide (most<m)=false:=decide_eq_false hlt;have t3:(m:Int)<=1000:=by omega
 have HE:=U (show dB f most l s0=dL f l s0 by unfold dB;rw[if_neg asR]);have k_:=U (show l.length<=most by omega);clear hlm hm;obtain⟨kk,hkk⟩:∃n:Nat,13=n:=⟨_,rfl⟩
 have hsz:∀w,(av 50).run ae w=.ok kk w:=fun w=>by rw[sizeOf50,hkk]
 have HKK:=U hkk;clear hkk;go_enter func94,ntmps94;go_wp2_with fail;go_loopw [16] (fun i wr=>∃k:Nat,∃s,k<=m/\i=.int .i64 (k:Nat)/\V (dL f (l.take k) s0=(0,s)/\Inv s wr)) (fun i _=>m-(intOf i).toNat)
 case atStart=>exact⟨0,s0,ai _,rfl,U ⟨rfl,h0.out⟩⟩
 case round=>
  obtain⟨k,s,hk,rfl,HS⟩:=hrel;have k0:(0:Int)<=(k:Int):=by omega
  rcases aj k m with h|h
  · have k1:(k:Int)<(m:Int):=by omega
    have hkl:k<l.length:=by rw[HL.out];exact h
    have HX:=U (af hkl);have hB:=F.out.below _ _ HS.out.2;obtain⟨b,o,rfl,mD,hG,hcell⟩:=(hl.out.below g_.map hB).rows asR;obtain⟨c,hcs,hat,hR⟩:=hcell.out k hkl;have HC:=U hcs;have jB:=U hB.size;have HR:=U hR;have hcsz:c.size=kk:=by rw[HC.out,HKK.out]
    have dR:=hat.at HKK.out;have bt:Big 50 c.size:=by rw[HC.out];exact LM
    have ld1:=dR.gJ hcsz;have pI:=dR.uM bt;have pJ:=dR.wM bt;have st1:=fun(z:Array ag) (hz:z.size=13)=>yc bt (g_.is hR).2 z asS;have st2:=fun(z:Array ag) (hz:z.size=13)=>yf bt (g_.is hR).2 z asS;have qZ:=fun(z:Array ag) (hz:z.size=13)=>x_ bt (g_.is hR).2 z asS;have xM:=fun W=>run_loadCellsFrom_new (P:=ae) W 50 c kk hcsz;obtain⟨x,hx⟩:∃x,l[k]=x:=⟨_,rfl⟩
    rw[hx] at HX HR;clear hB hcell hcs hat dR bt hR hx hkl;go_wp2_with fail;refine(hc.out k s x c _ HX.out k_.out HS.out.1 (g_.map.below ((show ax wr.heap.size wr _ by exact bl).mono jB.out) HR.out) (F.out.on _ _ _ HS.out.2 bl)).mono ?_;exact as4
  · exact as2
theorem aiT {σ:Type} {w0:ah} {l:List iY} {p:Option Addr} {m c:Nat} (hl:V (Rw 3 nP (Lo w0.heap.size) w0 l p m)) (bnd cap:Array ag) (Inv:σ->ah->Prop) (F:V (qy w0 Inv)) (f:σ->iY->Int×σ) (most:Nat) (sW:(most:Int)<=1000) (s0:σ)
 (hc:V (∀k s x c W,l[k]?=some x->l.length<=most->dL f (l.take k) s0=(0,s)->nP (Lo w0.heap.size) W x c->Inv s W->au ae 98 (bnd.push (.agg c)++cap) W (Does Inv (f s x))))
 (W:ah) (h0:V (Inv s0 W)):au ae 97 #[.slice p m c,.int .i64 (most:Int),.func (.func 98) bnd cap] W (Does Inv (dB f most l s0)):=by
 obtain⟨hlm,hm⟩:=hl.out.len;have HL:=U hlm;have HM:=U hm;by_cases hlt:most<m
 · have HE:=U (show dB f most l s0=(6,s0) by unfold dB;rw[if_pos asR]);have t1:decide (most<m)=true:=decide_eq_true hlt;clear hlm hm;go_enter func97,ntmps97;exact as3
 have t1:decide (most<m)=false:=decide_eq_false hlt;have t3:(m:Int)<=1000:=by omega
 have HE:=U (show dB f most l s0=dL f l s0 by unfold dB;rw[if_neg asR]);have k_:=U (show l.length<=most by omega);clear hlm hm;obtain⟨kk,hkk⟩:∃n:Nat,3=n:=⟨_,rfl⟩
 have hsz:∀w,(av 139).run ae w=.ok kk w:=fun w=>by rw[sizeOf139,hkk]
 have HKK:=U hkk;clear hkk;go_enter func97,ntmps97;go_wp2_with fail;go_loopw [16] (fun i wr=>∃k:Nat,∃s,k<=m/\i=.int .i64 (k:Nat)/\V (dL f (l.take k) s0=(0,s)/\Inv s wr)) (fun i _=>m-(intOf i).toNat)
 case atStart=>exact⟨0,s0,ai _,rfl,U ⟨rfl,h0.out⟩⟩
 case round=>
  obtain⟨k,s,hk,rfl,HS⟩:=hrel;have k0:(0:Int)<=(k:Int):=by omega
  rcases aj k m with h|h
  · have k1:(k:Int)<(m:Int):=by omega
    have hkl:k<l.length:=by rw[HL.out];exact h
    have HX:=U (af hkl);have hB:=F.out.below _ _ HS.out.2;obtain⟨b,o,rfl,mD,hG,hcell⟩:=(hl.out.below nP.map hB).rows asR;obtain⟨c,hcs,hat,hR⟩:=hcell.out k hkl;have HC:=U hcs;have jB:=U hB.size;have HR:=U hR;have hcsz:c.size=kk:=by rw[HC.out,HKK.out]
    have dR:=hat.at HKK.out;have bt:Big 139 c.size:=by rw[HC.out];exact agm
    have ld1:=dR.gJ hcsz;have pI:=dR.uM bt;have pJ:=dR.wM bt;have st1:=fun(z:Array ag) (hz:z.size=3)=>yc bt (nP.is hR).2 z asS;have st2:=fun(z:Array ag) (hz:z.size=3)=>yf bt (nP.is hR).2 z asS;have qZ:=fun(z:Array ag) (hz:z.size=3)=>x_ bt (nP.is hR).2 z asS;have xM:=fun W=>run_loadCellsFrom_new (P:=ae) W 139 c kk hcsz;obtain⟨x,hx⟩:∃x,l[k]=x:=⟨_,rfl⟩
    rw[hx] at HX HR;clear hB hcell hcs hat dR bt hR hx hkl;go_wp2_with fail;refine(hc.out k s x c _ HX.out k_.out HS.out.1 (nP.map.below ((show ax wr.heap.size wr _ by exact bl).mono jB.out) HR.out) (F.out.on _ _ _ HS.out.2 bl)).mono ?_;exact as4
  · exact as2
theorem aiV {σ:Type} {w0:ah} {l:List dx} {p:Option Addr} {m c:Nat} (hl:V (Rw 17 je (Lo w0.heap.size) w0 l p m)) (bnd cap:Array ag) (Inv:σ->ah->Prop) (F:V (qy w0 Inv)) (f:σ->dx->Int×σ) (most:Nat) (sW:(most:Int)<=1000) (s0:σ)
 (hc:V (∀k s x c W,l[k]?=some x->l.length<=most->dL f (l.take k) s0=(0,s)->je (Lo w0.heap.size) W x c->Inv s W->au ae 141 (bnd.push (.agg c)++cap) W (Does Inv (f s x))))
 (W:ah) (h0:V (Inv s0 W)):au ae 140 #[.slice p m c,.int .i64 (most:Int),.func (.func 141) bnd cap] W (Does Inv (dB f most l s0)):=by
 obtain⟨hlm,hm⟩:=hl.out.len;have HL:=U hlm;have HM:=U hm;by_cases hlt:most<m
 · have HE:=U (show dB f most l s0=(6,s0) by unfold dB;rw[if_pos asR]);have t1:decide (most<m)=true:=decide_eq_true hlt;clear hlm hm;go_enter func140,ntmps140;exact as3
 have t1:decide (most<m)=false:=decide_eq_false hlt;have t3:(m:Int)<=1000:=by omega
 have HE:=U (show dB f most l s0=dL f l s0 by unfold dB;rw[if_neg asR]);have k_:=U (show l.length<=most by omega);clear hlm hm;obtain⟨kk,hkk⟩:∃n:Nat,17=n:=⟨_,rfl⟩
 have hsz:∀w,(av 194).run ae w=.ok kk w:=fun w=>by rw[sizeOf194,hkk]
 have HKK:=U hkk;clear hkk;go_enter func140,ntmps140;go_wp2_with fail;go_loopw [16] (fun i wr=>∃k:Nat,∃s,k<=m/\i=.int .i64 (k:Nat)/\V (dL f (l.take k) s0=(0,s)/\Inv s wr)) (fun i _=>m-(intOf i).toNat)
 case atStart=>exact⟨0,s0,ai _,rfl,U ⟨rfl,h0.out⟩⟩
 case round=>
  obtain⟨k,s,hk,rfl,HS⟩:=hrel;have k0:(0:Int)<=(k:Int):=by omega
  rcases aj k m with h|h
  · have k1:(k:Int)<(m:Int):=by omega
    have hkl:k<l.length:=by rw[HL.out];exact h
    have HX:=U (af hkl);have hB:=F.out.below _ _ HS.out.2;obtain⟨b,o,rfl,mD,hG,hcell⟩:=(hl.out.below je.map hB).rows asR;obtain⟨c,hcs,hat,hR⟩:=hcell.out k hkl;have HC:=U hcs;have jB:=U hB.size;have HR:=U hR;have hcsz:c.size=kk:=by rw[HC.out,HKK.out]
    have dR:=hat.at HKK.out;have bt:Big 194 c.size:=by rw[HC.out];exact Bz
    have ld1:=dR.gJ hcsz;have pI:=dR.uM bt;have pJ:=dR.wM bt;have st1:=fun(z:Array ag) (hz:z.size=17)=>yc bt (je.is hR).2 z asS;have st2:=fun(z:Array ag) (hz:z.size=17)=>yf bt (je.is hR).2 z asS;have qZ:=fun(z:Array ag) (hz:z.size=17)=>x_ bt (je.is hR).2 z asS;have xM:=fun W=>run_loadCellsFrom_new (P:=ae) W 194 c kk hcsz;obtain⟨x,hx⟩:∃x,l[k]=x:=⟨_,rfl⟩
    rw[hx] at HX HR;clear hB hcell hcs hat dR bt hR hx hkl;go_wp2_with fail;refine(hc.out k s x c _ HX.out k_.out HS.out.1 (je.map.below ((show ax wr.heap.size wr _ by exact bl).mono jB.out) HR.out) (F.out.on _ _ _ HS.out.2 bl)).mono ?_;exact as4
  · exact as2
theorem aiZ {σ:Type} {w0:ah} {l:List ko} {p:Option Addr} {m c:Nat} (hl:V (Rw 3 kG (Lo w0.heap.size) w0 l p m)) (bnd cap:Array ag) (Inv:σ->ah->Prop) (F:V (qy w0 Inv)) (f:σ->ko->Int×σ) (most:Nat) (sW:(most:Int)<=1000) (s0:σ)
 (hc:V (∀k s x c W,l[k]?=some x->l.length<=most->dL f (l.take k) s0=(0,s)->kG (Lo w0.heap.size) W x c->Inv s W->au ae 144 (bnd.push (.agg c)++cap) W (Does Inv (f s x))))
 (W:ah) (h0:V (Inv s0 W)):au ae 143 #[.slice p m c,.int .i64 (most:Int),.func (.func 144) bnd cap] W (Does Inv (dB f most l s0)):=by
 obtain⟨hlm,hm⟩:=hl.out.len;have HL:=U hlm;have HM:=U hm;by_cases hlt:most<m
 · have HE:=U (show dB f most l s0=(6,s0) by unfold dB;rw[if_pos asR]);have t1:decide (most<m)=true:=decide_eq_true hlt;clear hlm hm;go_enter func143,ntmps143;exact as3
 have t1:decide (most<m)=false:=decide_eq_false hlt;have t3:(m:Int)<=1000:=by omega
 have HE:=U (show dB f most l s0=dL f l s0 by unfold dB;rw[if_neg asR]);have k_:=U (show l.length<=most by omega);clear hlm hm;obtain⟨kk,hkk⟩:∃n:Nat,3=n:=⟨_,rfl⟩
 have hsz:∀w,(av 200).run ae w=.ok kk w:=fun w=>by rw[sizeOf200,hkk]
 have HKK:=U hkk;clear hkk;go_enter func143,ntmps143;go_wp2_with fail;go_loopw [16] (fun i wr=>∃k:Nat,∃s,k<=m/\i=.int .i64 (k:Nat)/\V (dL f (l.take k) s0=(0,s)/\Inv s wr)) (fun i _=>m-(intOf i).toNat)
 case atStart=>exact⟨0,s0,ai _,rfl,U ⟨rfl,h0.out⟩⟩
 case round=>
  obtain⟨k,s,hk,rfl,HS⟩:=hrel;have k0:(0:Int)<=(k:Int):=by omega
  rcases aj k m with h|h
  · have k1:(k:Int)<(m:Int):=by omega
    have hkl:k<l.length:=by rw[HL.out];exact h
    have HX:=U (af hkl);have hB:=F.out.below _ _ HS.out.2;obtain⟨b,o,rfl,mD,hG,hcell⟩:=(hl.out.below kG.map hB).rows asR;obtain⟨c,hcs,hat,hR⟩:=hcell.out k hkl;have HC:=U hcs;have jB:=U hB.size;have HR:=U hR;have hcsz:c.size=kk:=by rw[HC.out,HKK.out]
    have dR:=hat.at HKK.out;have bt:Big 200 c.size:=by rw[HC.out];exact Xe
    have ld1:=dR.gJ hcsz;have pI:=dR.uM bt;have pJ:=dR.wM bt;have st1:=fun(z:Array ag) (hz:z.size=3)=>yc bt (kG.is hR).2 z asS;have st2:=fun(z:Array ag) (hz:z.size=3)=>yf bt (kG.is hR).2 z asS;have qZ:=fun(z:Array ag) (hz:z.size=3)=>x_ bt (kG.is hR).2 z asS;have xM:=fun W=>run_loadCellsFrom_new (P:=ae) W 200 c kk hcsz;obtain⟨x,hx⟩:∃x,l[k]=x:=⟨_,rfl⟩
    rw[hx] at HX HR;clear hB hcell hcs hat dR bt hR hx hkl;go_wp2_with fail;refine(hc.out k s x c _ HX.out k_.out HS.out.1 (kG.map.below ((show ax wr.heap.size wr _ by exact bl).mono jB.out) HR.out) (F.out.on _ _ _ HS.out.2 bl)).mono ?_;exact as4
  · exact as2
theorem aiR {σ:Type} {w0:ah} {l:List j_} {p:Option Addr} {m c:Nat} (hl:V (Rw 3 kF (Lo w0.heap.size) w0 l p m)) (bnd cap:Array ag) (Inv:σ->ah->Prop) (F:V (qy w0 Inv)) (f:σ->j_->Int×σ) (most:Nat) (sW:(most:Int)<=1000) (s0:σ)
 (hc:V (∀k s x c W,l[k]?=some x->l.length<=most->dL f (l.take k) s0=(0,s)->kF (Lo w0.heap.size) W x c->Inv s W->au ae 147 (bnd.push (.agg c)++cap) W (Does Inv (f s x))))
 (W:ah) (h0:V (Inv s0 W)):au ae 146 #[.slice p m c,.int .i64 (most:Int),.func (.func 147) bnd cap] W (Does Inv (dB f most l s0)):=by
 obtain⟨hlm,hm⟩:=hl.out.len;have HL:=U hlm;have HM:=U hm;by_cases hlt:most<m
 · have HE:=U (show dB f most l s0=(6,s0) by unfold dB;rw[if_pos asR]);have t1:decide (most<m)=true:=decide_eq_true hlt;clear hlm hm;go_enter func146,ntmps146;exact as3
 have t1:decide (most<m)=false:=decide_eq_false hlt;have t3:(m:Int)<=1000:=by omega
 have HE:=U (show dB f most l s0=dL f l s0 by unfold dB;rw[if_neg asR]);have k_:=U (show l.length<=most by omega);clear hlm hm;obtain⟨kk,hkk⟩:∃n:Nat,3=n:=⟨_,rfl⟩
 have hsz:∀w,(av 204).run ae w=.ok kk w:=fun w=>by rw[sizeOf204,hkk]
 have HKK:=U hkk;clear hkk;go_enter func146,ntmps146;go_wp2_with fail;go_loopw [16] (fun i wr=>∃k:Nat,∃s,k<=m/\i=.int .i64 (k:Nat)/\V (dL f (l.take k) s0=(0,s)/\Inv s wr)) (fun i _=>m-(intOf i).toNat)
 case atStart=>exact⟨0,s0,ai _,rfl,U ⟨rfl,h0.out⟩⟩
 case round=>
  obtain⟨k,s,hk,rfl,HS⟩:=hrel;have k0:(0:Int)<=(k:Int):=by omega
  rcases aj k m with h|h
  · have k1:(k:Int)<(m:Int):=by omega
    have hkl:k<l.length:=by rw[HL.out];exact h
    have HX:=U (af hkl);have hB:=F.out.below _ _ HS.out.2;obtain⟨b,o,rfl,mD,hG,hcell⟩:=(hl.out.below kF.map hB).rows asR;obtain⟨c,hcs,hat,hR⟩:=hcell.out k hkl;have HC:=U hcs;have jB:=U hB.size;have HR:=U hR;have hcsz:c.size=kk:=by rw[HC.out,HKK.out]
    have dR:=hat.at HKK.out;have bt:Big 204 c.size:=by rw[HC.out];exact Xd
    have ld1:=dR.gJ hcsz;have pI:=dR.uM bt;have pJ:=dR.wM bt;have st1:=fun(z:Array ag) (hz:z.size=3)=>yc bt (kF.is hR).2 z asS;have st2:=fun(z:Array ag) (hz:z.size=3)=>yf bt (kF.is hR).2 z asS;have qZ:=fun(z:Array ag) (hz:z.size=3)=>x_ bt (kF.is hR).2 z asS;have xM:=fun W=>run_loadCellsFrom_new (P:=ae) W 204 c kk hcsz;obtain⟨x,hx⟩:∃x,l[k]=x:=⟨_,rfl⟩
    rw[hx] at HX HR;clear hB hcell hcs hat dR bt hR hx hkl;go_wp2_with fail;refine(hc.out k s x c _ HX.out k_.out HS.out.1 (kF.map.below ((show ax wr.heap.size wr _ by exact bl).mono jB.out) HR.out) (F.out.on _ _ _ HS.out.2 bl)).mono ?_;exact as4
  · exact as2
theorem aiW {σ:Type} {w0:ah} {l:List fD} {p:Option Addr} {m c:Nat} (hl:V (Rw 4 il (Lo w0.heap.size) w0 l p m)) (bnd cap:Array ag) (Inv:σ->ah->Prop) (F:V (qy w0 Inv)) (f:σ->fD->Int×σ) (most:Nat) (sW:(most:Int)<=1000) (s0:σ)
 (hc:V (∀k s x c W,l[k]?=some x->l.length<=most->dL f (l.take k) s0=(0,s)->il (Lo w0.heap.size) W x c->Inv s W->au ae 151 (bnd.push (.agg c)++cap) W (Does Inv (f s x))))
 (W:ah) (h0:V (Inv s0 W)):au ae 150 #[.slice p m c,.int .i64 (most:Int),.func (.func 151) bnd cap] W (Does Inv (dB f most l s0)):=by
 obtain⟨hlm,hm⟩:=hl.out.len;have HL:=U hlm;have HM:=U hm;by_cases hlt:most<m
 · have HE:=U (show dB f most l s0=(6,s0) by unfold dB;rw[if_pos asR]);have t1:decide (most<m)=true:=decide_eq_true hlt;clear hlm hm;go_enter func150,ntmps150;exact as3
 have t1:decide (most<m)=false:=decide_eq_false hlt;have t3:(m:Int)<=1000:=by omega
 have HE:=U (show dB f most l s0=dL f l s0 by unfold dB;rw[if_neg asR]);have k_:=U (show l.length<=most by omega);clear hlm hm;obtain⟨kk,hkk⟩:∃n:Nat,4=n:=⟨_,rfl⟩
 have hsz:∀w,(av 210).run ae w=.ok kk w:=fun w=>by rw[sizeOf210,hkk]
 have HKK:=U hkk;clear hkk;go_enter func150,ntmps150;go_wp2_with fail;go_loopw [16] (fun i wr=>∃k:Nat,∃s,k<=m/\i=.int .i64 (k:Nat)/\V (dL f (l.take k) s0=(0,s)/\Inv s wr)) (fun i _=>m-(intOf i).toNat)
 case atStart=>exact⟨0,s0,ai _,rfl,U ⟨rfl,h0.out⟩⟩
 case round=>
  obtain⟨k,s,hk,rfl,HS⟩:=hrel;have k0:(0:Int)<=(k:Int):=by omega
  rcases aj k m with h|h
  · have k1:(k:Int)<(m:Int):=by omega
    have hkl:k<l.length:=by rw[HL.out];exact h
    have HX:=U (af hkl);have hB:=F.out.below _ _ HS.out.2;obtain⟨b,o,rfl,mD,hG,hcell⟩:=(hl.out.below il.map hB).rows asR;obtain⟨c,hcs,hat,hR⟩:=hcell.out k hkl;have HC:=U hcs;have jB:=U hB.size;have HR:=U hR;have hcsz:c.size=kk:=by rw[HC.out,HKK.out]
    have dR:=hat.at HKK.out;have bt:Big 210 c.size:=by rw[HC.out];exact LJ
    have ld1:=dR.gJ hcsz;have pI:=dR.uM bt;have pJ:=dR.wM bt;have st1:=fun(z:Array ag) (hz:z.size=4)=>yc bt (il.is hR).2 z asS;have st2:=fun(z:Array ag) (hz:z.size=4)=>yf bt (il.is hR).2 z asS;have qZ:=fun(z:Array ag) (hz:z.size=4)=>x_ bt (il.is hR).2 z asS;have xM:=fun W=>run_loadCellsFrom_new (P:=ae) W 210 c kk hcsz;obtain⟨x,hx⟩:∃x,l[k]=x:=⟨_,rfl⟩
    rw[hx] at HX HR;clear hB hcell hcs hat dR bt hR hx hkl;go_wp2_with fail;refine(hc.out k s x c _ HX.out k_.out HS.out.1 (il.map.below ((show ax wr.heap.size wr _ by exact bl).mono jB.out) HR.out) (F.out.on _ _ _ HS.out.2 bl)).mono ?_;exact as4
  · exact as2
theorem aiX {σ:Type} {w0:ah} {l:List jf} {p:Option Addr} {m c:Nat} (hl:V (Rw 5 lq (Lo w0.heap.size) w0 l p m)) (bnd cap:Array ag) (Inv:σ->ah->Prop) (F:V (qy w0 Inv)) (f:σ->jf->Int×σ) (most:Nat) (sW:(most:Int)<=1000) (s0:σ)
 (hc:V (∀k s x c W,l[k]?=some x->l.length<=most->dL f (l.take k) s0=(0,s)->lq (Lo w0.heap.size) W x c->Inv s W->au ae 154 (bnd.push (.agg c)++cap) W (Does Inv (f s x))))
 (W:ah) (h0:V (Inv s0 W)):au ae 153 #[.slice p m c,.int .i64 (most:Int),.func (.func 154) bnd cap] W (Does Inv (dB f most l s0)):=by
 obtain⟨hlm,hm⟩:=hl.out.len;have HL:=U hlm;have HM:=U hm;by_cases hlt:most<m
 · have HE:=U (show dB f most l s0=(6,s0) by unfold dB;rw[if_pos asR]);have t1:decide (most<m)=true:=decide_eq_true hlt;clear hlm hm;go_enter func153,ntmps153;exact as3
 have t1:decide (most<m)=false:=decide_eq_false hlt;have t3:(m:Int)<=1000:=by omega
 have HE:=U (show dB f most l s0=dL f l s0 by unfold dB;rw[if_neg asR]);have k_:=U (show l.length<=most by omega);clear hlm hm;obtain⟨kk,hkk⟩:∃n:Nat,5=n:=⟨_,rfl⟩
 have hsz:∀w,(av 214).run ae w=.ok kk w:=fun w=>by rw[sizeOf214,hkk]
 have HKK:=U hkk;clear hkk;go_enter func153,ntmps153;go_wp2_with fail;go_loopw [16] (fun i wr=>∃k:Nat,∃s,k<=m/\i=.int .i64 (k:Nat)/\V (dL f (l.take k) s0=(0,s)/\Inv s wr)) (fun i _=>m-(intOf i).toNat)
 case atStart=>exact⟨0,s0,ai _,rfl,U ⟨rfl,h0.out⟩⟩
 case round=>
  obtain⟨k,s,hk,rfl,HS⟩:=hrel;have k0:(0:Int)<=(k:Int):=by omega
  rcases aj k m with h|h
  · have k1:(k:Int)<(m:Int):=by omega
    have hkl:k<l.length:=by rw[HL.out];exact h
    have HX:=U (af hkl);have hB:=F.out.below _ _ HS.out.2;obtain⟨b,o,rfl,mD,hG,hcell⟩:=(hl.out.below lq.map hB).rows asR;obtain⟨c,hcs,hat,hR⟩:=hcell.out k hkl;have HC:=U hcs;have jB:=U hB.size;have HR:=U hR;have hcsz:c.size=kk:=by rw[HC.out,HKK.out]
    have dR:=hat.at HKK.out;have bt:Big 214 c.size:=by rw[HC.out];exact LK
    have ld1:=dR.gJ hcsz;have pI:=dR.uM bt;have pJ:=dR.wM bt;have st1:=fun(z:Array ag) (hz:z.size=5)=>yc bt (lq.is hR).2 z asS;have st2:=fun(z:Array ag) (hz:z.size=5)=>yf bt (lq.is hR).2 z asS;have qZ:=fun(z:Array ag) (hz:z.size=5)=>x_ bt (lq.is hR).2 z asS;have xM:=fun W=>run_loadCellsFrom_new (P:=ae) W 214 c kk hcsz;obtain⟨x,hx⟩:∃x,l[k]=x:=⟨_,rfl⟩
    rw[hx] at HX HR;clear hB hcell hcs hat dR bt hR hx hkl;go_wp2_with fail;refine(hc.out k s x c _ HX.out k_.out HS.out.1 (lq.map.below ((show ax wr.heap.size wr _ by exact bl).mono jB.out) HR.out) (F.out.on _ _ _ HS.out.2 bl)).mono ?_;exact as4
  · exact as2
theorem aiU {σ:Type} {w0:ah} {l:List Lw} {p:Option Addr} {m c:Nat} (hl:V (Rw 3 lh (Lo w0.heap.size) w0 l p m)) (bnd cap:Array ag) (Inv:σ->ah->Prop) (F:V (qy w0 Inv)) (f:σ->Lw->Int×σ) (most:Nat) (sW:(most:Int)<=1000) (s0:σ)
 (hc:V (∀k s x c W,l[k]?=some x->l.length<=most->dL f (l.take k) s0=(0,s)->lh (Lo w0.heap.size) W x c->Inv s W->au ae 195 (bnd.push (.agg c)++cap) W (Does Inv (f s x))))
 (W:ah) (h0:V (Inv s0 W)):au ae 194 #[.slice p m c,.int .i64 (most:Int),.func (.func 195) bnd cap] W (Does Inv (dB f most l s0)):=by
 obtain⟨hlm,hm⟩:=hl.out.len;have HL:=U hlm;have HM:=U hm;by_cases hlt:most<m
 · have HE:=U (show dB f most l s0=(6,s0) by unfold dB;rw[if_pos asR]);have t1:decide (most<m)=true:=decide_eq_true hlt;clear hlm hm;go_enter func194,ntmps194;exact as3
 have t1:decide (most<m)=false:=decide_eq_false hlt;have t3:(m:Int)<=1000:=by omega
 have HE:=U (show dB f most l s0=dL f l s0 by unfold dB;rw[if_neg asR]);have k_:=U (show l.length<=most by omega);clear hlm hm;obtain⟨kk,hkk⟩:∃n:Nat,3=n:=⟨_,rfl⟩
 have hsz:∀w,(av 233).run ae w=.ok kk w:=fun w=>by rw[sizeOf233,hkk]
 have HKK:=U hkk;clear hkk;go_enter func194,ntmps194;go_wp2_with fail;go_loopw [16] (fun i wr=>∃k:Nat,∃s,k<=m/\i=.int .i64 (k:Nat)/\V (dL f (l.take k) s0=(0,s)/\Inv s wr)) (fun i _=>m-(intOf i).toNat)
 case atStart=>exact⟨0,s0,ai _,rfl,U ⟨rfl,h0.out⟩⟩
 case round=>
  obtain⟨k,s,hk,rfl,HS⟩:=hrel;have k0:(0:Int)<=(k:Int):=by omega
  rcases aj k m with h|h
  · have k1:(k:Int)<(m:Int):=by omega
    have hkl:k<l.length:=by rw[HL.out];exact h
    have HX:=U (af hkl);have hB:=F.out.below _ _ HS.out.2;obtain⟨b,o,rfl,mD,hG,hcell⟩:=(hl.out.below lh.map hB).rows asR;obtain⟨c,hcs,hat,hR⟩:=hcell.out k hkl;have HC:=U hcs;have jB:=U hB.size;have HR:=U hR;have hcsz:c.size=kk:=by rw[HC.out,HKK.out]
    have dR:=hat.at HKK.out;have bt:Big 233 c.size:=by rw[HC.out];exact LH
    have ld1:=dR.gJ hcsz;have pI:=dR.uM bt;have pJ:=dR.wM bt;have st1:=fun(z:Array ag) (hz:z.size=3)=>yc bt (lh.is hR).2 z asS;have st2:=fun(z:Array ag) (hz:z.size=3)=>yf bt (lh.is hR).2 z asS;have qZ:=fun(z:Array ag) (hz:z.size=3)=>x_ bt (lh.is hR).2 z asS;have xM:=fun W=>run_loadCellsFrom_new (P:=ae) W 233 c kk hcsz;obtain⟨x,hx⟩:∃x,l[k]=x:=⟨_,rfl⟩
    rw[hx] at HX HR;clear hB hcell hcs hat dR bt hR hx hkl;go_wp2_with fail;refine(hc.out k s x c _ HX.out k_.out HS.out.1 (lh.map.below ((show ax wr.heap.size wr _ by exact bl).mono jB.out) HR.out) (F.out.on _ _ _ HS.out.2 bl)).mono ?_;exact as4
  · exact as2
theorem ai0 {σ:Type} {w0:ah} {l:List jD} {p:Option Addr} {m c:Nat} (hl:V (Rw 3 jI (Lo w0.heap.size) w0 l p m)) (bnd cap:Array ag) (Inv:σ->ah->Prop) (F:V (qy w0 Inv)) (f:σ->jD->Int×σ) (most:Nat) (sW:(most:Int)<=1000) (s0:σ)
 (hc:V (∀k s x c W,l[k]?=some x->l.length<=most->dL f (l.take k) s0=(0,s)->jI (Lo w0.heap.size) W x c->Inv s W->au ae 225 (bnd.push (.agg c)++cap) W (Does Inv (f s x))))
 (W:ah) (h0:V (Inv s0 W)):au ae 224 #[.slice p m c,.int .i64 (most:Int),.func (.func 225) bnd cap] W (Does Inv (dB f most l s0)):=by
 obtain⟨hlm,hm⟩:=hl.out.len;have HL:=U hlm;have HM:=U hm;by_cases hlt:most<m
 · have HE:=U (show dB f most l s0=(6,s0) by unfold dB;rw[if_pos asR]);have t1:decide (most<m)=true:=decide_eq_true hlt;clear hlm hm;go_enter func224,ntmps224;exact as3
 have t1:decide (most<m)=false:=decide_eq_false hlt;have t3:(m:Int)<=1000:=by omega
 have HE:=U (show dB f most l s0=dL f l s0 by unfold dB;rw[if_neg asR]);have k_:=U (show l.length<=most by omega);clear hlm hm;obtain⟨kk,hkk⟩:∃n:Nat,3=n:=⟨_,rfl⟩
 have hsz:∀w,(av 263).run ae w=.ok kk w:=fun w=>by rw[sizeOf263,hkk]
 have HKK:=U hkk;clear hkk;go_enter func224,ntmps224;go_wp2_with fail;go_loopw [16] (fun i wr=>∃k:Nat,∃s,k<=m/\i=.int .i64 (k:Nat)/\V (dL f (l.take k) s0=(0,s)/\Inv s wr)) (fun i _=>m-(intOf i).toNat)
 case atStart=>exact⟨0,s0,ai _,rfl,U ⟨rfl,h0.out⟩⟩
 case round=>
  obtain⟨k,s,hk,rfl,HS⟩:=hrel;have k0:(0:Int)<=(k:Int):=by omega
  rcases aj k m with h|h
  · have k1:(k:Int)<(m:Int):=by omega
    have hkl:k<l.length:=by rw[HL.out];exact h
    have HX:=U (af hkl);have hB:=F.out.below _ _ HS.out.2;obtain⟨b,o,rfl,mD,hG,hcell⟩:=(hl.out.below jI.map hB).rows asR;obtain⟨c,hcs,hat,hR⟩:=hcell.out k hkl;have HC:=U hcs;have jB:=U hB.size;have HR:=U hR;have hcsz:c.size=kk:=by rw[HC.out,HKK.out]
    have dR:=hat.at HKK.out;have bt:Big 263 c.size:=by rw[HC.out];exact agp
    have ld1:=dR.gJ hcsz;have pI:=dR.uM bt;have pJ:=dR.wM bt;have st1:=fun(z:Array ag) (hz:z.size=3)=>yc bt (jI.is hR).2 z asS;have st2:=fun(z:Array ag) (hz:z.size=3)=>yf bt (jI.is hR).2 z asS;have qZ:=fun(z:Array ag) (hz:z.size=3)=>x_ bt (jI.is hR).2 z asS;have xM:=fun W=>run_loadCellsFrom_new (P:=ae) W 263 c kk hcsz;obtain⟨x,hx⟩:∃x,l[k]=x:=⟨_,rfl⟩
    rw[hx] at HX HR;clear hB hcell hcs hat dR bt hR hx hkl;go_wp2_with fail;refine(hc.out k s x c _ HX.out k_.out HS.out.1 (jI.map.below ((show ax wr.heap.size wr _ by exact bl).mono jB.out) HR.out) (F.out.on _ _ _ HS.out.2 bl)).mono ?_;exact as4
  · exact as2
theorem aiS {σ:Type} {w0:ah} {l:List eZ} {p:Option Addr} {m c:Nat} (hl:V (Rw 2 dI (Lo w0.heap.size) w0 l p m)) (bnd cap:Array ag) (Inv:σ->ah->Prop) (F:V (qy w0 Inv)) (f:σ->eZ->Int×σ) (most:Nat) (sW:(most:Int)<=1000) (s0:σ)
 (hc:V (∀k s x c W,l[k]?=some x->l.length<=most->dL f (l.take k) s0=(0,s)->dI (Lo w0.heap.size) W x c->Inv s W->au ae 192 (bnd.push (.agg c)++cap) W (Does Inv (f s x))))
 (W:ah) (h0:V (Inv s0 W)):au ae 191 #[.slice p m c,.int .i64 (most:Int),.func (.func 192) bnd cap] W (Does Inv (dB f most l s0)):=by
 obtain⟨hlm,hm⟩:=hl.out.len;have HL:=U hlm;have HM:=U hm;by_cases hlt:most<m
 · have HE:=U (show dB f most l s0=(6,s0) by unfold dB;rw[if_pos asR]);have t1:decide (most<m)=true:=decide_eq_true hlt;clear hlm hm;go_enter func191,ntmps191;exact as3
 have t1:decide (most<m)=false:=decide_eq_false hlt;have t3:(m:Int)<=1000:=by omega
 have HE:=U (show dB f most l s0=dL f l s0 by unfold dB;rw[if_neg asR]);have k_:=U (show l.length<=most by omega);clear hlm hm;obtain⟨kk,hkk⟩:∃n:Nat,2=n:=⟨_,rfl⟩
 have hsz:∀w,(av 239).run ae w=.ok kk w:=fun w=>by rw[sizeOf239,hkk]
 have HKK:=U hkk;clear hkk;go_enter func191,ntmps191;go_wp2_with fail;go_loopw [16] (fun i wr=>∃k:Nat,∃s,k<=m/\i=.int .i64 (k:Nat)/\V (dL f (l.take k) s0=(0,s)/\Inv s wr)) (fun i _=>m-(intOf i).toNat)
 case atStart=>exact⟨0,s0,ai _,rfl,U ⟨rfl,h0.out⟩⟩
 case round=>
  obtain⟨k,s,hk,rfl,HS⟩:=hrel;have k0:(0:Int)<=(k:Int):=by omega
  rcases aj k m with h|h
  · have k1:(k:Int)<(m:Int):=by omega
    have hkl:k<l.length:=by rw[HL.out];exact h
    have HX:=U (af hkl);have hB:=F.out.below _ _ HS.out.2;obtain⟨b,o,rfl,mD,hG,hcell⟩:=(hl.out.below dI.map hB).rows asR;obtain⟨c,hcs,hat,hR⟩:=hcell.out k hkl;have HC:=U hcs;have jB:=U hB.size;have HR:=U hR;have hcsz:c.size=kk:=by rw[HC.out,HKK.out]
    have dR:=hat.at HKK.out;have bt:Big 239 c.size:=by rw[HC.out];exact agk
    have ld1:=dR.gJ hcsz;have pI:=dR.uM bt;have pJ:=dR.wM bt;have st1:=fun(z:Array ag) (hz:z.size=2)=>yc bt (dI.is hR).2 z asS;have st2:=fun(z:Array ag) (hz:z.size=2)=>yf bt (dI.is hR).2 z asS;have qZ:=fun(z:Array ag) (hz:z.size=2)=>x_ bt (dI.is hR).2 z asS;have xM:=fun W=>run_loadCellsFrom_new (P:=ae) W 239 c kk hcsz;obtain⟨x,hx⟩:∃x,l[k]=x:=⟨_,rfl⟩
    rw[hx] at HX HR;clear hB hcell hcs hat dR bt hR hx hkl;go_wp2_with fail;refine(hc.out k s x c _ HX.out k_.out HS.out.1 (dI.map.below ((show ax wr.heap.size wr _ by exact bl).mono jB.out) HR.out) (F.out.on _ _ _ HS.out.2 bl)).mono ?_;exact as4
  · exact as2
theorem ai1 {σ:Type} {w0:ah} {l:List ByteArray} {p:Option Addr} {m c:Nat} (hl:V (Rw 1 dZ (Lo w0.heap.size) w0 l p m)) (bnd cap:Array ag) (Inv:σ->ah->Prop) (F:V (qy w0 Inv)) (f:σ->ByteArray->Int×σ) (most:Nat) (sW:(most:Int)<=1000) (s0:σ)
 (hc:V (∀k s x W,l[k]?=some x->l.length<=most->dL f (l.take k) s0=(0,s)->Inv s W->au ae 91 (bnd.push (.string x)++cap) W (Does Inv (f s x))))
 (W:ah) (h0:V (Inv s0 W)):au ae 149 #[.slice p m c,.int .i64 (most:Int),.func (.func 91) bnd cap] W (Does Inv (dB f most l s0)):=by
 obtain⟨hlm,hm⟩:=hl.out.len;have HL:=U hlm;have HM:=U hm;by_cases hlt:most<m
 · have HE:=U (show dB f most l s0=(6,s0) by unfold dB;rw[if_pos asR]);have t1:decide (most<m)=true:=decide_eq_true hlt;clear hlm hm;go_enter func149,ntmps149;exact as3
 have t1:decide (most<m)=false:=decide_eq_false hlt;have t3:(m:Int)<=1000:=by omega
 have HE:=U (show dB f most l s0=dL f l s0 by unfold dB;rw[if_neg asR]);have k_:=U (show l.length<=most by omega);clear hlm hm;go_enter func149,ntmps149;go_wp2_with fail;go_loopw [16] (fun i wr=>∃k:Nat,∃s,k<=m/\i=.int .i64 (k:Nat)/\V (dL f (l.take k) s0=(0,s)/\Inv s wr)) (fun i _=>m-(intOf i).toNat)
 case atStart=>exact⟨0,s0,ai _,rfl,U ⟨rfl,h0.out⟩⟩
 case round=>
  obtain⟨k,s,hk,rfl,HS⟩:=hrel;have k0:(0:Int)<=(k:Int):=by omega
  rcases aj k m with h|h
  · have k1:(k:Int)<(m:Int):=by omega
    have hkl:k<l.length:=by rw[HL.out];exact h
    have HX:=U (af hkl);have hB:=F.out.below _ _ HS.out.2;obtain⟨b,o,rfl,mD,hG,hcell⟩:=(hl.out.below dZ.map hB).rows asR;obtain⟨c,hcs,hat,hR⟩:=hcell.out k hkl;have HC:=U hcs;have jB:=U hB.size;have HR:V (dZ (Lo w0.heap.size) wr l[k] #[.string l[k]]):=U rfl;have e1:w0.heap.size<=w0.heap.size:=Nat.le_refl _;have e0:=hat.get (r:=0) (v:=.string l[k]) (by rw[hR];rfl);rw[show o+k*1+0=o+k by omega] at e0;obtain⟨x,hx⟩:∃x,l[k]=x:=⟨_,rfl⟩
    rw[hx] at HX HR e0;clear hB hcell hcs hat hR hx hkl e1;go_wp2_with fail;refine(hc.out k s x _ HX.out k_.out HS.out.1 (F.out.on _ _ _ HS.out.2 bl)).mono ?_;rintro e w2 ⟨rfl,hI⟩;have HI:=U hI;have HG:=U HS.out.1;obtain⟨r,hr⟩:∃r,f s x=r:=⟨_,rfl⟩
    have HF:=U hr;rw[hr] at HI ⊢;obtain⟨v,s2⟩:=r;clear e0 hI hr;exact auw
  · exact as2
end Md
end Go.Proofs.YthnillhnjhalmaaGreatDoor
