/-
  Parts of this proof: How much is read. How much is read of statements.
-/
import Derived.Test.YtkpekhpgdajabaaGreatDoorYLxFirst
open Nat renaming le_trans->ae,zero_le->af
set_option linter.unusedVariables false
namespace Go.Proofs.YtkpekhpgdajabaaGreatDoor
namespace Ps
open Ps.P (rt fl bd acc see kd kw tk exp len)
open Lx (Tk bs mt)
open Na (gX)
open Ex (Ex cnt gq pre eD GK Sz)
structure cO {α:Type} (Q:α->Nat->Prop) (m:P α):Prop where
 out:∀{t u:List Tk} {x:α},Gd t->run m t=.ok x u->Gd u/\∃d,u.length+d=t.length/\Q x d
section
variable {α β:Type} {Q:α->Nat->Prop} {Q':β->Nat->Prop} {m:P β} {k:β->P α} {A B:P α} {s:ByteArray}
theorem cO.imp {Q2:α->Nat->Prop} {m:P α} (h:cO Q m) (hi:∀x d,Q x d->Q2 x d):cO Q2 m:=⟨fun g e=>by obtain⟨h1,d,h2,h3⟩:=h.out g e;exact⟨h1,d,h2,hi _ _ h3⟩⟩
theorem cO.rt {x:α} (h:Q x 0):cO Q (rt x):=⟨fun g e=>by rw[zW] at e;cases e;exact⟨g,0,rfl,h⟩⟩
theorem cO.fl:cO Q (fl:P α):=⟨fun g e=>by rw[Sq] at e;cases e⟩
theorem cO.bd (h:cO Q' m) (hk:∀x d,Q' x d->cO (fun y c=>Q y (d+c)) (k x)):cO Q (bd m k):=by
 refine⟨fun {t u x} g e=>?_⟩
 cases hm:run m t with
 | ok y v=>
  rw[dK hm] at e;obtain⟨h1,d,h2,h3⟩:=h.out g hm;obtain⟨h4,c,h5,h6⟩:=(hk y d h3).out h1 e;exact⟨h4,d+c,by omega,h6⟩
 | no v=>rw[iq hm] at e;cases e
theorem cO.len {f:Nat->β->α} (h:cO Q' m) (hf:∀n x d,Q' x d->Q (f n x) d):cO Q (len m f):=by
 refine⟨fun {t u x} g e=>?_⟩
 cases hm:run m t with
 | ok y v=>rw[Ij hm] at e;cases e;obtain⟨h1,d,h2,h3⟩:=h.out g hm;exact⟨h1,d,h2,hf _ _ _ h3⟩
 | no v=>rw[LQ hm] at e;cases e
theorem cO.acc (hs:¬bs s=[]) (hA:cO (fun y c=>Q y (1+c)) A) (hB:cO Q B):cO Q (acc s A B):=by
 refine⟨fun {t u x} g e=>?_⟩
 cases hi:is s t with
 | true=>
  rw[nW hi] at e;obtain⟨h3,h4⟩:=EM g hs hi;obtain⟨h5,c,h6,h7⟩:=hA.out h3 e;exact⟨h5,1+c,by omega,h7⟩
 | false=>rw[ek hi] at e;exact hB.out g e
theorem cO.see (hA:cO Q A) (hB:cO Q B):cO Q (see s A B):=by
 exact zzu
theorem cO.kd {j:Int} (hA:cO Q A) (hB:cO Q B):cO Q (kd j A B):=by
 exact adJ
theorem cO.kw (hA:cO Q A) (hB:cO Q B):cO Q (kw A B):=by
 refine⟨fun {t u x} g e=>?_⟩
 cases hi:gX (bs (hd t).t) with
 | true=>rw[Ih hi] at e;exact hA.out g e
 | false=>rw[LM hi] at e;exact hB.out g e
theorem cO.iff {c:Prop} [Decidable c] (hA:cO Q A) (hB:cO Q B):cO Q (if c then A else B):=by split <;> assumption
end
theorem kR {s:ByteArray} (hs:¬bs s=[]):cO (fun _ d=>d=1) (exp s):=by
 refine⟨fun {t u x} g e=>?_⟩
 cases hi:is s t with
 | true=>rw[EF hi] at e;cases e;have:=EM g hs hi;exact⟨this.1,1,by omega,rfl⟩
 | false=>rw[KO hi] at e;cases e
theorem iV {p:Prop} (h:p:=by omega):p:=h
theorem Qj {j:Int} (hj:¬j=0):cO (fun x d=>d=1/\x.1.size<=20000/\0<=x.2/\x.2<=1000000000000) (tk j):=by
 refine⟨fun {t u x} g e=>?_⟩;by_cases hi:(hd t).k=j
 · rw[yT hi] at e;cases e;have:=g.tail iV;exact⟨this.1,1,by omega,rfl,g.wf.2.2.2.1,g.wf.n⟩
 · rw[DJ hi] at e;cases e
theorem og:cO (fun n d=>d=1/\0<=n/\n<=1000000000000) num:=.bd (Qj bR) fun x d h=>.rt ⟨by omega,h.2.2⟩
theorem ll:cO (fun s d=>d=1/\s.size<=20000) fM:=.kw .fl (.bd (Qj bR) fun x d h=>.rt ⟨by omega,h.2.1⟩)
theorem qM:cO (fun _ d=>d=1) fV:=.bd (Qj bR) fun x d h=>.rt iV
theorem Xz:cO (fun n d=>1<=d/\Bn n) yB:=.acc bR (.bd og fun n d h=>.rt ⟨by omega,by unfold Bn;omega⟩) (og.imp fun n d h=>⟨by omega,by unfold Bn;omega⟩)
theorem Qk:cO (fun n d=>1<=d/\(n=0∨n=1)) tV:=.acc bR (.rt ⟨by omega,.inr rfl⟩) (.bd (kR bR) fun _ d h=>.rt ⟨by omega,.inl rfl⟩)
def QX (e:Ex) (d:Nat):Prop:=cnt e<=d/\∀x∈pre e,x.s.size<=20000
theorem Bc {o n:Int} {s:ByteArray} {d:Nat} (hs:s.size<=20000) (hd:1<=d):QX (.mk o s n []) d:=by
 refine⟨by simp only[cnt,gq];omega,fun x hx=>?_⟩;simp only[pre,eD,List.mem_cons,List.not_mem_nil,or_false] at hx;subst hx;exact hs
theorem Sd {o:Int} {x:Ex} {d c:Nat} (h:QX x d) (hd:d+1<=c):QX (jq o x) c:=by
 refine⟨by have:=h.1;unfold jq;simp only[cnt,gq];omega,fun y hy=>?_⟩;unfold jq at hy;simp only[pre,eD,List.mem_cons,List.append_nil] at hy;rcases hy with rfl|hy
 · exact af _
 · exact h.2 y hy
theorem Bd {o:Int} {x y:Ex} {d e c:Nat} (h:QX x d) (g:QX y e) (hd:d+e+1<=c):QX (dZ o x y) c:=by
 refine⟨by have:=h.1;have:=g.1;unfold dZ;simp only[cnt,gq];omega,fun z hz=>?_⟩;unfold dZ at hz;simp only[pre,eD,List.mem_cons,List.append_nil,List.mem_append] at hz;rcases hz with rfl|hz|hz
 · exact af _
 · exact h.2 z hz
 · exact g.2 z hz
theorem QX.le {e:Ex} {d c:Nat} (h:QX e d) (hd:d<=c):QX e c:=⟨ae h.1 hd,h.2⟩
theorem XH {α:Type} {Q:α->Nat->Prop} {A:Int->P α} {B:P α} (hB:cO Q B):∀{os:List (ByteArray×Int)},(∀q∈os,cO (fun y c=>Q y (1+c)) (A q.2))->(∀q∈os,¬bs q.1=[])->cO Q (tJ A B os)
 | [],_,_=>hB
 | q::r,hA,hs=>.acc (hs q (.head _)) (hA q (.head _)) (XH hB (fun p hp=>hA p (.tail _ hp)) fun p hp=>hs p (.tail _ hp))
section
variable {m:P Ex} {os:List (ByteArray×Int)}
theorem Xu (h:cO QX m) (hs:∀q∈os,¬bs q.1=[]):∀n e d,QX e d->cO (fun y c=>QX y (d+c)) (ql m os n e)
 | 0,_,_,_=>.fl
 | n+1,e,d,he=>XH (.rt he) (fun q hq=>.bd h fun y c hy=>(Xu h hs n _ (d+c+1) (Bd he hy iV)).imp fun z b hz=>hz.le iV) hs
theorem KG (h:cO QX m) (hs:∀q∈os,¬bs q.1=[]):cO QX (uH m os):=.bd h fun e d he=>Xu h hs FU e d he
end
section
variable {E F N:P Ex}
theorem XG (h:cO QX E) (o:Int):cO QX (one E o):=.bd (kR bR) fun _ a ha=>.bd h fun x d hx=>.bd (kR bR) fun _ b hb=>.rt (Sd hx iV)
theorem XQ (h:cO QX E) (o:Int):cO QX (two E o):=.bd (kR bR) fun _ a ha=>.bd h fun x d hx=>.bd (kR bR) fun _ b hb=>.bd h fun y e hy=>.bd (kR bR) fun _ c hc=>.rt (Bd hx hy iV)
theorem Qi (o:Int):cO QX (tH o):=.bd (kR bR) fun _ a ha=>.bd ll fun s d hs=>.bd (kR bR) fun _ b hb=>.rt (Bc hs.2 iV)
theorem aly {n:Nat} {e:Ex} {d:Nat} (h:QX e d):QX (neg n e) d:=by
 unfold neg
 split
 · exact Bc (af _) (ae (GK _) h.1)
 · exact h
theorem ahJ (h:cO QX E):cO QX (yA E):=.len (Q':=QX) (.bd (kR bR) fun _ a ha=>.bd h fun x d hx=>.bd (kR bR) fun _ b hb=>.rt (hx.le iV)) fun n x d hx=>aly hx
theorem nK:mt.size<=20000:=af _
theorem ahM (h:cO QX E):cO QX (qw E):=
 .kd (.bd og fun n d hn=>.rt (Bc nK iV)) <|
 .see (.bd Qk fun n d hn=>.rt (Bc nK iV)) <|
 .see (.bd Qk fun n d hn=>.rt (Bc nK iV)) <|
 .acc bR (.rt (Bc nK iV)) <|
 .acc bR ((XG h 7).imp fun x d hx=>hx.le iV) <|
 .acc bR ((XG h 8).imp fun x d hx=>hx.le iV) <|
 .acc bR ((XQ h 20).imp fun x d hx=>hx.le iV) <|
 .acc bR ((XQ h 21).imp fun x d hx=>hx.le iV) <|
 .acc bR ((Qi 22).imp fun x d hx=>hx.le iV) <|
 .acc bR ((Qi 23).imp fun x d hx=>hx.le iV) <|
 .acc bR ((Qi 24).imp fun x d hx=>hx.le iV) <|
 .see (ahJ h) <|
 .bd ll fun s d hs=>.rt (Bc hs.2 iV)
theorem Qg (h:cO QX E) (hF:cO QX F):cO QX (jG E F):=.acc bR (.bd hF fun x d hx=>.rt (Sd hx iV)) (ahM h)
theorem Ck (h:cO QX F):cO QX (sum F):=KG (KG h bR) bR
theorem ahG (h:cO QX F):cO QX (cmp F):=.bd (Ck h) fun x d hx=>
 .acc bR (.bd (Ck h) fun y e hy=>.rt (Bd hx hy iV)) <|
 .acc bR (.bd (Ck h) fun y e hy=>.rt (Bd hx hy iV)) <|
 .acc bR (.bd (Ck h) fun y e hy=>.rt (Bd hx hy iV)) <|
 .acc bR (.bd (Ck h) fun y e hy=>.rt (Bd hx hy iV)) <|
 .acc bR (.bd (Ck h) fun y e hy=>.rt (Bd hy hx iV)) <|
 .acc bR (.bd (Ck h) fun y e hy=>.rt (Bd hy hx iV)) <|
 .rt (hx.le iV)
theorem XF (h:cO QX F) (hN:cO QX N):cO QX (lq F N):=.acc bR (.bd hN fun x d hx=>.rt (Sd hx iV)) (ahG h)
theorem ahH (h:cO QX N):cO QX (oO N):=KG (KG h bR) bR
theorem XD:∀n,cO QX (fF n)/\cO QX (fN n)/\cO QX (fE n)
 | 0=>by rw[fF,fN,fE];exact⟨.fl,.fl,.fl⟩
 | n+1=>by
  obtain⟨h1,h2,h3⟩:=XD n;rw[fF,fN,fE];exact⟨Qg h3 h1,XF (Qg h3 h1) h2,ahH (XF (Qg h3 h1) h2)⟩
end
theorem yx:cO QX ky:=(XD FU).2.2
theorem QX.sz {e:Ex} {d:Nat} (h:QX e d):Sz e:=fun x hx=>ae (h.2 x hx) bR
theorem akH {t u:List Tk} {x:Ex} (g:Gd t) (hl:t.length<=30000) (h:run tF t=.ok x u):cnt x<=30000/\Sz x:=by
 unfold tF at h
 cases hm:run ky t with
 | no v=>rw[iq hm] at h;cases h
 | ok y v=>
  obtain⟨h1,d,h2,h3⟩:=yx.out g hm;rw[dK hm] at h;have e:x=y:=by
   cases hm2:run fV v with
   | no v2=>rw[iq hm2] at h;cases h
   | ok y2 v2=>
    rw[dK hm2] at h
    cases Cu:run qN v2 with
    | no v3=>rw[iq Cu] at h;cases h
    | ok y3 v3=>rw[dK Cu,zW] at h;cases h;rfl
  subst e;exact⟨by have:=h3.1;omega,h3.sz⟩
theorem XI:cO (fun _ d=>3<=d) pr:=.bd og fun a d h=>.bd (kR bR) fun _ c h2=>.bd og fun b e h3=>.rt iV
theorem XJ:∀n l k,l.length<=k->cO (fun x d=>x.length<=k+d) (Fg n l)
 | 0,_,_,_=>.fl
 | n+1,l,k,h=>.kd (.bd XI fun x d hd=>(XJ n (l++[x]) (k+1) za).imp fun y c hy=>by omega) (.rt iV)
theorem XK:cO (fun x d=>x.length<=d) zS:=.bd XI fun x d hd=>(XJ FU [x] 1 cK).imp fun y c hy=>by omega
theorem aa4 {s:ByteArray} {t:List Tk} (g:Gd t) (hl:t.length<=30000) (hi:is s t=true):∀x u,run zS t.tail=.ok x u->x.length<=30000:=fun x u h=>by
 by_cases hk:(hd t).k=0
 · have h1:=g.last hk;have h2:t.tail=[]:=List.length_eq_zero_iff.1 (by rw[List.length_tail];omega);rw[h2] at h
   exact absurd h (by unfold zS pr num; rw [iq]; · intro e; cases e
                      · rfl)
 · obtain⟨h1,h2⟩:=g.tail hk;obtain⟨-,d,h3,h4⟩:=XK.out h1 h;omega
def CQ {α:Type} (e:P α) (n:Nat):List α->P (List α)
 | []=>bd e fun x=>wY e n [x]
 | y::r=>bd (exp ry) fun _=>bd e fun x=>wY e n ((y::r)++[x])
theorem LX {α:Type} (e:P α) (n:Nat) (l:List α):wY e (n+1) l=acc jN (rt l) (CQ e n l):=by cases l <;> rfl
end Ps
namespace Ps
open Ps.P (rt fl bd acc see kd)
open Lx (Tk bs)
open Ex (Ex GK)
open Sm (St Dt zE cn eF ord eU zq yJ GJ Fe BS kP)
def ZS (d:Nat) (x:St):Prop:=x.nm.size<=20000/\x.f.size<=20000/\QX x.e d/\QX x.g d/\∀y∈x.ar,QX y d
theorem ZS.le {x:St} {d c:Nat} (h:ZS d x) (hd:d<=c):ZS c x:=⟨h.1,h.2.1,h.2.2.1.le hd,h.2.2.2.1.le hd,fun y hy=>(h.2.2.2.2 y hy).le hd⟩
theorem ZS.szS {x:St} {d:Nat} (h:ZS d x) (hd:d<=1000000):BS x:=⟨ae h.1 bR,ae h.2.1 bR,⟨h.2.2.1.sz,ae h.2.2.1.1 hd⟩,⟨h.2.2.2.1.sz,ae h.2.2.2.1.1 hd⟩,fun y hy=>⟨(h.2.2.2.2 y hy).sz,ae (h.2.2.2.2 y hy).1 hd⟩⟩
def QS (x:St) (d:Nat):Prop:=cn x<=d/\∀y∈ord x,ZS d y
def nA (l:List St) (d:Nat):Prop:=eF l<=d/\∀y∈eU l,ZS d y
theorem QS.le {x:St} {d c:Nat} (h:QS x d) (hd:d<=c):QS x c:=⟨ae h.1 hd,fun y hy=>(h.2 y hy).le hd⟩
theorem nA.le {l:List St} {d c:Nat} (h:nA l d) (hd:d<=c):nA l c:=⟨ae h.1 hd,fun y hy=>(h.2 y hy).le hd⟩
theorem nA.nil {d:Nat}:nA [] d:=⟨af _,fun y hy=>by rw[eU] at hy;cases hy⟩
theorem dW {p:Prop} (h:p:=by omega):p:=h
theorem nA.snoc {l:List St} {x:St} {d c k:Nat} (h:nA l d) (g:QS x c) (hk:d+c<=k):nA (l++[x]) k:=by
 refine⟨?_,fun y hy=>?_⟩
 · have h1:=h.1;have h2:=g.1;rw[GJ];simp only[eF];omega
 · rw[Fe,List.mem_append] at hy;rcases hy with hy|hy
   · exact(h.2 y hy).le dW
   · simp only[eU,List.append_nil] at hy;exact(g.2 y hy).le dW
theorem nA.Br {l:List St} {d:Nat} (h:nA l d) (hd:d<=1000000):kP l:=fun x hx=>(h.2 x hx).szS hd
theorem Fp {o:Int} {nm f:ByteArray} {e g:Ex} {ar:List Ex} {di:Dt} {fl:Bool} {bo el:List St} {d a b:Nat} (h1:nm.size<=20000) (h2:f.size<=20000) (h3:QX e d) (h4:QX g d) (h5:∀y∈ar,QX y d) (h6:nA bo a) (h7:nA el b) (h8:a+b+1<=d):QS (.mk o nm f e g ar di fl bo el) d:=by
 refine⟨?_,fun y hy=>?_⟩
 · have e1:=h6.1;have e2:=h7.1;rw[zq]
   show eF bo+eF el+1<=d
   omega
 · rw[yJ,List.mem_cons,List.mem_append] at hy;rcases hy with rfl|hy|hy
   · exact⟨h1,h2,h3,h4,h5⟩
   · exact(h6.2 y hy).le dW
   · exact(h7.2 y hy).le dW
theorem yK {d:Nat} (h:1<=d):QX zE d:=Bc (af _) h
theorem Bb {o:Int} {nm f:ByteArray} {e:Ex} {d:Nat} (h1:nm.size<=20000) (h2:f.size<=20000) (h3:QX e d) (h:1<=d):QS (fC o nm f e) d:=Fp (a:=0) (b:=0) h1 h2 h3 (yK h) (fun y hy=>by cases hy) .nil .nil dW
theorem GY {s:ByteArray} (hs:¬bs s=[]):cO (fun x d=>d=2/\x.size<=20000) (yH s):=.bd (kR hs) fun _ a ha=>ll.imp fun x d h=>⟨by omega,h.2⟩
theorem GX (o:Int):cO QS (sJ o):=.bd ll fun s a ha=>.bd yx fun e d he=>.rt (Bb ha.2 nK (he.le dW) dW)
theorem Qh {α:Type} {Q:α->Nat->Prop} {e:P α} (hm:∀x a b,Q x a->a<=b->Q x b) (hp:∀x d,Q x d->1<=d) (h:cO Q e):∀n l k,(∀y∈l,Q y k)->l.length<=k->cO (fun x d=>(∀y∈x,Q y (k+d))/\x.length<=k+d) (wY e n l)
 | 0,_,_,_,_=>.fl
 | n+1,l,k,hl,hk=>by
  rw[LX];refine .acc bR (.rt ⟨fun y hy=>hm _ _ _ (hl y hy) dW,by omega⟩) ?_
  cases l with
  | nil=>
   exact .bd h fun x d hx=>(Qh hm hp h n [x] (k+d) (fun y hy=>by rw[List.mem_singleton] at hy;subst hy;exact hm _ _ _ hx dW) (by have:=hp _ _ hx;simp;omega)).imp fun z c hz=>⟨fun y hy=>hm _ _ _ (hz.1 y hy) dW,by omega⟩
  | cons y r=>
   exact .bd (kR bR) fun _ a ha=>.bd h fun x d hx=>(Qh hm hp h n ((y::r)++[x]) (k+d) (fun z hz=>by
    rcases List.mem_append.1 hz with hz|hz
    · exact hm _ _ _ (hl z hz) dW
    · rw[List.mem_singleton] at hz;subst hz;exact hm _ _ _ hx dW) (by have:=hp _ _ hx;simp at hk ⊢; omega)).imp fun z c hz=>⟨fun y hy=>hm _ _ _ (hz.1 y hy) dW,by omega⟩
theorem XB {α:Type} {Q:α->Nat->Prop} {e:P α} (hm:∀x a b,Q x a->a<=b->Q x b) (hp:∀x d,Q x d->1<=d) (h:cO Q e):cO (fun x d=>(∀y∈x,Q y d)/\x.length<=d) (AZ e):=
 .bd (kR bR) fun _ a ha=>(Qh hm hp h FU [] 0 (fun y hy=>by cases hy) (Nat.le_refl _)).imp fun x d hx=>⟨fun y hy=>hm _ _ _ (hx.1 y hy) dW,by omega⟩
theorem Xt (o:Int) {f:ByteArray} (hf:f.size<=20000):cO QS (Ep o f):=
 .bd ll fun s a ha=>.bd (XB (Q:=QX) (fun x a b h hb=>h.le hb) (fun x d h=>ae (GK x) h.1) yx) fun l b hl=>.bd (kR bR) fun _ c hc=>.bd yx fun e d he=>
  .rt (Fp (a:=0) (b:=0) ha.2 hf (he.le dW) (yK dW) (fun y hy=>(hl.1 y hy).le dW) .nil .nil dW)
theorem Xv:cO QX cnd:=.bd yx fun e d he=>.bd qM fun _ a ha=>.rt (he.le dW)
theorem ahI:cO (fun _ d=>1<=d) dst:=
 .acc bR (.bd og fun _ a ha=>.rt dW) <|
 .acc bR (.bd og fun _ a ha=>.bd og fun _ b hb=>.rt dW) <|
 .acc bR (.bd XK fun _ a ha=>.rt dW) <|
 .acc bR (.bd og fun _ a ha=>.bd og fun _ b hb=>.bd og fun _ c hc=>.rt dW) <|
 .acc bR (.bd og fun _ a ha=>.bd og fun _ b hb=>.rt dW) .fl
theorem QS.up {x:St} {d:Nat} (h:QS x d):QS x (1+d):=h.le dW
theorem ahS {B:P (List St)} (h:cO nA B):cO QS (stt B):=
 .acc bR (.bd ll fun s a ha=>.bd (kR bR) fun _ b hb=>.bd yx fun e d he=>.rt (Bb ha.2 nK (he.le dW) dW)) <|
 .acc bR (.bd ll fun s a ha=>.bd (GY bR) fun f b hb=>.bd ahI fun d c hc=>.rt (Fp (a:=0) (b:=0) ha.2 hb.2 (yK dW) (yK dW) (fun y hy=>by cases hy) .nil .nil dW)) <|
 .acc bR (.bd Xv fun e a ha=>.bd h fun b c hb=>.bd (.acc (Q:=nA) bR (.bd qM fun _ u hu=>h.imp fun x d hx=>hx.le dW) (.rt .nil)) fun l d hl=>.bd (kR bR) fun _ k hk=>.rt (Fp (a:=c) (b:=d) nK nK (ha.le dW) (yK dW) (fun y hy=>by cases hy) hb hl dW)) <|
 .acc bR (.bd Xv fun e a ha=>.bd h fun b c hb=>.bd (kR bR) fun _ k hk=>.rt (Fp (a:=c) (b:=0) nK nK (ha.le dW) (yK dW) (fun y hy=>by cases hy) hb .nil dW)) <|
 .acc bR (.bd yx fun e d he=>.rt (Bb nK nK (he.le dW) dW)) <|
 .acc bR (.bd ll fun s a ha=>.bd yx fun e d he=>.bd (kR bR) fun _ b hb=>.bd yx fun g c hc=>.bd (.acc (Q:=fun(_:Bool) _=>True) bR (.rt trivial) (.rt trivial)) fun z k hz=>.rt (Fp (a:=0) (b:=0) ha.2 nK (he.le dW) (hc.le dW) (fun y hy=>by cases hy) .nil .nil dW)) <|
 .acc bR ((GX 7).imp fun x d hx=>hx.up) <|
 .acc bR (.bd yx fun e d he=>.bd (GY bR) fun s a ha=>.rt (Bb ha.2 nK (he.le dW) dW)) <|
 .acc bR (.bd ll fun f a ha=>.bd (GY bR) fun s b hb=>.rt (Bb hb.2 ha.2 (yK dW) dW)) <|
 .acc bR (.bd ll fun s a ha=>.rt (Bb ha.2 nK (yK dW) dW)) <|
 .acc bR (.bd ll fun s a ha=>.rt (Bb ha.2 nK (yK dW) dW)) <|
 .acc bR ((GX 12).imp fun x d hx=>hx.up) <|
 .acc bR (.bd ll fun f a ha=>.bd (kR bR) fun _ b hb=>(Xt 13 ha.2).imp fun x d hx=>hx.le dW) <|
 .acc bR ((Xt 14 nK).imp fun x d hx=>hx.up) <|
 .acc bR ((GX 15).imp fun x d hx=>hx.up) <|
 .acc bR ((GX 16).imp fun x d hx=>hx.up) <|
 .acc bR ((GX 17).imp fun x d hx=>hx.up) <|
 .acc bR (.rt (Bb nK nK (yK dW) dW)) <|
 .fl
theorem XN {S:P St} (h:cO QS S):∀n l k,nA l k->cO (fun x d=>nA x (k+d)) (yS S n l)
 | 0,_,_,_=>.fl
 | n+1,l,k,hl=>.see (.rt hl) <| .see (.rt hl) <| .kd (.rt hl) <| .bd h fun x d hx=>.bd qM fun _ a ha=>(XN h n _ (k+d) (hl.snoc hx (Nat.le_refl _))).imp fun y c hy=>hy.le dW
theorem Xx:∀n,cO nA (fS n)
 | 0=>.fl
 | n+1=>by
  rw[fS];exact(XN (ahS (Xx n)) FU [] 0 .nil).imp fun x d hx=>hx.le dW
theorem XP:cO nA Bq:=Xx FU
theorem akI {t u:List Tk} {l:List St} (g:Gd t) (hl:t.length<=30000) (h:run Fb t=.ok l u):eF l<=30000/\kP l:=by
 unfold Fb at h
 cases hm:run Bq t with
 | no v=>rw[iq hm] at h;cases h
 | ok y v=>
  obtain⟨h1,d,h2,h3⟩:=XP.out g hm;rw[dK hm] at h;have e:l=y:=by
   cases Cu:run qN v with
   | no v3=>rw[iq Cu] at h;cases h
   | ok y3 v3=>rw[dK Cu,zW] at h;cases h;rfl
  subst e;exact⟨by have:=h3.1;omega,h3.Br dW⟩
end Ps
end Go.Proofs.YtkpekhpgdajabaaGreatDoor
