/-
  Parts of this proof: Mathematics of statements. Mathematics of models. Mathematics of the text of models. Words for worlds and lists of tokens in memory; . The reference's lists of names.
-/
import Derived.Test.YthnillhnjhalmaaGreatDoorYEFrame
open List renaming cons_append->ae,length_append->au
open Go renaming World->af
open Option renaming some->ag,none->ak
open Go.RowKit renaming Below->ah
open Nat renaming le_refl->ai
open Bool renaming and_eq_true->aj
set_option linter.unusedVariables false
set_option maxHeartbeats 4000000
namespace Go.Proofs.YthnillhnjhalmaaGreatDoor
namespace Sm
open Na (bs kH fT)
open Ex (Ex fU take_one)
structure Dt where
 op:Int
 a:Int
 b:Int
 n:Int
 vs:List Int
 ws:List Int
inductive St where
 | mk (o:Int) (nm f:ByteArray) (e g:Ex) (ar:List Ex) (di:Dt) (fl:Bool) (bo el:List St)
def St.o:St->Int
 | .mk o _ _ _ _ _ _ _ _ _=>o
def St.nm:St->ByteArray
 | .mk _ nm _ _ _ _ _ _ _ _=>nm
def St.f:St->ByteArray
 | .mk _ _ f _ _ _ _ _ _ _=>f
def St.e:St->Ex
 | .mk _ _ _ e _ _ _ _ _ _=>e
def St.g:St->Ex
 | .mk _ _ _ _ g _ _ _ _ _=>g
def St.ar:St->List Ex
 | .mk _ _ _ _ _ ar _ _ _ _=>ar
def St.di:St->Dt
 | .mk _ _ _ _ _ _ di _ _ _=>di
def St.fl:St->Bool
 | .mk _ _ _ _ _ _ _ fl _ _=>fl
def St.bo:St->List St
 | .mk _ _ _ _ _ _ _ _ bo _=>bo
def St.el:St->List St
 | .mk _ _ _ _ _ _ _ _ _ el=>el
mutual
def cn:St->Nat
 | .mk _ _ _ _ _ _ _ _ bo el=>eT bo+eT el+1
def eT:List St->Nat
 | []=>0
 | x::t=>cn x+eT t
end
mutual
def dp:St->Nat
 | .mk _ _ _ _ _ _ _ _ bo el=>max (gW bo) (gW el)+1
def gW:List St->Nat
 | []=>0
 | x::t=>max (dp x) (gW t)
end
mutual
def ord:St->List St
 | .mk o nm f e g ar di fl bo el=>.mk o nm f e g ar di fl bo el::(fq bo++fq el)
def fq:List St->List St
 | []=>[]
 | x::t=>ord x++fq t
end
def sz0 (e g:Ex) (ar:List Ex) (di:Dt):Nat:=1+Ex.cnt e+Ex.cnt g+di.vs.length+di.ws.length+Ex.iM ar
mutual
def sz:St->Nat
 | .mk _ _ _ e g ar di _ bo el=>sz0 e g ar di+Ck bo+Ck el
def Ck:List St->Nat
 | []=>0
 | x::t=>sz x+Ck t
end
theorem Am (x:St):cn x=eT x.bo+eT x.el+1:=by obtain⟨o,nm,f,e,g,ar,di,fl,bo,el⟩:=x;rw[cn];rfl
theorem RD (x:St):dp x=max (gW x.bo) (gW x.el)+1:=by obtain⟨o,nm,f,e,g,ar,di,fl,bo,el⟩:=x;rw[dp];rfl
theorem zB (x:St):ord x=x::(fq x.bo++fq x.el):=by obtain⟨o,nm,f,e,g,ar,di,fl,bo,el⟩:=x;rw[ord];rfl
theorem X_ (x:St):1<=cn x:=by rw[Am];omega
theorem aiO (x:St) (t:List St):gW (x::t)=max (dp x) (gW t):=by rw[gW]
theorem Iy:∀a b:List St,eT (a++b)=eT a+eT b
 | [],b=>by simp[eT]
 | x::t,b=>by simp only[ae,eT,Iy t b];omega
theorem YM:∀a b:List St,gW (a++b)=max (gW a) (gW b)
 | [],b=>by simp[gW]
 | x::t,b=>by simp only[ae,gW,YM t b];omega
theorem Gp:∀a b:List St,fq (a++b)=fq a++fq b
 | [],b=>rfl
 | x::t,b=>by simp only[ae,fq,Gp t b,List.append_assoc]
theorem aia {l:List St} {k:Nat} {x:St} (h:l[k]?=ag x):eT (l.take (k+1))=eT (l.take k)+cn x:=by rw[take_one h,Iy];simp[eT]
theorem abP {l:List St} {k:Nat} {x:St} (h:l[k]?=ag x):fq (l.take (k+1))=fq (l.take k)++ord x:=by rw[take_one h,Gp];simp[fq]
theorem ah_ (l:List St) (k:Nat):eT (l.take k)<=eT l:=by
 have:=Iy (l.take k) (l.drop k);rw[List.take_append_drop] at this;omega
theorem aiP (l:List St) (k:Nat):gW (l.take k)<=gW l:=by
 have:=YM (l.take k) (l.drop k);rw[List.take_append_drop] at this;omega
theorem Fz:∀{l:List St} {x:St},x∈l->cn x<=eT l
 | [],x,h=>by cases h
 | y::t,x,h=>by
  unfold eT;rcases List.mem_cons.1 h with rfl|h
  · omega
  · have:=Fz h;omega
theorem NF:∀{l:List St} {x y:St},x∈l->y∈ord x->y∈fq l
 | [],x,y,h,_=>by cases h
 | z::t,x,y,h,g=>by
  unfold fq;rcases List.mem_cons.1 h with rfl|h
  · exact List.mem_append_left _ g
  · exact List.mem_append_right _ (NF h g)
theorem amA (x:St):x∈ord x:=by rw[zB];exact List.mem_cons_self
theorem amt {l:List St} {x:St} (h:x∈l):x∈fq l:=NF h (amA x)
theorem amu {x y:St} (h:y∈fq x.bo):y∈ord x:=by rw[zB];exact List.mem_cons_of_mem _ (List.mem_append_left _ h)
theorem amv {x y:St} (h:y∈fq x.el):y∈ord x:=by rw[zB];exact List.mem_cons_of_mem _ (List.mem_append_right _ h)
theorem St.ind {P:St->Prop} (h:∀x:St,(∀y∈x.bo,P y)->(∀y∈x.el,P y)->P x) (x:St):P x:=by
 have:∀k x,cn x<=k->P x:=by
  intro k
  induction k with
  | zero=>intro x hx;have:=X_ x;omega
  | succ k ih=>
   intro x hx;rw[Am] at hx;exact h x (fun y hy=>ih y (by have:=Fz hy;omega)) (fun y hy=>ih y (by have:=Fz hy;omega))
 exact this _ x (ai _)
theorem TC {Q:List St->Prop} (h:∀sl:List St,(∀x∈sl,Q x.bo/\Q x.el)->Q sl) (sl:List St):Q sl:=by
 have:∀k sl,eT sl<=k->Q sl:=by
  intro k
  induction k with
  | zero=>
   intro sl hs;refine h sl fun x hx=>?_;have:=Fz hx;have:=X_ x;omega
  | succ k ih=>
   intro sl hs;refine h sl fun x hx=>?_;have h1:=Fz hx;rw[Am] at h1;exact⟨ih _ bU,ih _ bU⟩
 exact this _ sl (ai _)
def oH:List St->Nat
 | []=>0
 | x::t=>max (max (gW x.bo) (gW x.el)) (oH t)
theorem RB:∀{l:List St},0<l.length->gW l=oH l+1
 | [x],_=>by simp only[gW,oH,RD];omega
 | x::y::t,_=>by
  have:=RB (l:=y::t) cz;rw[aiO,this,RD,show oH (x::y::t)=max (max (gW x.bo) (gW x.el)) (oH (y::t)) from rfl];omega
theorem aaA:∀a b:List St,oH (a++b)=max (oH a) (oH b)
 | [],b=>by simp[oH]
 | x::t,b=>by simp only[ae,oH,aaA t b];omega
theorem aky {l:List St} {k:Nat} {x:St} (h:l[k]?=ag x):oH (l.take (k+1))=max (oH (l.take k)) (max (gW x.bo) (gW x.el)):=by rw[take_one h,aaA];simp[oH]
theorem aaC:∀l:List St,oH l<=gW l
 | []=>ai _
 | x::t=>by rw[RB cz];omega
theorem ND:∀{l:List St},(∀x∈l,(ord x).length=cn x)->(fq l).length=eT l
 | [],_=>rfl
 | x::t,h=>by rw[fq,eT,au,h x List.mem_cons_self,ND fun y hy=>h y (List.mem_cons_of_mem _ hy)]
theorem amw (x:St):(ord x).length=cn x:=by
 induction x using St.ind with
 | h x h1 h2=>
  rw[zB,Am,List.length_cons,au,ND h1,ND h2]
theorem NC (l:List St):(fq l).length=eT l:=ND fun x _=>amw x
theorem Mx:∀{l:List St},(∀x∈l,dp x<=cn x)->gW l<=eT l
 | [],_=>ai _
 | x::t,h=>by
  have h1:=h x List.mem_cons_self;have h2:=Mx fun y hy=>h y (List.mem_cons_of_mem _ hy);rw[gW,eT];omega
theorem aiQ (x:St):dp x<=cn x:=by
 induction x using St.ind with
 | h x h1 h2=>
  have a:=Mx h1;have b:=Mx h2;rw[RD,Am];omega
theorem Mw (l:List St):gW l<=eT l:=Mx fun x _=>aiQ x
theorem aaB (l:List St) (k:Nat):oH (l.take k)<=eT l:=Nat.le_trans (aaC _) (Nat.le_trans (aiP l k) (Mw l))
def lW (x y:Dt):Bool:=decide (x.op=y.op)&&(decide (x.a=y.a)&&(decide (x.b=y.b)&&(decide (x.n=y.n)&&(decide (x.vs=y.vs)&&decide (x.ws=y.ws)))))
theorem aop {x y:Dt}:lW x y=true↔x=y:=by
 obtain⟨a,b,c,d,e,f⟩:=x;obtain⟨a',b',c',d',e',f'⟩:=y;simp[lW]
def Ba (x y:St):Bool:=decide (x.o=y.o)&&decide (bs x.nm=bs y.nm)&&decide (bs x.f=bs y.f)&&(x.fl==y.fl)&&Ex.same x.e y.e&&Ex.same x.g y.g&&Ex.jY x.ar y.ar&&lW x.di y.di
mutual
def zJ:St->St->Bool
 | .mk o nm f e g ar di fl bo el,y=>Ba (.mk o nm f e g ar di fl bo el) y&&kK bo y.bo&&kK el y.el
def kK:List St->List St->Bool
 | [],[]=>true
 | x::t,y::u=>zJ x y&&kK t u
 | [],_::_=>false
 | _::_,[]=>false
end
theorem Uq (x y:St):zJ x y=(Ba x y&&kK x.bo y.bo&&kK x.el y.el):=by obtain⟨o,nm,f,e,g,ar,di,fl,bo,el⟩:=x;rw[zJ];rfl
theorem aos (x y:St) (t u:List St):kK (x::t) (y::u)=(zJ x y&&kK t u):=by rw[kK]
theorem NY:∀{l m:List St},(∀x∈l,∀y,zJ x y=true↔x=y)->(kK l m=true↔l=m)
 | [],[],_=>by simp[kK]
 | x::t,y::u,h=>by
  rw[aos,aj,h x List.mem_cons_self y,NY fun z hz=>h z (List.mem_cons_of_mem _ hz),List.cons.injEq]
 | [],_::_,_=>by simp[kK]
 | _::_,[],_=>by simp[kK]
theorem Uo (x:St):∀y,zJ x y=true↔x=y:=by
 induction x using St.ind with
 | h x h1 h2=>
  intro y;rw[Uq,aj,aj,NY h1,NY h2];obtain⟨o,nm,f,e,g,ar,di,fl,bo,el⟩:=x;obtain⟨o',nm',f',e',g',Xa,di',fl',QG,el'⟩:=y;simp only[Ba,aj,decide_eq_true_eq,beq_iff_eq,aop,Ex.same_iff];simp only[St.o,St.nm,St.f,St.e,St.g,St.ar,St.di,St.fl,St.bo,St.el,St.mk.injEq];have e1:bs nm=bs nm'↔nm=nm':=⟨kH,fun h=>by rw[h]⟩
  have e2:bs f=bs f'↔f=f':=⟨kH,fun h=>by rw[h]⟩
  have e3:Ex.jY ar Xa=true↔ar=Xa:=⟨Ex.J5,fun h=>by rw[h];exact Ex.J6 _⟩
  rw[e1,e2,e3];constructor
  · rintro⟨⟨⟨⟨⟨⟨⟨⟨⟨q1,q2⟩,q3⟩,q4⟩,q5⟩,q6⟩,q7⟩,q8⟩,q9⟩,wP⟩;exact⟨q1,q2,q3,q5,q6,q7,q8,q4,q9,wP⟩
  · rintro⟨q1,q2,q3,q5,q6,q7,q8,q4,q9,wP⟩;exact⟨⟨⟨⟨⟨⟨⟨⟨⟨q1,q2⟩,q3⟩,q4⟩,q5⟩,q6⟩,q7⟩,q8⟩,q9⟩,wP⟩
theorem Un {l m:List St}:kK l m=true↔l=m:=NY fun x _=>Uo x
theorem aou (l:List St):kK l l=true:=Un.2 rfl
theorem aot {a b:List St} (h:¬a.length=b.length):kK a b=false:=by
 cases g:kK a b with
 | false=>rfl
 | true=>exact absurd (by rw[Un.1 g]) h
theorem aov {l l2:List St} {k:Nat} {x y:St} (hx:l[k]?=ag x) (hy:l2[k]?=ag y) (h:zJ x y=false):kK l l2=false:=by
 cases g:kK l l2 with
 | false=>rfl
 | true=>
  have:=Un.1 g;subst this;rw[hx] at hy;cases hy
  rw[(Uo x x).2 rfl] at h;cases h
theorem apP {l l2:List St} {k:Nat} {x y:St} (hx:l[k]?=ag x) (hy:l2[k]?=ag y) (h:zJ x y=true) (g:l.take k=l2.take k):l.take (k+1)=l2.take (k+1):=by rw[take_one hx,take_one hy,(Uo x y).1 h,g]
def kn (o:Int):Bool:=decide (1<=o)&&decide (o<=18)
def uN (o:Int):Bool:=decide (o=1∨o=2∨o=6∨o=7∨o=8∨o=9∨o=10∨o=11∨o=12∨o=13∨o=14∨o=15∨o=16∨o=17)
def uO (o:Int):Bool:=decide (o=2∨o=9∨o=13)
def uE (o:Int):Bool:=decide (o=1∨o=3∨o=4∨o=5∨o=6∨o=7∨o=8∨o=12∨o=13∨o=14∨o=15∨o=16∨o=17)
def uF (o:Int):Bool:=decide (o=6)
def uA (o:Int):Bool:=decide (o=13∨o=14)
def uD (o:Int):Bool:=decide (o=2)
def uG (o:Int):Bool:=decide (o=6)
def uB (o:Int):Bool:=decide (o=3∨o=4)
def uL (o:Int):Bool:=decide (o=3)
abbrev nE:ByteArray:=⟨#[]⟩
def zE:Ex:=.mk 0 nE 0 []
def zD:Dt:=⟨0,0,0,0,[],[]⟩
def Sg (x:St):Bool:=(uN x.o||decide (bs x.nm=[]))&&(uO x.o||decide (bs x.f=[]))&&(uE x.o||Ex.same x.e zE)&&(uF x.o||Ex.same x.g zE)&&(uA x.o||decide (x.ar.length=0))&&(uD x.o||lW x.di zD)&&(uG x.o || !x.fl)&&(uB x.o||decide (x.bo.length=0))&&(uL x.o||decide (x.el.length=0))
def dQ (a b:Int):Int:=if a=0 then b else a
def onE (u:Bool) (v:Int):Int:=if u then v else 0
def o8:List Ex->Int
 | []=>0
 | x::t=>dQ (fU false x) (o8 t)
def Dj (l:List Ex):Int:=if 6<l.length then 6 else o8 l
def qJ (d:Dt):Int:=Di.DD d.op d.a d.b d.n d.vs.length d.ws.length (fun i=>d.vs.getD i 0) (fun i=>d.ws.getD i 0)
def acr (x:St):Int:=dQ (onE (uN x.o) (fT (bs x.nm))) (dQ (onE (uO x.o) (fT (bs x.f))) (dQ (onE (uE x.o) (fU false x.e)) (dQ (onE (uF x.o) (fU false x.g)) (dQ (onE (uA x.o) (Dj x.ar)) (onE (uD x.o) (qJ x.di))))))
def Eg (x:St):Int:=if kn x.o&&Sg x then acr x else 1
def o_:List St->Int
 | []=>0
 | x::t=>dQ (Eg x) (o_ t)
theorem tF {a b:Int} (h:¬a=0):dQ a b=a:=if_neg h
theorem kV {b:Int}:dQ 0 b=b:=if_pos rfl
theorem tH (a:Int):dQ a 0=a:=by unfold dQ;split <;> simp_all
theorem BX (a b c:Int):dQ (dQ a b) c=dQ a (dQ b c):=by unfold dQ;split <;> simp_all
theorem QA:∀a b:List Ex,o8 (a++b)=dQ (o8 a) (o8 b)
 | [],b=>kV.symm
 | x::t,b=>by rw[ae,o8,o8,QA t b,BX]
theorem Xg {l:List Ex} {k:Nat} {x:Ex} (h:l[k]?=ag x):o8 (l.take (k+1))=dQ (o8 (l.take k)) (fU false x):=by rw[take_one h,QA];simp[o8,tH]
theorem agq {l:List Ex} {k:Nat} {x:Ex} (h:l[k]?=ag x) (h0:o8 (l.take k)=0) (h1:¬fU false x=0):o8 l=fU false x:=by
 have h2:=QA (l.take (k+1)) (l.drop (k+1));rw[List.take_append_drop,Xg h,h0,kV,tF h1] at h2;exact h2
theorem QB:∀a b:List St,o_ (a++b)=dQ (o_ a) (o_ b)
 | [],b=>kV.symm
 | x::t,b=>by rw[ae,o_,o_,QB t b,BX]
theorem agr {l:List St} {x:St} (h:o_ l=0):o_ (l++[x])=Eg x:=by rw[QB,h,kV,o_,o_,tH]
def kT (l:List St):Int:=if 200<eT l then 6 else if 12<gW l then 11 else o_ (fq l)
end Sm
namespace Md
open Na (bs kH fT fst MV)
open Sm (St Dt lW kT qJ dQ tF kV zD nE)
instance aqn:DecidableEq ByteArray:=fun a b=>if h:bs a=bs b then isTrue (kH h) else isFalse (fun e=>h (by rw[e]))
structure Val where
 nm:ByteArray
 ty:Int
 n:Int
structure dV where
 t:Int
 u:Int
structure dx where
 nm:ByteArray
 un:Int
 sh:List dV
 cy:Int
 fs:ByteArray
 up:Dt
 dn:Dt
structure ko where
 nm:ByteArray
 rm:Int
 po:Int
structure j_ where
 nm:ByteArray
 ln:Int
 sp:Int
structure eZ where
 nm:ByteArray
 ty:Int
structure fD where
 nm:ByteArray
 ps:List eZ
 ls:List eZ
 bo:List St
structure jf where
 ro:ByteArray
 ar:List Int
 a:Int
 e:Int
 u:Int
structure jD where
 co:Int
 wh:ByteArray
 nm:ByteArray
structure Lw where
 nm:ByteArray
 ts:List jD
 tt:Int
structure iY where
 fr:ByteArray
 tt:ByteArray
 de:Int
structure cZ where
 nm:ByteArray
 va:List Val
 rs:List dx
 st:List ko
 be:List j_
 qu:List ByteArray
 sm:List ByteArray
 ta:List ByteArray
 le:List ByteArray
 co:List ByteArray
 ro:List fD
 ss:List jf
 la:List Lw
structure dM where
 nm:ByteArray
 pa:List Val
 si:List cZ
 li:List iY
theorem ZW (x s:ByteArray) (t:List ByteArray):fst (x::t) s=if bs x=bs s then 0 else if fst t s = -1 then -1 else fst t s+1:=rfl
theorem ZZ {s:ByteArray}:∀{l:List ByteArray},0<=fst l s↔s∈l
 | []=>by
  have:fst [] s = -1:=rfl;rw[this];constructor
  · intro h;omega
  · intro h;cases h
 | x::t=>by
  have ih:=ZZ (s:=s) (l:=t);have h0:=MV s t;rw[ZW,List.mem_cons];by_cases h:bs x=bs s
  · rw[if_pos h];exact⟨fun _=>.inl (kH h).symm,fun _=>Int.le_refl _⟩
  · rw[if_neg h];have hne:¬s=x:=fun e=>h (by rw[e]);constructor
    · intro g
      split at g
      · omega
      · exact .inr (ih.1 bU)
    · rintro(g|g)
      · exact absurd g hne
      · have:=ih.2 g
        split <;> omega
instance aqu (x:ByteArray) (l:List ByteArray):Decidable (x∈l):=decidable_of_iff _ ZZ
def jE (acc:List ByteArray) (x:ByteArray):Int:=dQ (fT (bs x)) (if x∈acc then 4 else 0)
def eP (acc:List ByteArray) (p:ByteArray×Int):Int×List ByteArray:=(dQ (jE acc p.1) p.2,if jE acc p.1=0 then acc++[p.1] else acc)
def dL {α σ:Type} (f:σ->α->Int×σ):List α->σ->Int×σ
 | [],s=>(0,s)
 | x::t,s=>if (f s x).1=0 then dL f t (f s x).2 else f s x
def dB {α σ:Type} (f:σ->α->Int×σ) (most:Nat) (l:List α) (s:σ):Int×σ:=if most<l.length then (6,s) else dL f l s
theorem Sq {α σ:Type} {f:σ->α->Int×σ}:∀{a b:List α} {s:σ},dL f (a++b) s=if (dL f a s).1=0 then dL f b (dL f a s).2 else dL f a s
 | [],b,s=>by simp[dL]
 | x::t,b,s=>by
  rw[ae,dL,dL,Sq];by_cases h:(f s x).1=0
  · rw[if_pos h,if_pos h]
  · rw[if_neg h,if_neg h,if_neg h]
theorem aj7 {α σ:Type} {f:σ->α->Int×σ} {x:α} {s:σ}:dL f [x] s=f s x:=by
 rw[dL];by_cases h:(f s x).1=0
 · rw[if_pos h,dL];exact Prod.ext h.symm rfl
 · rw[if_neg h]
theorem aah {α σ:Type} {f:σ->α->Int×σ} {l:List α} {k:Nat} {x:α} {s r:σ} (hx:l[k]?=ag x) (h:dL f (l.take k) s=(0,r)):dL f (l.take (k+1)) s=f r x:=by
 rw[Ex.take_one hx,Sq,h,aj7];rfl
theorem aj8 {α σ:Type} {f:σ->α->Int×σ} {l:List α} {k:Nat} {x:α} {s r:σ} (hx:l[k]?=ag x) (h:dL f (l.take k) s=(0,r)) (h1:¬(f r x).1=0):dL f l s=f r x:=by
 have h2:=Sq (f:=f) (a:=l.take (k+1)) (b:=l.drop (k+1)) (s:=s);rw[List.take_append_drop,aah hx h,if_neg h1] at h2;exact h2
theorem aj6 {α σ:Type} {f:σ->α->Int×σ} {l:List α} {k:Nat} {x:α} {s r:σ} (hx:l[k]?=ag x) (h:dL f (l.take k) s=(0,r)) (h1:(f r x).1=0):dL f (l.take (k+1)) s=(0,(f r x).2):=by
 rw[aah hx h];exact Prod.ext h1 rfl
theorem aaf {α β σ:Type} {f:σ->β->Int×σ} {g:α->β}:∀{l:List α} {s:σ},dL f (l.map g) s=dL (fun s x=>f s (g x)) l s
 | [],s=>rfl
 | x::t,s=>by rw[List.map_cons,dL,dL,aaf]
theorem oD {α β σ:Type} {f:σ->β->Int×σ} {g:α->β} {most:Nat} {l:List α} {s:σ}:dB f most (l.map g) s=dB (fun s x=>f s (g x)) most l s:=by
 unfold dB;rw[List.length_map,aaf]
def FT {α:Type} (f:α->Int):List α->Int
 | []=>0
 | x::t=>dQ (f x) (FT f t)
def BR {α:Type} (f:α->Int) (most:Nat) (l:List α):Int:=if most<l.length then 6 else FT f l
theorem aag {α:Type} {f:α->Int}:∀{l:List α},dL (fun(_:Unit) x=>(f x,())) l ()=(FT f l,())
 | []=>rfl
 | x::t=>by
  rw[dL,FT,aag];by_cases h:f x=0
  · rw[if_pos h,h,kV]
  · rw[if_neg h,tF h]
theorem YP {α:Type} {f:α->Int} {most:Nat} {l:List α}:dB (fun(_:Unit) x=>(f x,())) most l ()=(BR f most l,()):=by
 unfold dB BR;by_cases h:most<l.length
 · rw[if_pos h,if_pos h]
 · rw[if_neg h,if_neg h,aag]
def iL (lo n hi:Int):Bool:=decide (lo<=n)&&decide (n<=hi)
def typ (t:Int):Bool:=decide (t=1)||decide (t=2)||decide (t=3)
def fits (t n:Int):Bool:=if t=1 then iL (-1000000000000) n 1000000000000 else if t=2 then iL 0 n 1 else if t=3 then iL 0 n 1000000000 else false
def sZ (n:Int):Bool:=iL 0 n 1000000000
def Jg (n:Int):Bool:=iL 0 n 1000
def EL (v:Val):Int:=if typ v.ty then (if fits v.ty v.n then 0 else 2) else 1
def FR (f:eZ):Int:=if typ f.ty then 0 else 1
def vP (cy:Int) (prev:Option dV) (c:dV):Int:=
 if iL 0 c.t (cy-1)&&Jg c.u then (match prev with|none=>0|some d=>if c.t<=d.t then 12 else 0) else 2
def mr (cy:Int):Option dV->List dV->Int
 | _,[]=>0
 | p,c::t=>dQ (vP cy p c) (mr cy (ag c) t)
def uT (l:List dV) (cy:Int):Int:=
 if l.length=0 then (if cy=0 then 0 else 1) else if 20<l.length then 6 else if iL 1 cy 1000000000 then mr cy ak l else 2
def Av (r:dx) (sm:List ByteArray):Int:=
 if bs r.fs=[] then (if lW r.up zD&&lW r.dn zD then 0 else 1) else if fst sm r.fs<0 then 5 else dQ (qJ r.up) (qJ r.dn)
def Er (sm:List ByteArray) (r:dx):Int:=if Jg r.un then dQ (uT r.sh r.cy) (Av r sm) else 2
def Bb (d:ko):Int:=if iL 1 d.rm 1000 then (if iL 1 d.po 3 then 0 else 1) else 2
def Aj (b:j_):Int:=if iL 1 b.ln 1000&&iL 1 b.sp 1000 then 0 else 2
def IW (f:eZ):ByteArray×Int:=(f.nm,FR f)
def Et (r:fD):Int:=if 6<r.ps.length then 6 else dQ (dB (fun a f=>eP a (IW f)) 16 (r.ps++r.ls) []).1 (kT r.bo)
def EK (v:Val):ByteArray×Int:=(v.nm,EL v)
def JW (sm:List ByteArray) (r:dx):ByteArray×Int:=(r.nm,Er sm r)
def Kj (d:ko):ByteArray×Int:=(d.nm,Bb d)
def Ip (b:j_):ByteArray×Int:=(b.nm,Aj b)
def p_ (x:ByteArray):ByteArray×Int:=(x,0)
def JX (r:fD):ByteArray×Int:=(r.nm,Et r)
def kinds (s:cZ):List (Nat×List (ByteArray×Int)):=[(32,s.va.map EK),(32,s.rs.map (JW s.sm)),(32,s.st.map Kj),(32,s.be.map Ip),(32,s.qu.map p_),(32,s.sm.map p_),(32,s.ta.map p_),(32,s.le.map p_),(32,s.co.map p_),(16,s.ro.map JX)]
def UN:List (Nat×List (ByteArray×Int))->List ByteArray->List Int
 | [],_=>[]
 | k::t,acc=>(dB eP k.1 k.2 acc).1::UN t (dB eP k.1 k.2 acc).2
def idE (x:Int):Int:=x
def pF:List eZ->List Int->Bool
 | p::t,n::u=>fits p.ty n&&pF t u
 | _,_=>true
def wQ (ro:List fD) (x:ByteArray):Int:=fst (ro.map (·.nm)) x
def yA (ro:List fD) (d:jf):Int:=
 match (if wQ ro d.ro<0 then ak else ro[(wQ ro d.ro).toNat]?) with
 | none=>5
 | some r=>if d.ar.length=r.ps.length then (if pF r.ps d.ar then (if sZ d.a&&sZ d.e&&sZ d.u && !(decide (d.e=0) && !decide (d.u=0)) then 0 else 2) else 2) else 8
def names (s:cZ):List (List ByteArray):=[s.va.map (·.nm),s.rs.map (·.nm),s.st.map (·.nm),s.be.map (·.nm),s.qu,s.sm,s.ta,s.le,s.co,s.ro.map (·.nm)]
abbrev mR:ByteArray:=⟨#[118,97,114]⟩
abbrev mO:ByteArray:=⟨#[114,101,115,111,117,114,99,101]⟩
abbrev lZ:ByteArray:=⟨#[115,116,111,114,101]⟩
abbrev mJ:ByteArray:=⟨#[98,101,108,116]⟩
abbrev mM:ByteArray:=⟨#[113,117,101,117,101]⟩
abbrev mP:ByteArray:=⟨#[115,116,114,101,97,109]⟩
abbrev mQ:ByteArray:=⟨#[116,97,108,108,121]⟩
abbrev mK:ByteArray:=⟨#[108,101,118,101,108]⟩
abbrev lX:ByteArray:=⟨#[99,111,117,110,116]⟩
abbrev lY:ByteArray:=⟨#[114,111,117,116,105,110,101]⟩
def words:List ByteArray:=[mR,mO,lZ,mJ,mM,mP,mQ,mK,lX,lY]
def JR:List ByteArray->List (List ByteArray)->ByteArray->ByteArray×Int
 | w::t,l::u,x=>if 0<=fst l x then (w,fst l x) else JR t u x
 | _,_,_=>(nE,-1)
def AF (s:cZ) (x:ByteArray):ByteArray:=(JR words (names s) x).1
def Je (s:cZ) (x:ByteArray):Int:=(JR words (names s) x).2
abbrev UD:ByteArray:=⟨#[99,114,101,97,116,101,100]⟩
abbrev UF:ByteArray:=⟨#[101,110,100,101,100]⟩
abbrev UH:ByteArray:=⟨#[105,110,115,105,100,101]⟩
abbrev UJ:ByteArray:=⟨#[115,116,111,114,101,100]⟩
abbrev UG:ByteArray:=⟨#[101,110,116,101,114,101,100]⟩
abbrev UI:ByteArray:=⟨#[108,101,102,116]⟩
abbrev UE:ByteArray:=⟨#[99,111,117,110,116,101,100]⟩
def FB (w:ByteArray):ByteArray:=if w=UD∨w=UF∨w=UH then lY else if w=UJ∨w=UG∨w=UI then lZ else if w=UE then lX else nE
def tQ (s:cZ) (t:jD):Int:=if FB t.wh=nE then 1 else if AF s t.nm=FB t.wh then (if t.co=0 then 2 else if iL (-1000) t.co 1000 then 0 else 2) else 5
def zq (s:cZ) (l:Lw):Int:=if l.ts.length=0 then 7 else dQ (BR (tQ s) 8 l.ts) (if iL (-1000000000000) l.tt 1000000000000 then 0 else 2)
def abr (s:cZ) (l:Lw):ByteArray×Int:=(l.nm,zq s l)
def Gf (s:cZ):Int:=(dB eP 32 (s.la.map (abr s)) []).1
def Gy (s:cZ):Int:=dQ (FT idE (UN (kinds s) [])) (dQ (BR (yA s.ro) 32 s.ss) (Gf s))
def Ka (s:cZ):ByteArray×Int:=(s.nm,Gy s)
def pR (si:List cZ) (x:ByteArray):Int:=fst (si.map (·.nm)) x
def D_ (si:List cZ) (l:iY):Int:=if pR si l.fr<0∨pR si l.tt<0 then 5 else if l.fr=l.tt then 1 else if iL 1 l.de 1000000000 then 0 else 2
def BP (l:iY):List UInt8×List UInt8:=(bs l.fr,bs l.tt)
def pW (si:List cZ) (acc:List (List UInt8×List UInt8)) (l:iY):Int×List (List UInt8×List UInt8):=
 if D_ si l=0 then (if BP l∈acc then (4,acc) else (0,acc++[BP l])) else (D_ si l,acc)
def JF (m:dM):Int:=(dB (pW m.si) 32 m.li []).1
def ac2 (m:dM):Int:=if m.si.length=0 then 7 else (dB eP 16 (m.si.map Ka) []).1
def abT (m:dM):Int:=(dB eP 32 (m.pa.map EK) []).1
def AJ (m:dM):Int:=dQ (fT (bs m.nm)) (dQ (abT m) (dQ (ac2 m) (JF m)))
def gP (x y:ByteArray):Bool:=decide (bs x=bs y)
def IZ (x y:dx):Bool:=gP x.fs y.fs&&lW x.up y.up&&lW x.dn y.dn
end Md
namespace Ps
open Lx (Tk bs mt)
open Na (iP)
open Ex (Ex)
open Sm (St Dt zE zD)
open Md (Val dV dx ko j_ eZ fD jf jD Lw iY cZ dM)
inductive R (α:Type) where
 | ok (x:α) (u:List Tk)
 | no (u:List Tk)
def hd (t:List Tk):Tk:=t.headD ⟨0,mt,0,0⟩
def is (s:ByteArray) (t:List Tk):Bool:=decide (bs (hd t).t=bs s)
inductive P:Type->Type 1 where
 | rt {α:Type} (x:α):P α
 | fl {α:Type}:P α
 | bd {α β:Type} (m:P α) (k:α->P β):P β
 | acc {α:Type} (s:ByteArray) (A B:P α):P α
 | see {α:Type} (s:ByteArray) (A B:P α):P α
 | kd {α:Type} (k:Int) (A B:P α):P α
 | kw {α:Type} (A B:P α):P α
 | tk (k:Int):P (ByteArray×Int)
 | exp (s:ByteArray):P Unit
 | len {α β:Type} (m:P α) (f:Nat->α->β):P β
open Ps.P (rt fl bd acc see kd kw tk exp len)
def run {α:Type}:P α->List Tk->R α
 | .rt x,t=>.ok x t
 | .fl,t=>.no t
 | .bd m k,t=>match run m t with
  | .ok x u=>run (k x) u
  | .no u=>.no u
 | .acc s A B,t=>if is s t=true then run A t.tail else run B t
 | .see s A B,t=>if is s t=true then run A t else run B t
 | .kd k A B,t=>if (hd t).k=k then run A t else run B t
 | .kw A B,t=>if iP (bs (hd t).t)=true then run A t else run B t
 | .tk k,t=>if (hd t).k=k then .ok ((hd t).t,(hd t).n) t.tail else .no t
 | .exp s,t=>if is s t=true then .ok () t.tail else .no t
 | .len m f,t=>match run m t with
  | .ok x u=>.ok (f (t.length-u.length) x) u
  | .no u=>.no u
section
variable {α β:Type} {m:P α} {k:α->P β} {t u:List Tk} {x:α} {s:ByteArray} {A B:P α} {n:Int} {f:Nat->α->β}
theorem jX:run (rt x) t=.ok x t:=rfl
theorem Gw:run (fl:P α) t=.no t:=rfl
theorem dN (h:run m t=.ok x u):run (bd m k) t=run (k x) u:=by rw[run,h]
theorem eU (h:run m t=.no u):run (bd m k) t=.no u:=by rw[run,h]
theorem Gg (h:run m t=.ok x u):run (len m f) t=.ok (f (t.length-u.length) x) u:=by rw[run,h]
theorem JA (h:run m t=.no u):run (len m f) t=.no u:=by rw[run,h]
theorem um (h:is s t=true):run (acc s A B) t=run A t.tail:=by rw[run,if_pos h]
theorem lQ (h:is s t=false):run (acc s A B) t=run B t:=by rw[run,if_neg (by rw[h];decide)]
theorem Ez (h:is s t=true):run (see s A B) t=run A t:=by rw[run,if_pos h]
theorem Ey (h:is s t=false):run (see s A B) t=run B t:=by rw[run,if_neg (by rw[h];decide)]
theorem BO (h:(hd t).k=n):run (kd n A B) t=run A t:=by rw[run,if_pos h]
theorem DX (h:¬(hd t).k=n):run (kd n A B) t=run B t:=by rw[run,if_neg h]
theorem Ga (h:iP (bs (hd t).t)=true):run (kw A B) t=run A t:=by rw[run,if_pos h]
theorem Jy (h:iP (bs (hd t).t)=false):run (kw A B) t=run B t:=by rw[run,if_neg (by rw[h];decide)]
theorem tO (h:(hd t).k=n):run (tk n) t=.ok ((hd t).t,(hd t).n) t.tail:=by rw[run,if_pos h]
theorem zO (h:¬(hd t).k=n):run (tk n) t=.no t:=by rw[run,if_neg h]
theorem uJ (h:is s t=true):run (exp s) t=.ok () t.tail:=by rw[run,if_pos h]
theorem BH (h:is s t=false):run (exp s) t=.no t:=by rw[run,if_neg (by rw[h];decide)]
end
def FU:Nat:=100000
abbrev Jl:ByteArray:=⟨#[109,111,100,101,108]⟩
abbrev pG:ByteArray:=⟨#[101,110,100]⟩
abbrev aaZ:ByteArray:=⟨#[112,97,114,97,109]⟩
abbrev aaX:ByteArray:=⟨#[108,105,110,107]⟩
abbrev aba:ByteArray:=⟨#[115,105,116,101]⟩
abbrev akV:ByteArray:=⟨#[105,110,116]⟩
abbrev akR:ByteArray:=⟨#[98,111,111,108]⟩
abbrev ak0:ByteArray:=⟨#[116,105,109,101]⟩
abbrev oI:ByteArray:=⟨#[116,114,117,101]⟩
abbrev qM:ByteArray:=⟨#[102,97,108,115,101]⟩
abbrev abl:ByteArray:=⟨#[118,97,114]⟩
abbrev aa4:ByteArray:=⟨#[114,101,115,111,117,114,99,101]⟩
abbrev abf:ByteArray:=⟨#[115,116,111,114,101]⟩
abbrev aaN:ByteArray:=⟨#[98,101,108,116]⟩
abbrev aa2:ByteArray:=⟨#[113,117,101,117,101]⟩
abbrev abg:ByteArray:=⟨#[115,116,114,101,97,109]⟩
abbrev abj:ByteArray:=⟨#[116,97,108,108,121]⟩
abbrev Nc:ByteArray:=⟨#[108,101,118,101,108]⟩
abbrev aaQ:ByteArray:=⟨#[99,111,117,110,116]⟩
abbrev aa6:ByteArray:=⟨#[114,111,117,116,105,110,101]⟩
abbrev abd:ByteArray:=⟨#[115,116,97,114,116]⟩
abbrev aaO:ByteArray:=⟨#[99,111,110,115,101,114,118,101]⟩
abbrev Tp:ByteArray:=⟨#[115,104,105,102,116]⟩
abbrev akS:ByteArray:=⟨#[99,121,99,108,101]⟩
abbrev Tj:ByteArray:=⟨#[102,97,117,108,116]⟩
abbrev kUp:ByteArray:=⟨#[117,112]⟩
abbrev akT:ByteArray:=⟨#[100,111,119,110]⟩
abbrev akU:ByteArray:=⟨#[102,105,102,111]⟩
abbrev akY:ByteArray:=⟨#[108,105,102,111]⟩
abbrev akX:ByteArray:=⟨#[108,101,97,115,116]⟩
abbrev Tm:ByteArray:=⟨#[108,111,99,97,108]⟩
abbrev kAt:ByteArray:=⟨#[97,116]⟩
abbrev aaS:ByteArray:=⟨#[101,118,101,114,121]⟩
abbrev ak1:ByteArray:=⟨#[117,110,116,105,108]⟩
abbrev aaP:ByteArray:=⟨#[99,111,110,115,116]⟩
abbrev abk:ByteArray:=⟨#[117,110,105,102,111,114,109]⟩
abbrev Tq:ByteArray:=⟨#[116,97,98,108,101]⟩
abbrev abh:ByteArray:=⟨#[115,117,109]⟩
abbrev aaU:ByteArray:=⟨#[103,101,111,109]⟩
abbrev aa9:ByteArray:=⟨#[115,101,116]⟩
abbrev aaR:ByteArray:=⟨#[100,114,97,119]⟩
abbrev kIf:ByteArray:=⟨#[105,102]⟩
abbrev abn:ByteArray:=⟨#[119,104,105,108,101]⟩
abbrev aaW:ByteArray:=⟨#[104,111,108,100]⟩
abbrev aa7:ByteArray:=⟨#[115,101,105,122,101]⟩
abbrev aa3:ByteArray:=⟨#[114,101,108,101,97,115,101]⟩
abbrev aa1:ByteArray:=⟨#[112,117,116]⟩
abbrev aaV:ByteArray:=⟨#[103,101,116]⟩
abbrev aa5:ByteArray:=⟨#[114,105,100,101]⟩
abbrev abm:ByteArray:=⟨#[119,97,105,116]⟩
abbrev aa_:ByteArray:=⟨#[115,105,103,110,97,108]⟩
abbrev aa8:ByteArray:=⟨#[115,101,110,100]⟩
abbrev abb:ByteArray:=⟨#[115,112,97,119,110]⟩
abbrev aaY:ByteArray:=⟨#[111,98,115,101,114,118,101]⟩
abbrev aaM:ByteArray:=⟨#[97,100,100]⟩
abbrev abe:ByteArray:=⟨#[115,116,111,112]⟩
abbrev aaT:ByteArray:=⟨#[102,114,111,109]⟩
abbrev BN:ByteArray:=⟨#[101,108,115,101]⟩
abbrev aa0:ByteArray:=⟨#[112,114,105,111]⟩
abbrev Tn:ByteArray:=⟨#[112,114,101,101,109,112,116]⟩
abbrev akW:ByteArray:=⟨#[105,110,116,111]⟩
abbrev akQ:ByteArray:=⟨#[97,102,116,101,114]⟩
abbrev rT:ByteArray:=⟨#[111,114]⟩
abbrev rR:ByteArray:=⟨#[97,110,100]⟩
abbrev DW:ByteArray:=⟨#[110,111,116]⟩
abbrev F9:ByteArray:=⟨#[110,111,119]⟩
abbrev Jh:ByteArray:=⟨#[100,117,114]⟩
abbrev Jn:ByteArray:=⟨#[116,105,99,107,115]⟩
abbrev Jk:ByteArray:=⟨#[109,105,110]⟩
abbrev Jj:ByteArray:=⟨#[109,97,120]⟩
abbrev Ji:ByteArray:=⟨#[102,114,101,101]⟩
abbrev Jm:ByteArray:=⟨#[115,105,122,101]⟩
abbrev Jp:ByteArray:=⟨#[119,97,105,116,105,110,103]⟩
abbrev nJ:ByteArray:=⟨#[43]⟩
abbrev eH:ByteArray:=⟨#[45]⟩
abbrev kE:ByteArray:=⟨#[42]⟩
abbrev kP:ByteArray:=⟨#[47]⟩
abbrev kZ:ByteArray:=⟨#[37]⟩
abbrev qx:ByteArray:=⟨#[61]⟩
abbrev yZ:ByteArray:=⟨#[33,61]⟩
abbrev yY:ByteArray:=⟨#[60]⟩
abbrev yX:ByteArray:=⟨#[60,61]⟩
abbrev yV:ByteArray:=⟨#[62]⟩
abbrev yU:ByteArray:=⟨#[62,61]⟩
abbrev fK:ByteArray:=⟨#[40]⟩
abbrev iG:ByteArray:=⟨#[41]⟩
abbrev vC:ByteArray:=⟨#[44]⟩
abbrev Vr:ByteArray:=⟨#[58]⟩
abbrev aer:ByteArray:=⟨#[46]⟩
def num:P Int:=bd (tk 2) fun x=>rt x.2
def rQ:P Int:=acc eH (bd num fun n=>rt (-n)) num
def sD:P Int:=acc oI (rt 1) (bd (exp qM) fun _=>rt 0)
def f_:P ByteArray:=kw fl (bd (tk 1) fun x=>rt x.1)
def zy (s:ByteArray):P ByteArray:=bd (exp s) fun _=>f_
def fM:P Unit:=bd (tk 4) fun _=>rt ()
def pz:P Unit:=bd (tk 0) fun _=>rt ()
def xW:P ByteArray:=bd f_ fun s=>bd fM fun _=>rt s
def pr:P (Int×Int):=bd num fun a=>bd (exp Vr) fun _=>bd num fun b=>rt (a,b)
def Gr:Nat->List (Int×Int)->P (List (Int×Int))
 | 0,_=>fl
 | n+1,l=>kd 2 (bd pr fun x=>Gr n (l++[x])) (rt l)
def AX:P (List (Int×Int)):=bd pr fun x=>Gr FU [x]
def xQ {α:Type} (e:P α):Nat->List α->P (List α)
 | 0,_=>fl
 | n+1,l=>acc iG (rt l) (match l with
  | []=>bd e fun x=>xQ e n [x]
  | y::r=>bd (exp vC) fun _=>bd e fun x=>xQ e n ((y::r)++[x]))
def BQ {α:Type} (e:P α):P (List α):=bd (exp fK) fun _=>xQ e FU []
def dst:P Dt:=
 acc aaP (bd num fun a=>rt ⟨1,a,0,0,[],[]⟩) <|
 acc abk (bd num fun a=>bd num fun b=>rt ⟨2,a,b,0,[],[]⟩) <|
 acc Tq (bd AX fun l=>rt ⟨3,0,0,0,l.map (·.1),l.map (·.2)⟩) <|
 acc abh (bd num fun n=>bd num fun a=>bd num fun b=>rt ⟨4,a,b,n,[],[]⟩) <|
 acc aaU (bd num fun a=>bd num fun b=>rt ⟨5,a,b,0,[],[]⟩) fl
def nd0 (o:Int):Ex:=.mk o mt 0 []
def iR (o:Int) (x:Ex):Ex:=.mk o mt 0 [x]
def dF (o:Int) (x y:Ex):Ex:=.mk o mt 0 [x,y]
def uQ (o:Int) (s:ByteArray):Ex:=.mk o s 0 []
def fo (o n:Int):Ex:=.mk o mt n []
def rZ {α:Type} (A:Int->P α) (B:P α):List (ByteArray×Int)->P α
 | []=>B
 | o::r=>acc o.1 (A o.2) (rZ A B r)
def gU (m:P Ex) (os:List (ByteArray×Int)):Nat->Ex->P Ex
 | 0,_=>fl
 | n+1,e=>rZ (fun o=>bd m fun y=>gU m os n (dF o e y)) (rt e) os
def gI (m:P Ex) (os:List (ByteArray×Int)):P Ex:=bd m fun e=>gU m os FU e
def one (E:P Ex) (o:Int):P Ex:=bd (exp fK) fun _=>bd E fun x=>bd (exp iG) fun _=>rt (iR o x)
def two (E:P Ex) (o:Int):P Ex:=bd (exp fK) fun _=>bd E fun x=>bd (exp vC) fun _=>bd E fun y=>bd (exp iG) fun _=>rt (dF o x y)
def xZ (o:Int):P Ex:=bd (exp fK) fun _=>bd f_ fun s=>bd (exp iG) fun _=>rt (uQ o s)
def neg (d:Nat) (e:Ex):Ex:=match d,e with
 | 4,.mk 5 s n [.mk 1 s' n' l']=>fo 1 (-n')
 | _,e=>e
def wH (E:P Ex):P Ex:=len (bd (exp fK) fun _=>bd E fun e=>bd (exp iG) fun _=>rt e) neg
def wO (E:P Ex):P Ex:=
 kd 2 (bd num fun n=>rt (fo 1 n)) <|
 see oI (bd sD fun n=>rt (fo 2 n)) <|
 see qM (bd sD fun n=>rt (fo 2 n)) <|
 acc F9 (rt (nd0 4)) <|
 acc Jh (one E 7) <|
 acc Jn (one E 8) <|
 acc Jk (two E 20) <|
 acc Jj (two E 21) <|
 acc Ji (xZ 22) <|
 acc Jm (xZ 23) <|
 acc Jp (xZ 24) <|
 see fK (wH E) <|
 bd f_ fun s=>rt (uQ 3 s)
def rJ (E F:P Ex):P Ex:=acc eH (bd F fun x=>rt (iR 5 x)) (wO E)
def JS (f:P Ex):P Ex:=gI f [(kE,11),(kP,12),(kZ,13)]
def sum (f:P Ex):P Ex:=gI (JS f) [(nJ,9),(eH,10)]
def cmp (f:P Ex):P Ex:=bd (sum f) fun x=>
 acc qx (bd (sum f) fun y=>rt (dF 14 x y)) <|
 acc yZ (bd (sum f) fun y=>rt (dF 15 x y)) <|
 acc yY (bd (sum f) fun y=>rt (dF 16 x y)) <|
 acc yX (bd (sum f) fun y=>rt (dF 17 x y)) <|
 acc yV (bd (sum f) fun y=>rt (dF 16 y x)) <|
 acc yU (bd (sum f) fun y=>rt (dF 17 y x)) <|
 rt x
def qP (f N:P Ex):P Ex:=acc DW (bd N fun x=>rt (iR 6 x)) (cmp f)
def Iz (g:P Ex):P Ex:=gI g [(rR,18)]
def FM (g:P Ex):P Ex:=gI (Iz g) [(rT,19)]
mutual
def fF:Nat->P Ex
 | 0=>fl
 | n+1=>rJ (fE n) (fF n)
def fN:Nat->P Ex
 | 0=>fl
 | n+1=>qP (rJ (fE n) (fF n)) (fN n)
def fE:Nat->P Ex
 | 0=>fl
 | n+1=>FM (qP (rJ (fE n) (fF n)) (fN n))
end
theorem DF (n:Nat):fF (n+1)=rJ (fE n) (fF n):=by rw[fF]
theorem IQ (n:Nat):fN (n+1)=qP (fF (n+1)) (fN n):=by rw[fN,fF]
theorem IP (n:Nat):fE (n+1)=FM (fN (n+1)):=by rw[fE,fN]
def jO:P Ex:=fE FU
def fJ (o:Int) (nm f:ByteArray) (e:Ex):St:=.mk o nm f e zE [] zD false [] []
def uu (o:Int):P St:=bd f_ fun s=>bd jO fun e=>rt (fJ o s mt e)
def Fu (o:Int) (f:ByteArray):P St:=bd f_ fun s=>bd (BQ jO) fun l=>bd (exp akQ) fun _=>bd jO fun e=>rt (.mk o s f e zE l zD false [] [])
def cnd:P Ex:=bd jO fun e=>bd fM fun _=>rt e
def stt (B:P (List St)):P St:=
 acc aa9 (bd f_ fun s=>bd (exp qx) fun _=>bd jO fun e=>rt (fJ 1 s mt e)) <|
 acc aaR (bd f_ fun s=>bd (zy aaT) fun f=>bd dst fun d=>rt (.mk 2 s f zE zE [] d false [] [])) <|
 acc kIf (bd cnd fun e=>bd B fun b=>bd (acc BN (bd fM fun _=>B) (rt [])) fun l=>bd (exp pG) fun _=>rt (.mk 3 mt mt e zE [] zD false b l)) <|
 acc abn (bd cnd fun e=>bd B fun b=>bd (exp pG) fun _=>rt (.mk 4 mt mt e zE [] zD false b [])) <|
 acc aaW (bd jO fun e=>rt (fJ 5 mt mt e)) <|
 acc aa7 (bd f_ fun s=>bd jO fun e=>bd (exp aa0) fun _=>bd jO fun g=>bd (acc Tn (rt true) (rt false)) fun b=>rt (.mk 6 s mt e g [] zD b [] [])) <|
 acc aa3 (uu 7) <|
 acc aa1 (bd jO fun e=>bd (zy akW) fun s=>rt (fJ 8 s mt e)) <|
 acc aaV (bd f_ fun f=>bd (zy aaT) fun s=>rt (fJ 9 s f zE)) <|
 acc aa5 (bd f_ fun s=>rt (fJ 10 s mt zE)) <|
 acc abm (bd f_ fun s=>rt (fJ 11 s mt zE)) <|
 acc aa_ (uu 12) <|
 acc aa8 (bd f_ fun f=>bd (exp aer) fun _=>Fu 13 f) <|
 acc abb (Fu 14 mt) <|
 acc aaY (uu 15) <|
 acc Nc (uu 16) <|
 acc aaM (uu 17) <|
 acc abe (rt (fJ 18 mt mt zE)) <|
 fl
def zN (S:P St):Nat->List St->P (List St)
 | 0,_=>fl
 | n+1,l=>see pG (rt l) <| see BN (rt l) <| kd 0 (rt l) <| bd S fun x=>bd fM fun _=>zN S n (l++[x])
def fS:Nat->P (List St)
 | 0=>fl
 | n+1=>zN (stt (fS n)) FU []
def Cj:P (List St):=fS FU
def typ:P Int:=acc akV (rt 1) <| acc akR (rt 2) <| acc ak0 (rt 3) fl
def val:P Val:=bd f_ fun s=>bd typ fun y=>bd (exp qx) fun _=>bd (if y=2 then sD else rQ) fun n=>bd fM fun _=>rt ⟨s,y,n⟩
def DI:P eZ:=bd f_ fun s=>bd typ fun y=>rt ⟨s,y⟩
def shf:P (List dV×Int):=acc Tp (bd AX fun l=>bd (exp akS) fun _=>bd num fun n=>rt (l.map (fun q=>⟨q.1,q.2⟩),n)) (rt ([],0))
def IY:P (ByteArray×Dt×Dt):=acc Tj (bd f_ fun s=>bd (exp kUp) fun _=>bd dst fun a=>bd (exp akT) fun _=>bd dst fun b=>rt (s,a,b)) (rt (mt,zD,zD))
def qQ:P dx:=bd f_ fun s=>bd num fun n=>bd shf fun h=>bd IY fun f=>bd fM fun _=>rt ⟨s,n,h.1,h.2,f.1,f.2.1,f.2.2⟩
def TP:P Int:=acc akU (rt 1) <| acc akY (rt 2) <| acc akX (rt 3) fl
def Oi:P ko:=bd f_ fun s=>bd num fun n=>bd TP fun p=>bd fM fun _=>rt ⟨s,n,p⟩
def blt:P j_:=bd f_ fun s=>bd num fun n=>bd num fun p=>bd fM fun _=>rt ⟨s,n,p⟩
def DZ:Nat->List eZ->P (List eZ)
 | 0,_=>fl
 | n+1,l=>acc Tm (bd DI fun x=>bd fM fun _=>DZ n (l++[x])) (rt l)
def NR:P fD:=bd f_ fun s=>bd (BQ DI) fun ps=>bd fM fun _=>bd (DZ FU []) fun ls=>bd Cj fun b=>bd (exp pG) fun _=>bd fM fun _=>rt ⟨s,ps,ls,b⟩
def arg:P Int:=see oI sD <| see qM sD rQ
def Zt:P (Int×Int):=acc aaS (bd num fun a=>bd (exp ak1) fun _=>bd num fun b=>rt (a,b)) (rt (0,0))
def Oh:P jf:=bd f_ fun s=>bd (BQ arg) fun l=>bd (exp kAt) fun _=>bd num fun a=>bd Zt fun v=>bd fM fun _=>rt ⟨s,l,a,v.1,v.2⟩
def Bc:P jD:=bd (kd 2 (bd num fun n=>bd (exp kE) fun _=>rt n) (rt 1)) fun c=>bd f_ fun w=>bd f_ fun s=>rt ⟨c,w,s⟩
def J_:P jD:=acc nJ Bc (bd (exp eH) fun _=>bd Bc fun x=>rt ⟨-x.co,x.wh,x.nm⟩)
def Eb:Nat->List jD->P (List jD)
 | 0,_=>fl
 | n+1,l=>acc qx (rt l) (bd J_ fun x=>Eb n (l++[x]))
def law:P Lw:=bd f_ fun s=>bd (exp Vr) fun _=>bd (see eH (rt []) (bd Bc fun x=>rt [x])) fun l=>bd (Eb FU l) fun ts=>bd rQ fun n=>bd fM fun _=>rt ⟨s,ts,n⟩
def FD (x:cZ):P cZ:=
 acc abl (bd val fun y=>rt { x with va:=x.va++[y] }) <|
 acc aa4 (bd qQ fun y=>rt { x with rs:=x.rs++[y] }) <|
 acc abf (bd Oi fun y=>rt { x with st:=x.st++[y] }) <|
 acc aaN (bd blt fun y=>rt { x with be:=x.be++[y] }) <|
 acc aa2 (bd xW fun y=>rt { x with qu:=x.qu++[y] }) <|
 acc abg (bd xW fun y=>rt { x with sm:=x.sm++[y] }) <|
 acc abj (bd xW fun y=>rt { x with ta:=x.ta++[y] }) <|
 acc Nc (bd xW fun y=>rt { x with le:=x.le++[y] }) <|
 acc aaQ (bd xW fun y=>rt { x with co:=x.co++[y] }) <|
 acc aa6 (bd NR fun y=>rt { x with ro:=x.ro++[y] }) <|
 acc abd (bd Oh fun y=>rt { x with ss:=x.ss++[y] }) <|
 acc aaO (bd law fun y=>rt { x with la:=x.la++[y] }) <|
 fl
def Cf (s:ByteArray):cZ:=⟨s,[],[],[],[],[],[],[],[],[],[],[],[]⟩
def zL:Nat->cZ->P cZ
 | 0,_=>fl
 | n+1,x=>acc pG (rt x) (bd (FD x) fun y=>zL n y)
def sit:P cZ:=bd xW fun s=>bd (zL FU (Cf s)) fun x=>bd fM fun _=>rt x
def TA:P iY:=bd f_ fun a=>bd f_ fun b=>bd num fun n=>bd fM fun _=>rt ⟨a,b,n⟩
def prt (m:dM):P dM:=
 acc aaZ (bd val fun y=>rt { m with pa:=m.pa++[y] }) <|
 acc aaX (bd TA fun y=>rt { m with li:=m.li++[y] }) <|
 acc aba (bd sit fun y=>rt { m with si:=m.si++[y] }) <|
 fl
def Ed:Nat->dM->P dM
 | 0,_=>fl
 | n+1,m=>acc pG (rt m) (bd (prt m) fun y=>Ed n y)
def JH:P dM:=bd (zy Jl) fun s=>bd fM fun _=>bd (Ed FU ⟨s,[],[],[]⟩) fun m=>bd fM fun _=>bd pz fun _=>rt m
def JM:P (List St):=bd Cj fun l=>bd pz fun _=>rt l
def rY:P Ex:=bd jO fun e=>bd fM fun _=>bd pz fun _=>rt e
end Ps
namespace Lx
open Nu
open Go.RowKit
theorem nZ {k:IntKind} {a b:Int} (h:a=b):Ending.returned (.int k a)=.returned (.int k b):=by rw[h]
theorem lJ {a b:Bool} (h:a=b):Ending.returned (.bool a)=.returned (.bool b):=by rw[h]
def Gives (v:Value) (w:af) (e:Ending) (w':af):Prop:=e=.returned v/\ah w.heap.size w w'
theorem aae {v u:Value} {w w1:af} (h:u=v) (hb:ah w.heap.size w w1):Gives u w (.returned v) w1:=⟨by rw[h],hb⟩
theorem below_drewN {B:Nat} {a w:af} (h:ah B a w) (n:Nat):ah B a (w.drewN n):=⟨h.os,h.tape,h.output,h.size,h.block⟩
section
variable {a w w2:af}
theorem iw {o:Obj} (h:ah a.heap.size a w):ah a.heap.size a (w.alloc o):=h.alloc h.size o
theorem vN {n:Nat} (h:ah a.heap.size a w):ah a.heap.size a (w.drewN n):=below_drewN h n
theorem rC (h:ah a.heap.size a w):ah a.heap.size a w.drew:=h.drew
theorem zf {p:Addr} (h:ah a.heap.size a w) (hp:a.heap.size<=p.block) (u:Value):ah a.heap.size a (w.setCell p u):=h.setCell hp u
theorem sQ (h:ah a.heap.size a w) (hb:ah w.heap.size w w2):ah a.heap.size a w2:=h.trans (hb.mono h.size)
end
theorem clash {x:Bool} (h:x=true) (g:x=false):False:=by rw[h] at g;cases g
theorem nS {a b:ByteArray} (h:bs a=bs b):(a.toList==b.toList)=true:=by rw[kH h];simp
theorem pE {a b:ByteArray} (h:¬bs a=bs b):(a.toList==b.toList)=false:=by
 exact afk
theorem Ff (b o j:Nat):(⟨b,o,ak⟩:Addr).add j=⟨b,o+j,ak⟩:=by unfold Addr.add;split <;> simp_all
def c4 (x:Tk) (r:Nat):Value:=match r with
 | 0=>.int .i64 x.k
 | 1=>.string x.t
 | 2=>.int .i64 x.n
 | _=>.int .i64 x.l
def h_ (w:af) (g o:Nat) (x:Tk):Prop:=w.cell? ⟨g,o,ak⟩=ag (.int .i64 x.k)/\w.cell? ⟨g,o+1,ak⟩=ag (.string x.t)/\w.cell? ⟨g,o+2,ak⟩=ag (.int .i64 x.n)/\w.cell? ⟨g,o+3,ak⟩=ag (.int .i64 x.l)
theorem h_.on {w w2:af} {g o:Nat} {x:Tk} (hb:ah w.heap.size w w2) (hg:g<w.heap.size) (h:h_ w g o x):h_ w2 g o x:=by
 obtain⟨h0,h1,h2,h3⟩:=h;exact⟨(hb.cell (p:=⟨g,o,ak⟩) hg).trans h0,(hb.cell (p:=⟨g,o+1,ak⟩) hg).trans h1,(hb.cell (p:=⟨g,o+2,ak⟩) hg).trans h2,(hb.cell (p:=⟨g,o+3,ak⟩) hg).trans h3⟩
theorem ahn {w:af} {g o r:Nat} {x:Tk} (h:h_ w g o x) (hr:r<4):w.cell? ⟨g,o+r,ak⟩=ag (c4 x r):=by
 obtain⟨h0,h1,h2,h3⟩:=h
 match r,hr with
 | 0,_=>exact h0
 | 1,_=>exact h1
 | 2,_=>exact h2
 | 3,_=>exact h3
theorem Q9 {w:af} {g o:Nat} {x:Tk} (h:∀r,r<4->w.cell? ⟨g,o+r,ak⟩=ag (c4 x r)):h_ w g o x:=
 ⟨h 0 bU,h 1 bU,h 2 bU,h 3 bU⟩
def flat:List Tk->List Value
 | []=>[]
 | x::t=>.int .i64 x.k::.string x.t::.int .i64 x.n::.int .i64 x.l::flat t
theorem Sc:∀l:List Tk,(flat l).length=l.length*4
 | []=>rfl
 | x::t=>by simp only[flat,List.length_cons,Sc t];omega
theorem ZB:∀a b:List Tk,flat (a++b)=flat a++flat b
 | [],b=>rfl
 | x::t,b=>by simp only[ae,flat,ZB t b]
theorem flat_get:∀{l:List Tk} {i r:Nat} (h:i<l.length),r<4->(flat l)[i*4+r]?=ag (c4 l[i] r)
 | [],i,r,h,_=>absurd h (Nat.not_lt_zero _)
 | x::t,0,r,_,hr=>by
  match r,hr with
  | 0,_=>rfl
  | 1,_=>rfl
  | 2,_=>rfl
  | 3,_=>rfl
 | x::t,i+1,r,h,hr=>by
  have e:(i+1)*4+r=(i*4+r)+1+1+1+1:=by omega
  rw[e];simp only[flat,List.getElem?_cons_succ,List.getElem_cons_succ];exact flat_get (l:=t) Ad hr
theorem ZC:∀l:List Tk,∀u∈flat l,u.oneCell'=true
 | [],u,hu=>by cases hu
 | x::t,u,hu=>by
  simp only[flat,List.mem_cons] at hu;rcases hu with rfl|rfl|rfl|rfl|hu
  · rfl
  · rfl
  · rfl
  · rfl
  · exact ZC t u hu
def jg (w:af) (p:Option Addr) (n:Nat) (l:List Tk):Prop:=
 l.length=n/\n<=9223372036854775807/\(n=0∨∃b o,p=ag ⟨b,o,ak⟩/\b<w.heap.size/\Hid (∀i,(h:i<l.length)->h_ w b (o+i*4) l[i]))
theorem jg.on {w w2:af} {p:Option Addr} {n:Nat} {l:List Tk} (hb:ah w.heap.size w w2) (h:jg w p n l):jg w2 p n l:=by
 obtain⟨h0,hl,h|⟨b,o,rfl,h1,h2⟩⟩:=h
 · exact⟨h0,hl,.inl h⟩
 · exact⟨h0,hl,.inr ⟨b,o,rfl,Nat.lt_of_lt_of_le h1 hb.size,Lib.hid fun i hi=>h_.on hb h1 (h2.out i hi)⟩⟩
theorem jg.alloc {w:af} {o:Obj} {p:Option Addr} {n:Nat} {l:List Tk} (h:jg w p n l):jg (w.alloc o) p n l:=h.on ((Below.refl _ _).alloc (ai _) o)
theorem jg.drew {w:af} {p:Option Addr} {n:Nat} {l:List Tk} (h:jg w p n l):jg w.drew p n l:=h
theorem jg.drewN {w:af} {p:Option Addr} {n:Nat} {l:List Tk} (h:jg w p n l) (m:Nat):jg (w.drewN m) p n l:=h
theorem jg.nil {w:af} {p:Option Addr}:jg w p 0 []:=⟨rfl,by omega,.inl rfl⟩
abbrev Own (lo:Nat) (w:af) (v:Value) (l:List Tk):Prop:=w.ownsRow lo 87 4 v l.length (flat l)
theorem own_below {lo:Nat} {w w2:af} {v:Value} {l:List Tk} (h:Own lo w v l) (hb:ah w.heap.size w w2):Own lo w2 v l:=
 World.ownsRow.kept h (row:=ak) ⟨hb.os,hb.tape,hb.output,hb.size,fun k hk _=>hb.block k hk⟩ (by cases v.ownBlock <;> simp)
theorem AU {lo:Nat} {w:af} {v:Value} {l:List Tk} (h:Own lo w v l):∃p c,v=.slice p l.length c/\jg w p l.length l/\l.length<=c/\((p=ak/\c=0)∨∃g,p=ag ⟨g,0,ak⟩/\lo<=g):=by
 have h':=h;rcases h'.2 with⟨rfl,h0⟩|⟨g,cap,cur,rfl,hg,FZ,hc,hm,h5,h6⟩
 · have:l=[]:=List.length_eq_zero_iff.1 h0;subst this;exact⟨ak,0,rfl,jg.nil,ai _,.inl ⟨rfl,rfl⟩⟩
 · refine⟨_,_,rfl,⟨rfl,?_,?_⟩,hc,.inr ⟨g,rfl,hg⟩⟩
   · unfold maxLen at hm;omega
   · refine .inr ⟨g,0,rfl,(h.lt g rfl).2,Lib.hid fun i hi=>Q9 fun r hr=>?_⟩;rw[h.cellAt (0+i*4+r) bU,Nat.zero_add,flat_get hi hr]
theorem amM {o:Option TypeInfo} {z:Value} {s b:Nat} (h:o.map (fun i=>(i.zero,i.size,i.bytes))=ag (ag z,s,b)):∃i,o=ag i/\i.zero=ag z/\i.size=s/\i.bytes=b:=by
 exact afb
theorem apZ:(Tryz.prog.info? 87).map (fun i=>(i.zero,i.size,i.bytes))=ag (ag (.agg #[.int .i64 0,.string ⟨#[]⟩,.int .i64 0,.int .i64 0]),4,40):=by kernel_rfl
theorem Ih {lo:Nat} {w:af} {v:Value} {l:List Tk} (hown:Own lo w v l) {b:Nat} {x:Tk} (hb:b<w.heap.size) (hx:h_ w b 0 x) (hn:l.length<=1000000) (hlo:lo<=w.heap.size) :
 ∃v' w',(Builtin.append_ #[65,65] 65 #[v,.slice (ag ⟨b,0,ak⟩) 1 1]).run Tryz.prog w=.ok v' w'/\Own lo w' v' (l++[x])/\w.grownBy w' v.ownBlock:=by
 obtain⟨i0,hi0,hz0,hz1,hz2⟩:=amM apZ;have hnews:∀j u,(flat [x])[j]?=ag u->w.cell? ((⟨b,0,ak⟩:Addr).add j)=ag u:=by
  intro j u hu;have hj:j<4:=by
   have:=(List.getElem?_eq_some_iff.1 hu).1;rwa [Sc] at this
  have h2:=flat_get (l:=[x]) (i:=0) (r:=j) cz hj;rw[Nat.zero_mul,Nat.zero_add,hu] at h2;rw[Ff,ahn hx hj];exact h2.symm
 obtain⟨v',w',hrun,h2,h3,-,-⟩:=run_append_own_at (P:=Tryz.prog) w lo 65 65 87 i0 _ 4 40 Tryz.underlying65 hi0 hz0 hz1 hz2 rfl bU v l.length _ hown ⟨b,0,ak⟩ 1 1 (flat [x]) (Sc _) hnews (ZC _)
  Py bU hlo
 rw[← ZB] at h2;refine⟨v',w',hrun,?_,h3⟩
 show w'.ownsRow lo 87 4 v' (l++[x]).length _
 rw[au];exact h2
theorem xV {w:af} {x:Tk} {t:TypeId}:h_ (w.alloc (.cells #[.int .i64 x.k,.string x.t,.int .i64 x.n,.int .i64 x.l] t)) w.heap.size 0 x:=by
 exact afe
theorem below_grown {lo:Nat} {a w w':af} {v:Value} {l:List Tk} (hB:ah lo a w) (hlo:lo<=w.heap.size) (ho:Own lo w v l) (hg:w.grownBy w' v.ownBlock):ah lo a w':=hB.grown hg hlo fun k hk=>(ho.lt k hk).1
theorem ak4 {w w':af} {lo:Nat} {v:Value} {l:List Tk} {k:Nat} {s:ByteArray} {pos:Nat} (ho:Own lo w v l) (hg:w.grownBy w' v.ownBlock) (hk:w.heap[k]?=ag (.stringIter s pos)):w'.heap[k]?=ag (.stringIter s pos):=by
 have hlt:k<w.heap.size:=(Array.getElem?_eq_some_iff.1 hk).1;rw[hg.block k hlt ?_]
 · exact hk
 · intro e;rcases ho.2 with⟨rfl,h0⟩|⟨g,cap,cur,rfl,hgg,FZ,-⟩
   · simp[Value.ownBlock] at e
   · simp[Value.ownBlock] at e
     subst e;rw[hk] at FZ;cases FZ
end Lx
namespace Md
open Go.RowKit
def Bf (B u:Nat) (b:Nat):Prop:=b<u/\b≠B
end Md
end Go.Proofs.YthnillhnjhalmaaGreatDoor
