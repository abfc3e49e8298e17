/-
  Parts of this proof: Mathematics of statements. Words for worlds and statements in memory. How lists of statements among the arguments are . An expression among the arguments, where the arg. The contracts of Same and of the library's Equal. What the chapter's examples are.
-/
import Derived.Test.YtkpekhpgdajabaaGreatDoorYEBase
open Go renaming World->U,Addr->aj
open Option renaming some->V,none->af
open Go.Proofs.Tryz renaming prog->ae
open List renaming getElem?_eq_getElem->ag,cons_append->ai
open Nat renaming le_refl->ah,le_trans->ak
open Bool renaming and_eq_true->au
set_option linter.unusedVariables false
set_option maxRecDepth 100000
set_option maxHeartbeats 2000000
namespace Go.Proofs.YtkpekhpgdajabaaGreatDoor
namespace Sm
open Na (bs jl fB)
open Ex (Ex fI take_one)
structure Dt where
 op:Int
 a:Int
 b:Int
 n:Int
 vs:List Int
 ws:List Int
inductive St where
 | mk (o:Int) (nm f:ByteArray) (e g:Ex) (ar:List Ex) (di:Dt) (fl:Bool) (bo el:List St)
def St.o:St->Int
 | .mk o _ _ _ _ _ _ _ _ _=>o
def St.nm:St->ByteArray
 | .mk _ nm _ _ _ _ _ _ _ _=>nm
def St.f:St->ByteArray
 | .mk _ _ f _ _ _ _ _ _ _=>f
def St.e:St->Ex
 | .mk _ _ _ e _ _ _ _ _ _=>e
def St.g:St->Ex
 | .mk _ _ _ _ g _ _ _ _ _=>g
def St.ar:St->List Ex
 | .mk _ _ _ _ _ ar _ _ _ _=>ar
def St.di:St->Dt
 | .mk _ _ _ _ _ _ di _ _ _=>di
def St.fl:St->Bool
 | .mk _ _ _ _ _ _ _ fl _ _=>fl
def St.bo:St->List St
 | .mk _ _ _ _ _ _ _ _ bo _=>bo
def St.el:St->List St
 | .mk _ _ _ _ _ _ _ _ _ el=>el
mutual
def cn:St->Nat
 | .mk _ _ _ _ _ _ _ _ bo el=>eF bo+eF el+1
def eF:List St->Nat
 | []=>0
 | x::t=>cn x+eF t
end
mutual
def dp:St->Nat
 | .mk _ _ _ _ _ _ _ _ bo el=>max (gH bo) (gH el)+1
def gH:List St->Nat
 | []=>0
 | x::t=>max (dp x) (gH t)
end
mutual
def ord:St->List St
 | .mk o nm f e g ar di fl bo el=>.mk o nm f e g ar di fl bo el::(eU bo++eU el)
def eU:List St->List St
 | []=>[]
 | x::t=>ord x++eU t
end
def sz0 (e g:Ex) (ar:List Ex) (di:Dt):Nat:=1+Ex.cnt e+Ex.cnt g+di.vs.length+di.ws.length+Ex.gq ar
mutual
def sz:St->Nat
 | .mk _ _ _ e g ar di _ bo el=>sz0 e g ar di+Br bo+Br el
def Br:List St->Nat
 | []=>0
 | x::t=>sz x+Br t
end
theorem zq (x:St):cn x=eF x.bo+eF x.el+1:=by obtain⟨o,nm,f,e,g,ar,di,fl,bo,el⟩:=x;rw[cn];rfl
theorem Qf (x:St):dp x=max (gH x.bo) (gH x.el)+1:=by obtain⟨o,nm,f,e,g,ar,di,fl,bo,el⟩:=x;rw[dp];rfl
theorem yJ (x:St):ord x=x::(eU x.bo++eU x.el):=by obtain⟨o,nm,f,e,g,ar,di,fl,bo,el⟩:=x;rw[ord];rfl
theorem Wz (x:St):1<=cn x:=by rw[zq];omega
theorem ahl (x:St) (t:List St):gH (x::t)=max (dp x) (gH t):=by rw[gH]
theorem GJ:∀a b:List St,eF (a++b)=eF a+eF b
 | [],b=>by simp[eF]
 | x::t,b=>by simp only[ai,eF,GJ t b];omega
theorem Xn:∀a b:List St,gH (a++b)=max (gH a) (gH b)
 | [],b=>by simp[gH]
 | x::t,b=>by simp only[ai,gH,Xn t b];omega
theorem Fe:∀a b:List St,eU (a++b)=eU a++eU b
 | [],b=>rfl
 | x::t,b=>by simp only[ai,eU,Fe t b,List.append_assoc]
theorem agI {l:List St} {k:Nat} {x:St} (h:l[k]?=V x):eF (l.take (k+1))=eF (l.take k)+cn x:=by rw[take_one h,GJ];simp[eF]
theorem aaR {l:List St} {k:Nat} {x:St} (h:l[k]?=V x):eU (l.take (k+1))=eU (l.take k)++ord x:=by rw[take_one h,Fe];simp[eU]
theorem agH (l:List St) (k:Nat):eF (l.take k)<=eF l:=by
 have:=GJ (l.take k) (l.drop k);rw[List.take_append_drop] at this;omega
theorem ahm (l:List St) (k:Nat):gH (l.take k)<=gH l:=by
 have:=Xn (l.take k) (l.drop k);rw[List.take_append_drop] at this;omega
theorem Ew:∀{l:List St} {x:St},x∈l->cn x<=eF l
 | [],x,h=>by cases h
 | y::t,x,h=>by
  unfold eF;rcases List.mem_cons.1 h with rfl|h
  · omega
  · have:=Ew h;omega
theorem Mi:∀{l:List St} {x y:St},x∈l->y∈ord x->y∈eU l
 | [],x,y,h,_=>by cases h
 | z::t,x,y,h,g=>by
  unfold eU;rcases List.mem_cons.1 h with rfl|h
  · exact List.mem_append_left _ g
  · exact List.mem_append_right _ (Mi h g)
theorem ak4 (x:St):x∈ord x:=by rw[yJ];exact List.mem_cons_self
theorem akX {l:List St} {x:St} (h:x∈l):x∈eU l:=Mi h (ak4 x)
theorem akY {x y:St} (h:y∈eU x.bo):y∈ord x:=by rw[yJ];exact List.mem_cons_of_mem _ (List.mem_append_left _ h)
theorem akZ {x y:St} (h:y∈eU x.el):y∈ord x:=by rw[yJ];exact List.mem_cons_of_mem _ (List.mem_append_right _ h)
theorem St.ind {P:St->Prop} (h:∀x:St,(∀y∈x.bo,P y)->(∀y∈x.el,P y)->P x) (x:St):P x:=by
 have:∀k x,cn x<=k->P x:=by
  intro k
  induction k with
  | zero=>intro x hx;have:=Wz x;omega
  | succ k ih=>
   intro x hx;rw[zq] at hx;exact h x (fun y hy=>ih y (by have:=Ew hy;omega)) (fun y hy=>ih y (by have:=Ew hy;omega))
 exact this _ x (ah _)
theorem Rx {Q:List St->Prop} (h:∀sl:List St,(∀x∈sl,Q x.bo/\Q x.el)->Q sl) (sl:List St):Q sl:=by
 have:∀k sl,eF sl<=k->Q sl:=by
  intro k
  induction k with
  | zero=>
   intro sl hs;refine h sl fun x hx=>?_;have:=Ew hx;have:=Wz x;omega
  | succ k ih=>
   intro sl hs;refine h sl fun x hx=>?_;have h1:=Ew hx;rw[zq] at h1;exact⟨ih _ bT,ih _ bT⟩
 exact this _ sl (ah _)
def oq:List St->Nat
 | []=>0
 | x::t=>max (max (gH x.bo) (gH x.el)) (oq t)
theorem Qe:∀{l:List St},0<l.length->gH l=oq l+1
 | [x],_=>by simp only[gH,oq,Qf];omega
 | x::y::t,_=>by
  have:=Qe (l:=y::t) cK;rw[ahl,this,Qf,show oq (x::y::t)=max (max (gH x.bo) (gH x.el)) (oq (y::t)) from rfl];omega
theorem Zw:∀a b:List St,oq (a++b)=max (oq a) (oq b)
 | [],b=>by simp[oq]
 | x::t,b=>by simp only[ai,oq,Zw t b];omega
theorem ai_ {l:List St} {k:Nat} {x:St} (h:l[k]?=V x):oq (l.take (k+1))=max (oq (l.take k)) (max (gH x.bo) (gH x.el)):=by rw[take_one h,Zw];simp[oq]
theorem Zy:∀l:List St,oq l<=gH l
 | []=>ah _
 | x::t=>by rw[Qe cK];omega
theorem Mh:∀{l:List St},(∀x∈l,(ord x).length=cn x)->(eU l).length=eF l
 | [],_=>rfl
 | x::t,h=>by rw[eU,eF,List.length_append,h x List.mem_cons_self,Mh fun y hy=>h y (List.mem_cons_of_mem _ hy)]
theorem ak0 (x:St):(ord x).length=cn x:=by
 induction x using St.ind with
 | h x h1 h2=>
  rw[yJ,zq,List.length_cons,List.length_append,Mh h1,Mh h2]
theorem Mg (l:List St):(eU l).length=eF l:=Mh fun x _=>ak0 x
theorem KF:∀{l:List St},(∀x∈l,dp x<=cn x)->gH l<=eF l
 | [],_=>ah _
 | x::t,h=>by
  have h1:=h x List.mem_cons_self;have h2:=KF fun y hy=>h y (List.mem_cons_of_mem _ hy);rw[gH,eF];omega
theorem ahn (x:St):dp x<=cn x:=by
 induction x using St.ind with
 | h x h1 h2=>
  have a:=KF h1;have b:=KF h2;rw[Qf,zq];omega
theorem KD (l:List St):gH l<=eF l:=KF fun x _=>ahn x
theorem Zx (l:List St) (k:Nat):oq (l.take k)<=eF l:=ak (Zy _) (ak (ahm l k) (KD l))
def lD (x y:Dt):Bool:=decide (x.op=y.op)&&(decide (x.a=y.a)&&(decide (x.b=y.b)&&(decide (x.n=y.n)&&(decide (x.vs=y.vs)&&decide (x.ws=y.ws)))))
theorem amF {x y:Dt}:lD x y=true↔x=y:=by
 obtain⟨a,b,c,d,e,f⟩:=x;obtain⟨a',b',c',d',e',f'⟩:=y;simp[lD]
def zZ (x y:St):Bool:=decide (x.o=y.o)&&decide (bs x.nm=bs y.nm)&&decide (bs x.f=bs y.f)&&(x.fl==y.fl)&&Ex.same x.e y.e&&Ex.same x.g y.g&&Ex.jU x.ar y.ar&&lD x.di y.di
mutual
def yP:St->St->Bool
 | .mk o nm f e g ar di fl bo el,y=>zZ (.mk o nm f e g ar di fl bo el) y&&kr bo y.bo&&kr el y.el
def kr:List St->List St->Bool
 | [],[]=>true
 | x::t,y::u=>yP x y&&kr t u
 | [],_::_=>false
 | _::_,[]=>false
end
theorem SC (x y:St):yP x y=(zZ x y&&kr x.bo y.bo&&kr x.el y.el):=by obtain⟨o,nm,f,e,g,ar,di,fl,bo,el⟩:=x;rw[yP];rfl
theorem amI (x y:St) (t u:List St):kr (x::t) (y::u)=(yP x y&&kr t u):=by rw[kr]
theorem MH:∀{l m:List St},(∀x∈l,∀y,yP x y=true↔x=y)->(kr l m=true↔l=m)
 | [],[],_=>by simp[kr]
 | x::t,y::u,h=>by
  rw[amI,au,h x List.mem_cons_self y,MH fun z hz=>h z (List.mem_cons_of_mem _ hz),List.cons.injEq]
 | [],_::_,_=>by simp[kr]
 | _::_,[],_=>by simp[kr]
theorem SB (x:St):∀y,yP x y=true↔x=y:=by
 induction x using St.ind with
 | h x h1 h2=>
  intro y;rw[SC,au,au,MH h1,MH h2];obtain⟨o,nm,f,e,g,ar,di,fl,bo,el⟩:=x;obtain⟨o',nm',f',e',g',Vj,di',fl',Pb,el'⟩:=y;simp only[zZ,au,decide_eq_true_eq,beq_iff_eq,amF,Ex.same_iff];simp only[St.o,St.nm,St.f,St.e,St.g,St.ar,St.di,St.fl,St.bo,St.el,St.mk.injEq];have e1:bs nm=bs nm'↔nm=nm':=⟨jl,fun h=>by rw[h]⟩
  have e2:bs f=bs f'↔f=f':=⟨jl,fun h=>by rw[h]⟩
  have e3:Ex.jU ar Vj=true↔ar=Vj:=⟨Ex.IP,fun h=>by rw[h];exact Ex.IQ _⟩
  rw[e1,e2,e3];constructor
  · rintro⟨⟨⟨⟨⟨⟨⟨⟨⟨q1,q2⟩,q3⟩,q4⟩,q5⟩,q6⟩,q7⟩,q8⟩,q9⟩,vG⟩;exact⟨q1,q2,q3,q5,q6,q7,q8,q4,q9,vG⟩
  · rintro⟨q1,q2,q3,q5,q6,q7,q8,q4,q9,vG⟩;exact⟨⟨⟨⟨⟨⟨⟨⟨⟨q1,q2⟩,q3⟩,q4⟩,q5⟩,q6⟩,q7⟩,q8⟩,q9⟩,vG⟩
theorem SA {l m:List St}:kr l m=true↔l=m:=MH fun x _=>SB x
theorem amK (l:List St):kr l l=true:=SA.2 rfl
theorem amJ {a b:List St} (h:¬a.length=b.length):kr a b=false:=by
 cases g:kr a b with
 | false=>rfl
 | true=>exact absurd (by rw[SA.1 g]) h
theorem amL {l l2:List St} {k:Nat} {x y:St} (hx:l[k]?=V x) (hy:l2[k]?=V y) (h:yP x y=false):kr l l2=false:=by
 cases g:kr l l2 with
 | false=>rfl
 | true=>
  have:=SA.1 g;subst this;rw[hx] at hy;cases hy
  rw[(SB x x).2 rfl] at h;cases h
theorem aoa {l l2:List St} {k:Nat} {x y:St} (hx:l[k]?=V x) (hy:l2[k]?=V y) (h:yP x y=true) (g:l.take k=l2.take k):l.take (k+1)=l2.take (k+1):=by rw[take_one hx,take_one hy,(SB x y).1 h,g]
def kn (o:Int):Bool:=decide (1<=o)&&decide (o<=18)
def uN (o:Int):Bool:=decide (o=1∨o=2∨o=6∨o=7∨o=8∨o=9∨o=10∨o=11∨o=12∨o=13∨o=14∨o=15∨o=16∨o=17)
def uO (o:Int):Bool:=decide (o=2∨o=9∨o=13)
def uE (o:Int):Bool:=decide (o=1∨o=3∨o=4∨o=5∨o=6∨o=7∨o=8∨o=12∨o=13∨o=14∨o=15∨o=16∨o=17)
def uF (o:Int):Bool:=decide (o=6)
def uA (o:Int):Bool:=decide (o=13∨o=14)
def uD (o:Int):Bool:=decide (o=2)
def uG (o:Int):Bool:=decide (o=6)
def uB (o:Int):Bool:=decide (o=3∨o=4)
def uL (o:Int):Bool:=decide (o=3)
abbrev nE:ByteArray:=⟨#[]⟩
def zE:Ex:=.mk 0 nE 0 []
def zD:Dt:=⟨0,0,0,0,[],[]⟩
def QA (x:St):Bool:=(uN x.o||decide (bs x.nm=[]))&&(uO x.o||decide (bs x.f=[]))&&(uE x.o||Ex.same x.e zE)&&(uF x.o||Ex.same x.g zE)&&(uA x.o||decide (x.ar.length=0))&&(uD x.o||lD x.di zD)&&(uG x.o || !x.fl)&&(uB x.o||decide (x.bo.length=0))&&(uL x.o||decide (x.el.length=0))
def dN (a b:Int):Int:=if a=0 then b else a
def onE (u:Bool) (v:Int):Int:=if u then v else 0
def oK:List Ex->Int
 | []=>0
 | x::t=>dN (fI false x) (oK t)
def BU (l:List Ex):Int:=if 6<l.length then 6 else oK l
def qm (d:Dt):Int:=Di.Cm d.op d.a d.b d.n d.vs.length d.ws.length (fun i=>d.vs.getD i 0) (fun i=>d.ws.getD i 0)
def abd (x:St):Int:=dN (onE (uN x.o) (fB (bs x.nm))) (dN (onE (uO x.o) (fB (bs x.f))) (dN (onE (uE x.o) (fI false x.e)) (dN (onE (uF x.o) (fI false x.g)) (dN (onE (uA x.o) (BU x.ar)) (onE (uD x.o) (qm x.di))))))
def Dc (x:St):Int:=if kn x.o&&QA x then abd x else 1
def oL:List St->Int
 | []=>0
 | x::t=>dN (Dc x) (oL t)
theorem rT {a b:Int} (h:¬a=0):dN a b=a:=if_neg h
theorem kG {b:Int}:dN 0 b=b:=if_pos rfl
theorem rU (a:Int):dN a 0=a:=by unfold dN;split <;> simp_all
theorem A_ (a b c:Int):dN (dN a b) c=dN a (dN b c):=by unfold dN;split <;> simp_all
theorem O1:∀a b:List Ex,oK (a++b)=dN (oK a) (oK b)
 | [],b=>kG.symm
 | x::t,b=>by rw[ai,oK,oK,O1 t b,A_]
theorem Vo {l:List Ex} {k:Nat} {x:Ex} (h:l[k]?=V x):oK (l.take (k+1))=dN (oK (l.take k)) (fI false x):=by rw[take_one h,O1];simp[oK,rU]
theorem aeO {l:List Ex} {k:Nat} {x:Ex} (h:l[k]?=V x) (h0:oK (l.take k)=0) (h1:¬fI false x=0):oK l=fI false x:=by
 have h2:=O1 (l.take (k+1)) (l.drop (k+1));rw[List.take_append_drop,Vo h,h0,kG,rT h1] at h2;exact h2
theorem O3:∀a b:List St,oL (a++b)=dN (oL a) (oL b)
 | [],b=>kG.symm
 | x::t,b=>by rw[ai,oL,oL,O3 t b,A_]
theorem aeP {l:List St} {x:St} (h:oL l=0):oL (l++[x])=Dc x:=by rw[O3,h,kG,oL,oL,rU]
def kF (l:List St):Int:=if 200<eF l then 6 else if 12<gH l then 11 else oL (eU l)
end Sm
namespace Sm
open Go.RowKit
open Ex (Ex bX In Sz Lo)
structure Pl where
 ep:Option aj
 em:Nat
 ec:Nat
 gp:Option aj
 gm:Nat
 gc:Nat
 ap:Option aj
 am:Nat
 ac:Nat
 vp:Option aj
 vm:Nat
 vc:Nat
 wp:Option aj
 wm:Nat
 wc:Nat
 bp:Option aj
 bm:Nat
 bc:Nat
 lp:Option aj
 lm:Nat
 lc:Nat
def cs (x:St) (P:Pl):Array Value:=#[.int .i64 x.o,.string x.nm,.string x.f,.int .i64 x.e.o,.string x.e.s,.int .i64 x.e.n,.slice P.ep P.em P.ec,.int .i64 x.g.o,.string x.g.s,.int .i64 x.g.n,.slice P.gp P.gm P.gc,.slice P.ap P.am P.ac,.int .i64 x.di.op,.int .i64 x.di.a,.int .i64 x.di.b,.int .i64 x.di.n,.slice P.vp P.vm P.vc,.slice P.wp P.wm P.wc,.bool x.fl,.slice P.bp P.bm P.bc,.slice P.lp P.lm P.lc]
theorem WI (x:St) (P:Pl):(cs x P).size=21:=rfl
theorem jF (x:St) (P:Pl):(cs x P).all (·.oneCell')=true:=by unfold cs;simp[Value.oneCell']
theorem cs0 (x:St) (P:Pl):(cs x P)[0]?=V (.int .i64 x.o):=rfl
theorem cs1 (x:St) (P:Pl):(cs x P)[1]?=V (.string x.nm):=rfl
theorem cs2 (x:St) (P:Pl):(cs x P)[2]?=V (.string x.f):=rfl
theorem uW (x:St) (P:Pl):(cs x P)[3]?=V (.int .i64 x.e.o):=rfl
theorem uX (x:St) (P:Pl):(cs x P)[4]?=V (.string x.e.s):=rfl
theorem uY (x:St) (P:Pl):(cs x P)[5]?=V (.int .i64 x.e.n):=rfl
theorem uZ (x:St) (P:Pl):(cs x P)[6]?=V (.slice P.ep P.em P.ec):=rfl
theorem u_ (x:St) (P:Pl):(cs x P)[7]?=V (.int .i64 x.g.o):=rfl
theorem ve (x:St) (P:Pl):(cs x P)[8]?=V (.string x.g.s):=rfl
theorem vg (x:St) (P:Pl):(cs x P)[9]?=V (.int .i64 x.g.n):=rfl
theorem uI (x:St) (P:Pl):(cs x P)[10]?=V (.slice P.gp P.gm P.gc):=rfl
theorem uJ (x:St) (P:Pl):(cs x P)[11]?=V (.slice P.ap P.am P.ac):=rfl
theorem uK (x:St) (P:Pl):(cs x P)[12]?=V (.int .i64 x.di.op):=rfl
theorem uM (x:St) (P:Pl):(cs x P)[13]?=V (.int .i64 x.di.a):=rfl
theorem uP (x:St) (P:Pl):(cs x P)[14]?=V (.int .i64 x.di.b):=rfl
theorem uQ (x:St) (P:Pl):(cs x P)[15]?=V (.int .i64 x.di.n):=rfl
theorem uR (x:St) (P:Pl):(cs x P)[16]?=V (.slice P.vp P.vm P.vc):=rfl
theorem uS (x:St) (P:Pl):(cs x P)[17]?=V (.slice P.wp P.wm P.wc):=rfl
theorem uT (x:St) (P:Pl):(cs x P)[18]?=V (.bool x.fl):=rfl
theorem uU (x:St) (P:Pl):(cs x P)[19]?=V (.slice P.bp P.bm P.bc):=rfl
theorem uV (x:St) (P:Pl):(cs x P)[20]?=V (.slice P.lp P.lm P.lc):=rfl
def kE (w:U) (g o:Nat) (x:St) (P:Pl):Prop:=∀r v,(cs x P)[r]?=V v->w.cell? ⟨g,o+r,af⟩=V v
theorem kE.keep {w w2:U} {g o:Nat} {x:St} {P:Pl} (hb:w2.heap[g]?=w.heap[g]?) (h:kE w g o x P):kE w2 g o x P:=fun r v hv=>(World.cell?_of_block (w:=w) (a:=⟨g,o+r,af⟩) hb).trans (h r v hv)
theorem kE.on {w w2:U} {g o:Nat} {x:St} {P:Pl} (hb:Below w.heap.size w w2) (hg:g<w.heap.size) (h:kE w g o x P):kE w2 g o x P:=h.keep (hb.block g hg)
theorem IY:(Tryz.prog.info? 62).map (·.size)=V 21:=by kernel_rfl
theorem anF:∃d,Tryz.prog.underlying 62=V d/\d.isRow=true:=⟨_,Tryz.underlying62,rfl⟩
theorem kE.range {w:U} {g o:Nat} {x:St} {P:Pl} (h:kE w g o x P):w.rangeAt g o (cs x P).toList:=fun j v hv=>h j v NW
theorem kE.load {w:U} {g o:Nat} {x:St} {P:Pl} (h:kE w g o x P):(loadCellsFrom ⟨g,o,af⟩ 0 21 #[]).run ae w=.ok (cs x P) w:=by
 have:=run_loadCells_list (P:=ae) w ⟨g,o,af⟩ (cs x P).toList (fun j v hv=>by rw[Addr.add_mid];exact h j v NW);rw[Array.length_toList,WI,Array.toArray_toList] at this;exact this
theorem kE.loadVar {w:U} {g o:Nat} {x:St} {P:Pl} (h:kE w g o x P):(loadVar 62 ⟨g,o,af⟩).run ae w=.ok (.agg (cs x P)) w:=by
 obtain⟨d,h1,h2⟩:=anF;have:=run_loadVar_mid (P:=ae) w g o 62 (cs x P).toList d h.range h1 h2 (by rw[IY];rfl);rwa [Array.toArray_toList] at this
theorem kE.loadAt {w:U} {g o:Nat} {x:St} {P:Pl} (h:kE w g o x P):(Instr.loadAt 62 (.pointer (V ⟨g,o,af⟩))).run ae w=.ok (.agg (cs x P)) w:=by
 simp only[Instr.loadAt,Instr.sureAddr,Sem.run_bind,Sem.run_pure,Result.andThen_ok,h.loadVar]
theorem kE.fZ {w:U} {g o n:Nat} {x:St} {P:Pl} (h:kE w g o x P) (hn:21=n):(loadCellsFrom ⟨g,o,af⟩ 0 n #[]).run ae w=.ok (cs x P) w:=by subst hn;exact h.load
theorem kE.at {w:U} {g o k n:Nat} {x:St} {P:Pl} (h:kE w g (o+k*21) x P) (hn:21=n):kE w g (o+k*n) x P:=by subst hn;exact h
theorem IZ (x:St) (P:Pl) (z:Array Value) (hz:z.size=21) (w:U):(storeCells ⟨w.heap.size,0,af⟩ (cs x P).toList 0).run ae (w.alloc (.cells z 62))=.ok () (w.alloc (.cells (cs x P) 62)):=
 run_storeCells_new w _ _ _ (by rw[IY];rfl) hz (jF x P)
theorem I5 (x:St) (P:Pl) (z:Array Value) (hz:z.size=21) (w:U):(storeVar 62 ⟨w.heap.size,0,af⟩ (.agg (cs x P))).run ae (w.alloc (.cells z 62))=.ok () (w.alloc (.cells (cs x P) 62)):=
 run_storeVar_new w _ _ _ (by rw[IY];rfl) hz (jF x P)
theorem I4 (x:St) (P:Pl) (z:Array Value) (hz:z.size=21) (w:U):(Instr.storeAt 62 (.pointer (V ⟨w.heap.size,0,af⟩)) (.agg (cs x P))).run ae (w.alloc (.cells z 62))=.ok () (w.alloc (.cells (cs x P) 62)):=
 run_storeAt_new w _ _ _ (by rw[IY];rfl) hz (jF x P)
def dB (w:U) (g:Nat) (x:St) (P:Pl):Prop:=w.heap[g]?=V (.cells (cs x P) 62 (0,0))
theorem dB.cell {w:U} {g:Nat} {x:St} {P:Pl} (h:dB w g x P):kE w g 0 x P:=fun r v hv=>by
 rw[Nat.zero_add,cell_of_row w g r _ _ _ h];exact hv
theorem dB.c0 {w:U} {g:Nat} {x:St} {P:Pl} (h:dB w g x P):w.cell? ⟨g,0,af⟩=V (.int .i64 x.o):=cell_of_row w g 0 _ _ _ h
theorem dB.c1 {w:U} {g:Nat} {x:St} {P:Pl} (h:dB w g x P):w.cell? ⟨g,1,af⟩=V (.string x.nm):=cell_of_row w g 1 _ _ _ h
theorem dB.c2 {w:U} {g:Nat} {x:St} {P:Pl} (h:dB w g x P):w.cell? ⟨g,2,af⟩=V (.string x.f):=cell_of_row w g 2 _ _ _ h
theorem dB.c3 {w:U} {g:Nat} {x:St} {P:Pl} (h:dB w g x P):w.cell? ⟨g,3,af⟩=V (.int .i64 x.e.o):=cell_of_row w g 3 _ _ _ h
theorem dB.c4 {w:U} {g:Nat} {x:St} {P:Pl} (h:dB w g x P):w.cell? ⟨g,4,af⟩=V (.string x.e.s):=cell_of_row w g 4 _ _ _ h
theorem dB.c5 {w:U} {g:Nat} {x:St} {P:Pl} (h:dB w g x P):w.cell? ⟨g,5,af⟩=V (.int .i64 x.e.n):=cell_of_row w g 5 _ _ _ h
theorem dB.c6 {w:U} {g:Nat} {x:St} {P:Pl} (h:dB w g x P):w.cell? ⟨g,6,af⟩=V (.slice P.ep P.em P.ec):=cell_of_row w g 6 _ _ _ h
theorem dB.c7 {w:U} {g:Nat} {x:St} {P:Pl} (h:dB w g x P):w.cell? ⟨g,7,af⟩=V (.int .i64 x.g.o):=cell_of_row w g 7 _ _ _ h
theorem dB.c8 {w:U} {g:Nat} {x:St} {P:Pl} (h:dB w g x P):w.cell? ⟨g,8,af⟩=V (.string x.g.s):=cell_of_row w g 8 _ _ _ h
theorem dB.c9 {w:U} {g:Nat} {x:St} {P:Pl} (h:dB w g x P):w.cell? ⟨g,9,af⟩=V (.int .i64 x.g.n):=cell_of_row w g 9 _ _ _ h
theorem dB.c10 {w:U} {g:Nat} {x:St} {P:Pl} (h:dB w g x P):w.cell? ⟨g,10,af⟩=V (.slice P.gp P.gm P.gc):=cell_of_row w g 10 _ _ _ h
theorem dB.c11 {w:U} {g:Nat} {x:St} {P:Pl} (h:dB w g x P):w.cell? ⟨g,11,af⟩=V (.slice P.ap P.am P.ac):=cell_of_row w g 11 _ _ _ h
theorem dB.c12 {w:U} {g:Nat} {x:St} {P:Pl} (h:dB w g x P):w.cell? ⟨g,12,af⟩=V (.int .i64 x.di.op):=cell_of_row w g 12 _ _ _ h
theorem dB.c13 {w:U} {g:Nat} {x:St} {P:Pl} (h:dB w g x P):w.cell? ⟨g,13,af⟩=V (.int .i64 x.di.a):=cell_of_row w g 13 _ _ _ h
theorem dB.c14 {w:U} {g:Nat} {x:St} {P:Pl} (h:dB w g x P):w.cell? ⟨g,14,af⟩=V (.int .i64 x.di.b):=cell_of_row w g 14 _ _ _ h
theorem dB.c15 {w:U} {g:Nat} {x:St} {P:Pl} (h:dB w g x P):w.cell? ⟨g,15,af⟩=V (.int .i64 x.di.n):=cell_of_row w g 15 _ _ _ h
theorem dB.c16 {w:U} {g:Nat} {x:St} {P:Pl} (h:dB w g x P):w.cell? ⟨g,16,af⟩=V (.slice P.vp P.vm P.vc):=cell_of_row w g 16 _ _ _ h
theorem dB.c17 {w:U} {g:Nat} {x:St} {P:Pl} (h:dB w g x P):w.cell? ⟨g,17,af⟩=V (.slice P.wp P.wm P.wc):=cell_of_row w g 17 _ _ _ h
theorem dB.c18 {w:U} {g:Nat} {x:St} {P:Pl} (h:dB w g x P):w.cell? ⟨g,18,af⟩=V (.bool x.fl):=cell_of_row w g 18 _ _ _ h
theorem dB.c19 {w:U} {g:Nat} {x:St} {P:Pl} (h:dB w g x P):w.cell? ⟨g,19,af⟩=V (.slice P.bp P.bm P.bc):=cell_of_row w g 19 _ _ _ h
theorem dB.c20 {w:U} {g:Nat} {x:St} {P:Pl} (h:dB w g x P):w.cell? ⟨g,20,af⟩=V (.slice P.lp P.lm P.lc):=cell_of_row w g 20 _ _ _ h
theorem zm {w:U} {x:St} {P:Pl}:dB (w.alloc (.cells (cs x P) 62)) w.heap.size x P:=World.alloc_heap_new w _
theorem dB.lt {w:U} {g:Nat} {x:St} {P:Pl} (h:dB w g x P):g<w.heap.size:=(Array.getElem?_eq_some_iff.1 h).1
theorem dB.keep {w w2:U} {g:Nat} {x:St} {P:Pl} (hb:w2.heap[g]?=w.heap[g]?) (h:dB w g x P):dB w2 g x P:=hb.trans h
theorem dB.on {w w2:U} {g:Nat} {x:St} {P:Pl} (hb:Below w.heap.size w w2) (h:dB w g x P):dB w2 g x P:=h.keep (hb.block g h.lt)
def qH (G:Nat->Prop) (w:U) (n m:Nat) (p:Option aj) (R:Nat->Nat->Prop):Prop:=n=m/\m<=9223372036854775807/\(m=0∨∃b o,p=V ⟨b,o,af⟩/\G b/\b<w.heap.size/\R b o)
def Ints (G:Nat->Prop) (w:U) (l:List Int) (p:Option aj) (m:Nat):Prop:=qH G w l.length m p fun b o=>Hid (∀k,(h:k<l.length)->w.cell? ⟨b,o+k,af⟩=V (.int .i64 l[k]))
def Au (G:Nat->Prop) (w:U) (e g:Ex) (ar:List Ex) (di:Dt) (P:Pl):Prop:=bX G w e P.ep P.em/\bX G w g P.gp P.gm/\bX G w (.mk 0 nE 0 ar) P.ap P.am/\Ints G w di.vs P.vp P.vm/\Ints G w di.ws P.wp P.wm
mutual
def dh (G:Nat->Prop) (w:U):St->Pl->Prop
 | .mk _ _ _ e g ar di _ bo el,P=>Au G w e g ar di P/\qH G w bo.length P.bm P.bp (fun b o=>Hid (BR G w bo b o))/\qH G w el.length P.lm P.lp (fun b o=>Hid (BR G w el b o))
def BR (G:Nat->Prop) (w:U):List St->Nat->Nat->Prop
 | [],_,_=>True
 | x::t,b,o=>(∃P,kE w b o x P/\dh G w x P)/\BR G w t b (o+21)
end
def dA (G:Nat->Prop) (w:U) (l:List St) (p:Option aj) (m:Nat):Prop:=qH G w l.length m p fun b o=>Hid (∀k,(h:k<l.length)->∃P,kE w b (o+k*21) l[k] P/\dh G w l[k] P)
theorem MB {G:Nat->Prop} {w:U}:∀{l:List St} {b o:Nat},BR G w l b o ↔ ∀k,(h:k<l.length)->∃P,kE w b (o+k*21) l[k] P/\dh G w l[k] P
 | [],b,o=>⟨fun _ k h=>absurd h (Nat.not_lt_zero _),fun _=>by rw[BR];trivial⟩
 | x::t,b,o=>by
  rw[BR];constructor
  · rintro⟨h1,h2⟩ k hk
    match k,hk with
    | 0,_=>rw[show o+0*21=o by omega];exact h1
    | k+1,hk=>
     have:=MB.1 h2 k (by simpa using hk);rw[show o+21+k*21=o+(k+1)*21 by omega] at this;exact this
  · intro h;refine⟨by have:=h 0 cK;rw[show o+0*21=o by omega] at this;exact this,MB.2 fun k hk=>?_⟩;have:=h (k+1) (by simpa using hk);rw[show o+(k+1)*21=o+21+k*21 by omega] at this;exact this
theorem qH.imp {G H:Nat->Prop} {w w2:U} {n m:Nat} {p:Option aj} {R R':Nat->Nat->Prop} (hs:w.heap.size<=w2.heap.size) (hk:∀b,G b->b<w.heap.size->H b/\w2.heap[b]?=w.heap[b]?) (hR:∀b o,G b->b<w.heap.size->R b o->R' b o) (h:qH G w n m p R):qH H w2 n m p R':=by
 obtain⟨h1,h2,h3|⟨b,o,rfl,hg,hb,h4⟩⟩:=h
 · exact⟨h1,h2,.inl h3⟩
 · exact⟨h1,h2,.inr ⟨b,o,rfl,(hk b hg hb).1,by omega,hR b o hg hb h4⟩⟩
theorem pq {G:Nat->Prop} {w:U} {x:St} {P:Pl}:dh G w x P↔Au G w x.e x.g x.ar x.di P/\dA G w x.bo P.bp P.bm/\dA G w x.el P.lp P.lm:=by
 obtain⟨o,nm,f,e,g,ar,di,fl,bo,el⟩:=x;rw[dh];have key:∀(l:List St) (p:Option aj) (m:Nat),qH G w l.length m p (fun b o=>Hid (BR G w l b o))↔dA G w l p m:=fun l p m=>
  ⟨qH.imp (ah _) (fun b hg _=>⟨hg,rfl⟩) (fun b o _ _ h=>Lib.hid (MB.1 h.out)),qH.imp (ah _) (fun b hg _=>⟨hg,rfl⟩) (fun b o _ _ h=>Lib.hid (MB.2 h.out))⟩
 rw[key,key];rfl
theorem Ints.map {G H:Nat->Prop} {w w2:U} (hs:w.heap.size<=w2.heap.size) (hk:∀b,G b->b<w.heap.size->H b/\w2.heap[b]?=w.heap[b]?) {l:List Int} {p:Option aj} {m:Nat} (h:Ints G w l p m):Ints H w2 l p m:=
 qH.imp hs hk (fun b o hg hb h=>Lib.hid fun k hl=>(World.cell?_of_block (w:=w) (a:=⟨b,o+k,af⟩) (hk b hg hb).2).trans (h.out k hl)) h
theorem Au.map {G H:Nat->Prop} {w w2:U} (hs:w.heap.size<=w2.heap.size) (hk:∀b,G b->b<w.heap.size->H b/\w2.heap[b]?=w.heap[b]?) {e g:Ex} {ar:List Ex} {di:Dt} {P:Pl} (h:Au G w e g ar di P):Au H w2 e g ar di P:=
 ⟨bX.map hs hk e h.1,bX.map hs hk g h.2.1,bX.map hs hk _ h.2.2.1,h.2.2.2.1.map hs hk,h.2.2.2.2.map hs hk⟩
theorem dA.RA {G H:Nat->Prop} {w w2:U} (hs:w.heap.size<=w2.heap.size) (hk:∀b,G b->b<w.heap.size->H b/\w2.heap[b]?=w.heap[b]?) {l:List St} (ih:∀x∈l,∀{P:Pl},dh G w x P->dh H w2 x P) {p:Option aj} {m:Nat} (h:dA G w l p m):dA H w2 l p m:=
 qH.imp hs hk (fun b o hg hb h=>Lib.hid fun k hl=>let ⟨P,h1,h2⟩:=h.out k hl;⟨P,h1.keep (hk b hg hb).2,ih _ (List.getElem_mem hl) h2⟩) h
theorem dh.map {G H:Nat->Prop} {w w2:U} (hs:w.heap.size<=w2.heap.size) (hk:∀b,G b->b<w.heap.size->H b/\w2.heap[b]?=w.heap[b]?) (x:St):∀{P:Pl},dh G w x P->dh H w2 x P:=by
 induction x using St.ind with
 | h x h1 h2=>
  intro P h;rw[pq] at h ⊢;exact⟨h.1.map hs hk,dA.RA hs hk h1 h.2.1,dA.RA hs hk h2 h.2.2⟩
theorem dA.map {G H:Nat->Prop} {w w2:U} (hs:w.heap.size<=w2.heap.size) (hk:∀b,G b->b<w.heap.size->H b/\w2.heap[b]?=w.heap[b]?) {l:List St} {p:Option aj} {m:Nat} (h:dA G w l p m):dA H w2 l p m:=dA.RA hs hk (fun x _=>dh.map hs hk x) h
theorem dA.mono {G H:Nat->Prop} {w:U} {l:List St} {p:Option aj} {m:Nat} (hk:∀b,G b->b<w.heap.size->H b) (h:dA G w l p m):dA H w l p m:=h.map (ah _) fun b g hb=>⟨hk b g hb,rfl⟩
theorem dh.mono {G H:Nat->Prop} {w:U} {x:St} {P:Pl} (hk:∀b,G b->b<w.heap.size->H b) (h:dh G w x P):dh H w x P:=dh.map (ah _) (fun b g hb=>⟨hk b g hb,rfl⟩) x h
abbrev pY (w:U) (l:List St) (p:Option aj) (m:Nat):Prop:=dA (Lo w.heap.size) w l p m
abbrev uo (w:U) (x:St) (P:Pl):Prop:=dh (Lo w.heap.size) w x P
theorem dA.below {B:Nat} {w w2:U} {l:List St} {p:Option aj} {m:Nat} (hb:Below B w w2) (h:dA (Lo B) w l p m):dA (Lo B) w2 l p m:=h.map hb.size fun b g _=>⟨g,hb.block b g⟩
theorem dh.below {B:Nat} {w w2:U} {x:St} {P:Pl} (hb:Below B w w2) (h:dh (Lo B) w x P):dh (Lo B) w2 x P:=dh.map hb.size (fun b g _=>⟨g,hb.block b g⟩) x h
theorem dA.all {G:Nat->Prop} {w:U} {l:List St} {p:Option aj} {m:Nat} (h:dA G w l p m):pY w l p m:=h.mono fun b _ hb=>hb
theorem dh.all {G:Nat->Prop} {w:U} {x:St} {P:Pl} (h:dh G w x P):uo w x P:=h.mono fun b _ hb=>hb
theorem dA.on {w w2:U} {l:List St} {p:Option aj} {m:Nat} (hb:Below w.heap.size w w2) (h:pY w l p m):pY w2 l p m:=(h.below hb).all
theorem dh.on {w w2:U} {x:St} {P:Pl} (hb:Below w.heap.size w w2) (h:uo w x P):uo w2 x P:=(h.below hb).all
theorem dA.len {G:Nat->Prop} {w:U} {l:List St} {p:Option aj} {m:Nat} (h:dA G w l p m):l.length=m/\m<=9223372036854775807:=⟨h.1,h.2.1⟩
theorem dA.nil {G:Nat->Prop} {w:U} {p:Option aj}:dA G w [] p 0:=⟨rfl,by omega,.inl rfl⟩
theorem dA.rows {G:Nat->Prop} {w:U} {l:List St} {p:Option aj} {m:Nat} (h:dA G w l p m) (hm:0<m):∃b o,p=V ⟨b,o,af⟩/\G b/\b<w.heap.size/\Hid (∀k,(h:k<l.length)->∃P,kE w b (o+k*21) l[k] P/\dh G w l[k] P):=by
 rcases h.2.2 with h|h
 · omega
 · exact h
theorem dh.bo {G:Nat->Prop} {w:U} {x:St} {P:Pl} (h:dh G w x P):dA G w x.bo P.bp P.bm:=(pq.1 h).2.1
theorem dh.el {G:Nat->Prop} {w:U} {x:St} {P:Pl} (h:dh G w x P):dA G w x.el P.lp P.lm:=(pq.1 h).2.2
theorem dh.De {G:Nat->Prop} {w:U} {x:St} {P:Pl} (h:dh G w x P):Au G w x.e x.g x.ar x.di P:=(pq.1 h).1
theorem dh.e {G:Nat->Prop} {w:U} {x:St} {P:Pl} (h:dh G w x P):In w x.e P.ep P.em:=h.De.1.all
theorem dh.g {G:Nat->Prop} {w:U} {x:St} {P:Pl} (h:dh G w x P):In w x.g P.gp P.gm:=h.De.2.1.all
theorem dh.ar {G:Nat->Prop} {w:U} {x:St} {P:Pl} (h:dh G w x P):In w (.mk 0 nE 0 x.ar) P.ap P.am:=h.De.2.2.1.all
theorem Ints.row {G:Nat->Prop} {w:U} {l:List Int} {p:Option aj} {m:Nat} (h:Ints G w l p m):Di.Row w p l.length (fun i=>l.getD i 0):=by
 obtain⟨h1,h2,h3|⟨b,o,rfl,hg,hb,h4⟩⟩:=h
 · exact⟨by omega,.inl bT⟩
 · refine⟨by omega,.inr ⟨b,o,rfl,hb,Lib.hid fun i hi=>?_⟩⟩;rw[h4.out i hi];simp[List.getD,ag hi]
theorem dh.vs {G:Nat->Prop} {w:U} {x:St} {P:Pl} (h:dh G w x P):Di.Row w P.vp x.di.vs.length (fun i=>x.di.vs.getD i 0):=h.De.2.2.2.1.row
theorem dh.ws {G:Nat->Prop} {w:U} {x:St} {P:Pl} (h:dh G w x P):Di.Row w P.wp x.di.ws.length (fun i=>x.di.ws.getD i 0):=h.De.2.2.2.2.row
theorem dh.Ja {G:Nat->Prop} {w:U} {x:St} {P:Pl} (h:dh G w x P):x.di.vs.length=P.vm:=h.De.2.2.2.1.1
theorem dh.Jd {G:Nat->Prop} {w:U} {x:St} {P:Pl} (h:dh G w x P):x.di.ws.length=P.wm:=h.De.2.2.2.2.1
def BS (x:St):Prop:=x.nm.size<=140737488355328/\x.f.size<=140737488355328/\(Sz x.e/\Ex.cnt x.e<=1000000)/\(Sz x.g/\Ex.cnt x.g<=1000000)/\∀y∈x.ar,Sz y/\Ex.cnt y<=1000000
def kP (l:List St):Prop:=∀x∈eU l,BS x
theorem kP.mem {l:List St} (h:kP l) {x:St} (hx:x∈l):BS x:=h x (akX hx)
theorem kP.bo {l:List St} (h:kP l) {x:St} (hx:x∈l):kP x.bo:=fun y hy=>h y (Mi hx (akY hy))
theorem kP.el {l:List St} (h:kP l) {x:St} (hx:x∈l):kP x.el:=fun y hy=>h y (Mi hx (akZ hy))
theorem kP.app {a b:List St} (ha:kP a) (hb:kP b):kP (a++b):=fun x hx=>by
 rw[Fe] at hx;rcases List.mem_append.1 hx with h|h
 · exact ha x h
 · exact hb x h
end Sm
namespace Sm
open Go.ChangeShapes Go.WideShapes Go.ChangeAt Go.RowKit Go.Joins Go.Deep
open Ex (Ex bX In iQ nI block_lt wu)
section
variable {H:Type} {enc:TypeId×Value->H}
abbrev bk (d:DataW H):Nat:=Rows.uptoBulk d
abbrev ym (l:List (DataW H)):Nat:=Rows.uptoBulkAll l
theorem O_ (d:DataW H):1<=bk d:=by
 cases d with
 | lit l=>cases l <;> simp[bk,Rows.uptoBulk]
 | nil=>simp[bk,Rows.uptoBulk]
 | ptr d=>simp[bk,Rows.uptoBulk]
 | slice elems spare=>simp[bk,Rows.uptoBulk]
 | agg parts=>simp[bk,Rows.uptoBulk]
 | iface t d=>simp[bk,Rows.uptoBulk]
 | map entries=>simp[bk,Rows.uptoBulk]
 | held h=>simp[bk,Rows.uptoBulk]
theorem ae0 {d:DataW H} {l:List (DataW H)} (h:d∈l):bk d<=ym l:=by
 induction l with
 | nil=>cases h
 | cons x r ih=>
  simp only[ym,bk,Rows.uptoBulkAll] at ih ⊢;rcases List.mem_cons.1 h with rfl|h
  · omega
  · have:=ih h;omega
theorem ab3 (E:Nat->Ex) (D:Nat->DataW H):∀(l:List Nat),(∀i∈l,5*Ex.cnt (E i)<=bk (D i))->5*Ex.gq (l.map E)<=ym (l.map D)
 | [],_=>by simp[Ex.gq]
 | i::t,h=>by
  have h1:=h i List.mem_cons_self;have h2:=ab3 E D t fun j hj=>h j (List.mem_cons_of_mem _ hj);simp only[List.map_cons,Ex.gq,ym,bk,Rows.uptoBulkAll] at h1 h2 ⊢;omega
theorem aj1 {α:Type} {l:List α} {a b c d:α} (h:l.length=4) (h0:l[0]?=V a) (h1:l[1]?=V b) (h2:l[2]?=V c) (h3:l[3]?=V d):l=[a,b,c,d]:=by
 match l,h with
 | [w,x,y,z],_=>simp at h0 h1 h2 h3;subst h0 h1 h2 h3;rfl
theorem ah1 {w:U} (N:Nat):∀{fuel:Nat} {cs:List Value} {y:DataW H×List MemPlace},SizeOf.sizeOf y.1<=N->cs.length=4->DataW.trod enc ae w 0 (fun _=>true) true fuel 25 cs=V y ->
 ∃(e:Ex) (p:Option aj) (m c:Nat),cs=[.int .i64 e.o,.string e.s,.int .i64 e.n,.slice p m c]/\In w e p m/\5*Ex.cnt e<=bk y.1/\∀x∈Ex.pre e,x.s.size<=bk y.1:=by
 induction N with
 | zero=>
  intro fuel cs y hs;exfalso
  cases h:y.1 <;> rw[h] at hs <;> simp at hs
 | succ N ih=>
  intro fuel cs y hN hl hf;obtain⟨f0,f1,f2,f3,hs,h1,hC,t0,t1,t2,t3⟩:=Ex.Qp;obtain⟨c0,c1,c2,c3,rfl⟩:=Ex.air hl;obtain⟨ys,m,-,hy,-,hlen,hg⟩:=DataW.trod_struct hs hf;obtain⟨o0,k0⟩:=hone_of h1 0 f0 rfl;have e0:=hg 0 f0 rfl;rw[o0,k0,t0] at e0;obtain⟨y0,g0⟩:∃y,ys[0]?=V y:=⟨ys[0]'(by rw[hlen];simp),ag _⟩
  rw[g0] at e0;have e0:DataW.trod enc ae w 0 (fun _=>true) true m 22 [c0]=V y0:=by simpa [Value.cells] using e0
  obtain⟨o1,k1⟩:=hone_of h1 1 f1 rfl;have e1:=hg 1 f1 rfl;rw[o1,k1,t1] at e1;obtain⟨y1,g1⟩:∃y,ys[1]?=V y:=⟨ys[1]'(by rw[hlen];simp),ag _⟩
  rw[g1] at e1;have e1:DataW.trod enc ae w 0 (fun _=>true) true m 9 [c1]=V y1:=by simpa [Value.cells] using e1
  obtain⟨o2,k2⟩:=hone_of h1 2 f2 rfl;have e2:=hg 2 f2 rfl;rw[o2,k2,t2] at e2;obtain⟨y2,g2⟩:∃y,ys[2]?=V y:=⟨ys[2]'(by rw[hlen];simp),ag _⟩
  rw[g2] at e2;have e2:DataW.trod enc ae w 0 (fun _=>true) true m 3 [c2]=V y2:=by simpa [Value.cells] using e2
  obtain⟨o3,k3⟩:=hone_of h1 3 f3 rfl;have e3:=hg 3 f3 rfl;rw[o3,k3,t3] at e3;obtain⟨y3,g3⟩:∃y,ys[3]?=V y:=⟨ys[3]'(by rw[hlen];simp),ag _⟩
  rw[g3] at e3;have e3:DataW.trod enc ae w 0 (fun _=>true) true m 23 [c3]=V y3:=by simpa [Value.cells] using e3
  obtain⟨a0,q0,-,-⟩:=DataW.trod_int Tryz.underlying22 e0;obtain⟨s,q1,d1,-⟩:=DataW.trod_string Tryz.underlying9 e1;obtain⟨a2,q2,-,-⟩:=DataW.trod_int Tryz.underlying3 e2;simp only[List.cons.injEq,and_true] at q0 q1 q2;subst q0 q1 q2;have hyb:bk y.1=1+bk y0.1+bk y1.1+bk y2.1+bk y3.1:=by
   have hys:ys=[y0,y1,y2,y3]:=aj1 hlen g0 g1 g2 g3;rw[hy,hys];simp only[List.map_cons,List.map_nil,bk,Rows.uptoBulk,Rows.uptoBulkAll];omega
  have hb0:=O_ y0.1;have hb2:=O_ y2.1;have hb1:bk y1.1=s.size+1:=by rw[d1];simp only[bk,Rows.uptoBulk,Array.length_toList];rfl
  have hb3:=O_ y3.1;have hw1:s.size<=bk y.1:=by omega
  have hs3:SizeOf.sizeOf y3.1<SizeOf.sizeOf y.1:=by
   rw[hy]
   show SizeOf.sizeOf y3.1<SizeOf.sizeOf (DataW.agg (ys.map (·.1)))
   have hm:y3.1∈ys.map (·.1):=List.mem_map.2 ⟨y3,List.mem_of_getElem? g3,rfl⟩;have:=List.sizeOf_lt_of_mem hm;rw[DataW.agg.sizeOf_spec];omega
  rcases open_slice Tryz.underlying23 e3 with⟨hcs,-⟩|⟨a,len,cap,mm,n,D,Pl,hcs,-,hl3,Cu,hmm,hx,hi⟩
  · injection hcs with hcs hnil;subst hcs;refine⟨.mk a0 s a2 [],af,0,0,rfl,Ex.bX.zero,by rw[Ex.yu,Ex.gq];omega,fun x hx=>?_⟩;rw[Ex.Dj,Ex.eD] at hx;rw[List.mem_singleton.1 hx];exact hw1
  · injection hcs with hcs hnil;subst hcs;simp only[if_true] at hmm;have hd:y3.1=.slice ((List.range len).map D) ((List.range (mm-len)).map fun j=>D (len+j)):=congrArg Prod.fst hx;have hcell:∀i,i<len->∃(e:Ex) (p:Option aj) (m c:Nat),(∀r,r<4->w.cell? ((a.add (i*4)).add r)=V (Ex.c4 e p m c r))/\In w e p m/\5*Ex.cnt e<=bk (D i)/\∀x∈Ex.pre e,x.s.size<=bk y.1:=by
     intro i hil;obtain⟨cs',hc,ht'⟩:=hi i bT;rw[hC] at hc;obtain⟨-,hcl,hat⟩:=World.cells?_some hc;have YZ:D i∈(List.range len).map D:=List.mem_map.2 ⟨i,List.mem_range.2 hil,rfl⟩;have hsz:SizeOf.sizeOf (D i)<=N:=by
      have h1:=List.sizeOf_lt_of_mem YZ;rw[hd,DataW.slice.sizeOf_spec] at hs3;omega
     have hDb:bk (D i)<=bk y.1:=by
      have h1:=ae0 YZ;have h2:bk y3.1=ym ((List.range len).map D)+ym ((List.range (mm-len)).map fun j=>D (len+j))+1:=by rw[hd];simp only[bk,ym,Rows.uptoBulk]
      omega
     obtain⟨e,p,m',c',hx2,hin,hcn,hw⟩:=ih (cs:=cs') (y:=(D i,Pl i)) hsz bT ht';refine⟨e,p,m',c',fun r hr=>?_,hin,hcn,fun x hx=>ak (hw x hx) hDb⟩;rw[hat r bT,hx2]
     match r,hr with
     | 0,_=>rfl
     | 1,_=>rfl
     | 2,_=>rfl
     | 3,_=>rfl
    unfold maxLen at Cu;by_cases h0:len=0
    · subst h0;refine⟨.mk a0 s a2 [],V a,0,cap,rfl,Ex.bX.zero,by rw[Ex.yu,Ex.gq];omega,fun x hx=>?_⟩;rw[Ex.Dj,Ex.eD] at hx;rw[List.mem_singleton.1 hx];exact hw1
    · obtain⟨b,off,spot⟩:=a;obtain⟨e0,p0,m0,c0,hx0,-⟩:=hcell 0 bT;have hspot:spot=af:=by simpa [Addr.add] using World.cell?_spot (hx0 0 bT)
      subst hspot;have hb:b<w.heap.size:=by
       have:=hx0 0 bT;rw[wu,wu] at this;exact block_lt this
      have hex:∀i,∃e:Ex,i<len->∃p m c,iQ w b (off+i*4) e p m c/\In w e p m/\5*Ex.cnt e<=bk (D i)/\∀x∈Ex.pre e,x.s.size<=bk y.1:=by
       intro i;by_cases hil:i<len
       · obtain⟨e,p,m',c',h1,h2,h4,h3⟩:=hcell i hil;refine⟨e,fun _=>⟨p,m',c',Ex.Kj fun r hr=>?_,h2,h4,h3⟩⟩;have:=h1 r hr;rwa [wu,wu] at this
       · exact⟨.mk 0 ⟨#[]⟩ 0 [],fun h=>absurd h hil⟩
      have hE:∀i,i<len->∃p m c,iQ w b (off+i*4) (hex i).choose p m c/\In w (hex i).choose p m/\5*Ex.cnt (hex i).choose<=bk (D i)/\∀x∈Ex.pre (hex i).choose,x.s.size<=bk y.1:=fun i hi=>(hex i).choose_spec hi;have hsum:=ab3 (fun i=>(hex i).choose) D (List.range len) fun i hi=>by
       obtain⟨p,m',c',-,-,h3,-⟩:=hE i (List.mem_range.1 hi);exact h3
      have h2:bk y3.1=ym ((List.range len).map D)+ym ((List.range (mm-len)).map fun j=>D (len+j))+1:=by rw[hd];simp only[bk,ym,Rows.uptoBulk]
      refine⟨.mk a0 s a2 ((List.range len).map fun i=>(hex i).choose),V ⟨b,off,af⟩,len,cap,rfl,?_,by rw[Ex.yu];omega,fun x hx=>?_⟩
      · refine nI.2 ⟨by simp,by omega,.inr ⟨b,off,rfl,hb,hb,Lib.hid fun k hk=>?_⟩⟩;simp only[List.length_map,List.length_range] at hk;simp only[List.getElem_map,List.getElem_range];obtain⟨p,m',c',h1,h2,-⟩:=hE k hk;exact⟨p,m',c',h1,h2⟩
      · rw[Ex.Dj] at hx;rcases List.mem_cons.1 hx with rfl|hx
        · exact hw1
        · obtain⟨z,hz,hxz⟩:=Ex.aa2 hx;obtain⟨i,hi2,rfl⟩:=List.mem_map.1 hz;obtain⟨p,m',c',-,-,-,h3⟩:=hE i (List.mem_range.1 hi2);exact h3 x hxz
def Fits (B:Nat) (x:St):Prop:=x.nm.size<=B/\x.f.size<=B/\(5*Ex.cnt x.e<=B/\∀z∈Ex.pre x.e,z.s.size<=B)/\(5*Ex.cnt x.g<=B/\∀z∈Ex.pre x.g,z.s.size<=B)/\∀u∈x.ar,5*Ex.cnt u<=B/\∀z∈Ex.pre u,z.s.size<=B
theorem Fits.mono {B C:Nat} {x:St} (h_:B<=C) (h:Fits B x):Fits C x:=
 ⟨by have:=h.1;omega,by have:=h.2.1;omega,⟨by have:=h.2.2.1.1;omega,fun z hz=>ak (h.2.2.1.2 z hz) h_⟩,⟨by have:=h.2.2.2.1.1;omega,fun z hz=>ak (h.2.2.2.1.2 z hz) h_⟩,fun u hu=>⟨by have:=(h.2.2.2.2 u hu).1;omega,fun z hz=>ak ((h.2.2.2.2 u hu).2 z hz) h_⟩⟩
end
end Sm
namespace Ps
open Go.ChangeShapes Go.WideShapes Go.ChangeAt Go.RowKit Go.Joins Go.Deep
open Ex (Ex In Sz cnt Qp)
section
variable {H:Type} {enc:TypeId×Value->H}
theorem akU {w:U} {r:Reach} {b0:Nat} {v:Value} {d:DataW H} {ps:List MemPlace} (hv:Value.okWide ae w r b0 25 v) (h:DataW.Trod enc ae w 0 (fun _=>true) true 25 v d ps) (hb:Rows.uptoBulk d<=1048576) :
 ∃(e:Ex) (p:Option aj) (m c:Nat),v=.agg #[.int .i64 e.o,.string e.s,.int .i64 e.n,.slice p m c]/\In w e p m/\Sz e/\cnt e<=1000000:=by
 obtain⟨f0,f1,f2,f3,hs,h1,hC,t0,t1,t2,t3⟩:=Qp;obtain⟨cs,rfl,hsz⟩:=okWide_struct hs hv;obtain⟨fuel,hf⟩:=h;have hf':DataW.trod enc ae w 0 (fun _=>true) true fuel 25 cs.toList=V (d,ps):=by simpa [Value.cells] using hf
 obtain⟨e,p,m,c,hcs,hin,hc,hw⟩:=Sm.ah1 (w:=w) _ (ah _) (by rw[Array.length_toList];exact hsz.trans hC) hf';have hb':Sm.bk (d,ps).1<=1048576:=hb;refine⟨e,p,m,c,?_,hin,fun x hx=>?_,by omega⟩
 · obtain⟨l⟩:=cs;simp only at hcs;rw[hcs]
 · have:=hw x hx;omega
theorem aon {k:Int} (h:(Lit.int .u64 k).wf=true):∃n:Nat,k=(n:Int)/\n<18446744073709551616:=by
 have:=bounds_u64 h;exact⟨k.toNat,by omega,by omega⟩
end
end Ps
namespace Sm
open Go.RowKit
open Ex (Gives)
attribute [local go_sem] cs0 cs1 cs2 uW uX uY uZ u_ ve vg uI uJ uK uM uP uQ uR uS uT uU uV
abbrev aep (f:FuncId) (sl:List St):Prop:=∀(l2:List St) (p:Option aj) (m c:Nat) (p2:Option aj) (m2 c2:Nat) (w:U),pY w sl p m->pY w l2 p2 m2->Calls ae f #[.slice p m c,.slice p2 m2 c2] w (Gives (.bool (kr sl l2)) w)
theorem MI {x y:St} (h:zZ x y=false):yP x y=false:=by rw[SC,h];rfl
end Sm
namespace Sm
open Go.RowKit
attribute [local go_sem] cs0 cs1 cs2 uW uX uY uZ u_ ve vg uI uJ uK uM uP uQ uR uS uT uU uV
set_option linter.unusedSimpArgs false
abbrev P0:Pl:=⟨af,0,0,af,0,0,af,0,0,af,0,0,af,0,0,af,0,0,af,0,0⟩
theorem lV {G:Nat->Prop} {w:U} {p:Option aj}:Ints G w [] p 0:=⟨rfl,by omega,.inl rfl⟩
theorem alf {o:Option TypeInfo} {z:Value} {s b:Nat} (h:o.map (fun i=>(i.zero,i.size,i.bytes))=V (V z,s,b)):∃i,o=V i/\i.zero=V z/\i.size=s/\i.bytes=b:=by
 exact zzv
theorem aif:(Tryz.prog.info? 62).map (fun i=>(i.zero,i.size,i.bytes))=V (V (.agg #[.int .i64 0,.string ⟨#[]⟩,.string ⟨#[]⟩,.int .i64 0,.string ⟨#[]⟩,.int .i64 0,.slice af 0 0,.int .i64 0,.string ⟨#[]⟩,.int .i64 0,.slice af 0 0,.slice af 0 0,.int .i64 0,.int .i64 0,.int .i64 0,.int .i64 0,.slice af 0 0,.slice af 0 0,.bool false,.slice af 0 0,.slice af 0 0]),21,312):=by kernel_rfl
theorem abU (x:St) (P:Pl) (z:Array Value) (hz:z.size=21) (W:U) (B:Nat) (hB:W.heap.size=B):(storeCells ⟨B,0,af⟩ (cs x P).toList 0).run ae (W.alloc (.cells z 62))=.ok () (W.alloc (.cells (cs x P) 62)):=by subst hB;exact IZ x P z hz W
theorem abV (x:St) (P:Pl) (z:Array Value) (hz:z.size=21) (W:U) (B:Nat) (hB:W.heap.size=B):(storeVar 62 ⟨B,0,af⟩ (.agg (cs x P))).run ae (W.alloc (.cells z 62))=.ok () (W.alloc (.cells (cs x P) 62)):=by subst hB;exact I5 x P z hz W
theorem abT (x:St) (P:Pl) (z:Array Value) (hz:z.size=21) (W:U) (B:Nat) (hB:W.heap.size=B):(Instr.storeAt 62 (.pointer (V ⟨B,0,af⟩)) (.agg (cs x P))).run ae (W.alloc (.cells z 62))=.ok () (W.alloc (.cells (cs x P) 62)):=by subst hB;exact I4 x P z hz W
end Sm
end Go.Proofs.YtkpekhpgdajabaaGreatDoor
