/-
  Parts of this proof: Mathematics of models. Mathematics of the text of models. How a text is walked rune by rune, and the contr. The reference's lists of names.
-/
import Derived.Test.YtkpekhpgdajabaaGreatDoorYPMath
import Derived.Test.YtkpekhpgdajabaaGreatDoorYLxMath
open Go.Proofs.Tryz
open Go.Proofs.Tryz renaming prog->ae
open Go.RowKit.Below renaming refl->af
open Bool renaming and_eq_true->ag
set_option linter.unusedVariables false
set_option maxHeartbeats 4000000
open Go.Lib (hid)
namespace Go.Proofs.YtkpekhpgdajabaaGreatDoor
namespace Md
open Na (bs jl fB fst Ld)
open Sm (St Dt lD kF qm dN rT kG zD nE)
instance aoF:DecidableEq ByteArray:=fun a b=>if h:bs a=bs b then isTrue (jl h) else isFalse (fun e=>h (by rw[e]))
structure Val where
 nm:ByteArray
 ty:Int
 n:Int
structure dQ where
 t:Int
 u:Int
structure dm where
 nm:ByteArray
 un:Int
 sh:List dQ
 cy:Int
 fs:ByteArray
 up:Dt
 dn:Dt
structure jP where
 nm:ByteArray
 rm:Int
 po:Int
structure jO where
 nm:ByteArray
 ln:Int
 sp:Int
structure eO where
 nm:ByteArray
 ty:Int
structure fo where
 nm:ByteArray
 ps:List eO
 ls:List eO
 bo:List St
structure iP where
 ro:ByteArray
 ar:List Int
 a:Int
 e:Int
 u:Int
structure jg where
 co:Int
 wh:ByteArray
 nm:ByteArray
structure Lw where
 nm:ByteArray
 ts:List jg
 tt:Int
structure iH where
 fr:ByteArray
 tt:ByteArray
 de:Int
structure cz where
 nm:ByteArray
 va:List Val
 rs:List dm
 st:List jP
 be:List jO
 qu:List ByteArray
 sm:List ByteArray
 ta:List ByteArray
 le:List ByteArray
 co:List ByteArray
 ro:List fo
 ss:List iP
 la:List Lw
structure dL where
 nm:ByteArray
 pa:List Val
 si:List cz
 li:List iH
theorem Yw (x s:ByteArray) (t:List ByteArray):fst (x::t) s=if bs x=bs s then 0 else if fst t s = -1 then -1 else fst t s+1:=rfl
theorem Yz {s:ByteArray}:∀{l:List ByteArray},0<=fst l s↔s∈l
 | []=>by
  have:fst [] s = -1:=rfl;rw[this];constructor
  · intro h;omega
  · intro h;cases h
 | x::t=>by
  have ih:=Yz (s:=s) (l:=t);have h0:=Ld s t;rw[Yw,List.mem_cons];by_cases h:bs x=bs s
  · rw[if_pos h];exact⟨fun _=>.inl (jl h).symm,fun _=>Int.le_refl _⟩
  · rw[if_neg h];have hne:¬s=x:=fun e=>h (by rw[e]);constructor
    · intro g
      split at g
      · omega
      · exact .inr (ih.1 bT)
    · rintro(g|g)
      · exact absurd g hne
      · have:=ih.2 g
        split <;> omega
instance aoM (x:ByteArray) (l:List ByteArray):Decidable (x∈l):=decidable_of_iff _ Yz
def jh (acc:List ByteArray) (x:ByteArray):Int:=dN (fB (bs x)) (if x∈acc then 4 else 0)
def eB (acc:List ByteArray) (p:ByteArray×Int):Int×List ByteArray:=(dN (jh acc p.1) p.2,if jh acc p.1=0 then acc++[p.1] else acc)
def dJ {α σ:Type} (f:σ->α->Int×σ):List α->σ->Int×σ
 | [],s=>(0,s)
 | x::t,s=>if (f s x).1=0 then dJ f t (f s x).2 else f s x
def df {α σ:Type} (f:σ->α->Int×σ) (most:Nat) (l:List α) (s:σ):Int×σ:=if most<l.length then (6,s) else dJ f l s
theorem QI {α σ:Type} {f:σ->α->Int×σ}:∀{a b:List α} {s:σ},dJ f (a++b) s=if (dJ f a s).1=0 then dJ f b (dJ f a s).2 else dJ f a s
 | [],b,s=>by simp[dJ]
 | x::t,b,s=>by
  rw[List.cons_append,dJ,dJ,QI];by_cases h:(f s x).1=0
  · rw[if_pos h,if_pos h]
  · rw[if_neg h,if_neg h,if_neg h]
theorem aiJ {α σ:Type} {f:σ->α->Int×σ} {x:α} {s:σ}:dJ f [x] s=f s x:=by
 rw[dJ];by_cases h:(f s x).1=0
 · rw[if_pos h,dJ];exact Prod.ext h.symm rfl
 · rw[if_neg h]
theorem YP {α σ:Type} {f:σ->α->Int×σ} {l:List α} {k:Nat} {x:α} {s r:σ} (hx:l[k]?=some x) (h:dJ f (l.take k) s=(0,r)):dJ f (l.take (k+1)) s=f r x:=by
 rw[Ex.take_one hx,QI,h,aiJ];rfl
theorem aiK {α σ:Type} {f:σ->α->Int×σ} {l:List α} {k:Nat} {x:α} {s r:σ} (hx:l[k]?=some x) (h:dJ f (l.take k) s=(0,r)) (h1:¬(f r x).1=0):dJ f l s=f r x:=by
 have h2:=QI (f:=f) (a:=l.take (k+1)) (b:=l.drop (k+1)) (s:=s);rw[List.take_append_drop,YP hx h,if_neg h1] at h2;exact h2
theorem aiI {α σ:Type} {f:σ->α->Int×σ} {l:List α} {k:Nat} {x:α} {s r:σ} (hx:l[k]?=some x) (h:dJ f (l.take k) s=(0,r)) (h1:(f r x).1=0):dJ f (l.take (k+1)) s=(0,(f r x).2):=by
 rw[YP hx h];exact Prod.ext h1 rfl
theorem YN {α β σ:Type} {f:σ->β->Int×σ} {g:α->β}:∀{l:List α} {s:σ},dJ f (l.map g) s=dJ (fun s x=>f s (g x)) l s
 | [],s=>rfl
 | x::t,s=>by rw[List.map_cons,dJ,dJ,YN]
theorem n_ {α β σ:Type} {f:σ->β->Int×σ} {g:α->β} {most:Nat} {l:List α} {s:σ}:df f most (l.map g) s=df (fun s x=>f s (g x)) most l s:=by
 unfold df;rw[List.length_map,YN]
def EH {α:Type} (f:α->Int):List α->Int
 | []=>0
 | x::t=>dN (f x) (EH f t)
def A7 {α:Type} (f:α->Int) (most:Nat) (l:List α):Int:=if most<l.length then 6 else EH f l
theorem YO {α:Type} {f:α->Int}:∀{l:List α},dJ (fun(_:Unit) x=>(f x,())) l ()=(EH f l,())
 | []=>rfl
 | x::t=>by
  rw[dJ,EH,YO];by_cases h:f x=0
  · rw[if_pos h,h,kG]
  · rw[if_neg h,rT h]
theorem Xq {α:Type} {f:α->Int} {most:Nat} {l:List α}:df (fun(_:Unit) x=>(f x,())) most l ()=(A7 f most l,()):=by
 unfold df A7;by_cases h:most<l.length
 · rw[if_pos h,if_pos h]
 · rw[if_neg h,if_neg h,YO]
def iy (lo n hi:Int):Bool:=decide (lo<=n)&&decide (n<=hi)
def typ (t:Int):Bool:=decide (t=1)||decide (t=2)||decide (t=3)
def fits (t n:Int):Bool:=if t=1 then iy (-1000000000000) n 1000000000000 else if t=2 then iy 0 n 1 else if t=3 then iy 0 n 1000000000 else false
def rO (n:Int):Bool:=iy 0 n 1000000000
def Hy (n:Int):Bool:=iy 0 n 1000
def DT (v:Val):Int:=if typ v.ty then (if fits v.ty v.n then 0 else 2) else 1
def EG (f:eO):Int:=if typ f.ty then 0 else 1
def uC (cy:Int) (prev:Option dQ) (c:dQ):Int:=
 if iy 0 c.t (cy-1)&&Hy c.u then (match prev with|none=>0|some d=>if c.t<=d.t then 12 else 0) else 2
def lS (cy:Int):Option dQ->List dQ->Int
 | _,[]=>0
 | p,c::t=>dN (uC cy p c) (lS cy (some c) t)
def tL (l:List dQ) (cy:Int):Int:=
 if l.length=0 then (if cy=0 then 0 else 1) else if 20<l.length then 6 else if iy 1 cy 1000000000 then lS cy none l else 2
def zB (r:dm) (sm:List ByteArray):Int:=
 if bs r.fs=[] then (if lD r.up zD&&lD r.dn zD then 0 else 1) else if fst sm r.fs<0 then 5 else dN (qm r.up) (qm r.dn)
def Dp (sm:List ByteArray) (r:dm):Int:=if Hy r.un then dN (tL r.sh r.cy) (zB r sm) else 2
def z_ (d:jP):Int:=if iy 1 d.rm 1000 then (if iy 1 d.po 3 then 0 else 1) else 2
def zl (b:jO):Int:=if iy 1 b.ln 1000&&iy 1 b.sp 1000 then 0 else 2
def G8 (f:eO):ByteArray×Int:=(f.nm,EG f)
def Dr (r:fo):Int:=if 6<r.ps.length then 6 else dN (df (fun a f=>eB a (G8 f)) 16 (r.ps++r.ls) []).1 (kF r.bo)
def DR (v:Val):ByteArray×Int:=(v.nm,DT v)
def IJ (sm:List ByteArray) (r:dm):ByteArray×Int:=(r.nm,Dp sm r)
def I6 (d:jP):ByteArray×Int:=(d.nm,z_ d)
def GA (b:jO):ByteArray×Int:=(b.nm,zl b)
def pI (x:ByteArray):ByteArray×Int:=(x,0)
def IK (r:fo):ByteArray×Int:=(r.nm,Dr r)
def kinds (s:cz):List (Nat×List (ByteArray×Int)):=[(32,s.va.map DR),(32,s.rs.map (IJ s.sm)),(32,s.st.map I6),(32,s.be.map GA),(32,s.qu.map pI),(32,s.sm.map pI),(32,s.ta.map pI),(32,s.le.map pI),(32,s.co.map pI),(16,s.ro.map IK)]
def Tv:List (Nat×List (ByteArray×Int))->List ByteArray->List Int
 | [],_=>[]
 | k::t,acc=>(df eB k.1 k.2 acc).1::Tv t (df eB k.1 k.2 acc).2
def Zr (x:Int):Int:=x
def oP:List eO->List Int->Bool
 | p::t,n::u=>fits p.ty n&&oP t u
 | _,_=>true
def vH (ro:List fo) (x:ByteArray):Int:=fst (ro.map (·.nm)) x
def xI (ro:List fo) (d:iP):Int:=
 match (if vH ro d.ro<0 then none else ro[(vH ro d.ro).toNat]?) with
 | none=>5
 | some r=>if d.ar.length=r.ps.length then (if oP r.ps d.ar then (if rO d.a&&rO d.e&&rO d.u && !(decide (d.e=0) && !decide (d.u=0)) then 0 else 2) else 2) else 8
def names (s:cz):List (List ByteArray):=[s.va.map (·.nm),s.rs.map (·.nm),s.st.map (·.nm),s.be.map (·.nm),s.qu,s.sm,s.ta,s.le,s.co,s.ro.map (·.nm)]
abbrev mo:ByteArray:=⟨#[118,97,114]⟩
abbrev mg:ByteArray:=⟨#[114,101,115,111,117,114,99,101]⟩
abbrev lI:ByteArray:=⟨#[115,116,111,114,101]⟩
abbrev l_:ByteArray:=⟨#[98,101,108,116]⟩
abbrev mf:ByteArray:=⟨#[113,117,101,117,101]⟩
abbrev mh:ByteArray:=⟨#[115,116,114,101,97,109]⟩
abbrev mi:ByteArray:=⟨#[116,97,108,108,121]⟩
abbrev ma:ByteArray:=⟨#[108,101,118,101,108]⟩
abbrev lG:ByteArray:=⟨#[99,111,117,110,116]⟩
abbrev lH:ByteArray:=⟨#[114,111,117,116,105,110,101]⟩
def words:List ByteArray:=[mo,mg,lI,l_,mf,mh,mi,ma,lG,lH]
def II:List ByteArray->List (List ByteArray)->ByteArray->ByteArray×Int
 | w::t,l::u,x=>if 0<=fst l x then (w,fst l x) else II t u x
 | _,_,_=>(nE,-1)
def zK (s:cz) (x:ByteArray):ByteArray:=(II words (names s) x).1
def Ht (s:cz) (x:ByteArray):Int:=(II words (names s) x).2
abbrev Tf:ByteArray:=⟨#[99,114,101,97,116,101,100]⟩
abbrev Ti:ByteArray:=⟨#[101,110,100,101,100]⟩
abbrev Tm:ByteArray:=⟨#[105,110,115,105,100,101]⟩
abbrev Tp:ByteArray:=⟨#[115,116,111,114,101,100]⟩
abbrev Tj:ByteArray:=⟨#[101,110,116,101,114,101,100]⟩
abbrev Tn:ByteArray:=⟨#[108,101,102,116]⟩
abbrev Tg:ByteArray:=⟨#[99,111,117,110,116,101,100]⟩
def Ey (w:ByteArray):ByteArray:=if w=Tf∨w=Ti∨w=Tm then lH else if w=Tp∨w=Tj∨w=Tn then lI else if w=Tg then lG else nE
def rZ (s:cz) (t:jg):Int:=if Ey t.wh=nE then 1 else if zK s t.nm=Ey t.wh then (if t.co=0 then 2 else if iy (-1000) t.co 1000 then 0 else 2) else 5
def yD (s:cz) (l:Lw):Int:=if l.ts.length=0 then 7 else dN (A7 (rZ s) 8 l.ts) (if iy (-1000000000000) l.tt 1000000000000 then 0 else 2)
def aas (s:cz) (l:Lw):ByteArray×Int:=(l.nm,yD s l)
def ET (s:cz):Int:=(df eB 32 (s.la.map (aas s)) []).1
def Fv (s:cz):Int:=dN (EH Zr (Tv (kinds s) [])) (dN (A7 (xI s.ro) 32 s.ss) (ET s))
def IX (s:cz):ByteArray×Int:=(s.nm,Fv s)
def pz (si:List cz) (x:ByteArray):Int:=fst (si.map (·.nm)) x
def CL (si:List cz) (l:iH):Int:=if pz si l.fr<0∨pz si l.tt<0 then 5 else if l.fr=l.tt then 1 else if iy 1 l.de 1000000000 then 0 else 2
def AY (l:iH):List UInt8×List UInt8:=(bs l.fr,bs l.tt)
def pG (si:List cz) (acc:List (List UInt8×List UInt8)) (l:iH):Int×List (List UInt8×List UInt8):=
 if CL si l=0 then (if AY l∈acc then (4,acc) else (0,acc++[AY l])) else (CL si l,acc)
def Iq (m:dL):Int:=(df (pG m.si) 32 m.li []).1
def abM (m:dL):Int:=if m.si.length=0 then 7 else (df eB 16 (m.si.map IX) []).1
def aaV (m:dL):Int:=(df eB 32 (m.pa.map DR) []).1
def zM (m:dL):Int:=dN (fB (bs m.nm)) (dN (aaV m) (dN (abM m) (Iq m)))
def gD (x y:ByteArray):Bool:=decide (bs x=bs y)
def G_ (x y:dm):Bool:=gD x.fs y.fs&&lD x.up y.up&&lD x.dn y.dn
end Md
namespace Ps
open Lx (Tk bs mt)
open Na (gX)
open Ex (Ex)
open Sm (St Dt zE zD)
open Md (Val dQ dm jP jO eO fo iP jg Lw iH cz dL)
inductive R (α:Type) where
 | ok (x:α) (u:List Tk)
 | no (u:List Tk)
def hd (t:List Tk):Tk:=t.headD ⟨0,mt,0,0⟩
def is (s:ByteArray) (t:List Tk):Bool:=decide (bs (hd t).t=bs s)
inductive P:Type->Type 1 where
 | rt {α:Type} (x:α):P α
 | fl {α:Type}:P α
 | bd {α β:Type} (m:P α) (k:α->P β):P β
 | acc {α:Type} (s:ByteArray) (A B:P α):P α
 | see {α:Type} (s:ByteArray) (A B:P α):P α
 | kd {α:Type} (k:Int) (A B:P α):P α
 | kw {α:Type} (A B:P α):P α
 | tk (k:Int):P (ByteArray×Int)
 | exp (s:ByteArray):P Unit
 | len {α β:Type} (m:P α) (f:Nat->α->β):P β
open Ps.P (rt fl bd acc see kd kw tk exp len)
def run {α:Type}:P α->List Tk->R α
 | .rt x,t=>.ok x t
 | .fl,t=>.no t
 | .bd m k,t=>match run m t with
  | .ok x u=>run (k x) u
  | .no u=>.no u
 | .acc s A B,t=>if is s t=true then run A t.tail else run B t
 | .see s A B,t=>if is s t=true then run A t else run B t
 | .kd k A B,t=>if (hd t).k=k then run A t else run B t
 | .kw A B,t=>if gX (bs (hd t).t)=true then run A t else run B t
 | .tk k,t=>if (hd t).k=k then .ok ((hd t).t,(hd t).n) t.tail else .no t
 | .exp s,t=>if is s t=true then .ok () t.tail else .no t
 | .len m f,t=>match run m t with
  | .ok x u=>.ok (f (t.length-u.length) x) u
  | .no u=>.no u
section
variable {α β:Type} {m:P α} {k:α->P β} {t u:List Tk} {x:α} {s:ByteArray} {A B:P α} {n:Int} {f:Nat->α->β}
theorem zW:run (rt x) t=.ok x t:=rfl
theorem Sq:run (fl:P α) t=.no t:=rfl
theorem dK (h:run m t=.ok x u):run (bd m k) t=run (k x) u:=by rw[run,h]
theorem iq (h:run m t=.no u):run (bd m k) t=.no u:=by rw[run,h]
theorem Ij (h:run m t=.ok x u):run (len m f) t=.ok (f (t.length-u.length) x) u:=by rw[run,h]
theorem LQ (h:run m t=.no u):run (len m f) t=.no u:=by rw[run,h]
theorem nW (h:is s t=true):run (acc s A B) t=run A t.tail:=by rw[run,if_pos h]
theorem ek (h:is s t=false):run (acc s A B) t=run B t:=by rw[run,if_neg (by rw[h];decide)]
theorem Dw (h:is s t=true):run (see s A B) t=run A t:=by rw[run,if_pos h]
theorem vL (h:is s t=false):run (see s A B) t=run B t:=by rw[run,if_neg (by rw[h];decide)]
theorem EN (h:(hd t).k=n):run (kd n A B) t=run A t:=by rw[run,if_pos h]
theorem yC (h:¬(hd t).k=n):run (kd n A B) t=run B t:=by rw[run,if_neg h]
theorem Ih (h:gX (bs (hd t).t)=true):run (kw A B) t=run A t:=by rw[run,if_pos h]
theorem LM (h:gX (bs (hd t).t)=false):run (kw A B) t=run B t:=by rw[run,if_neg (by rw[h];decide)]
theorem yT (h:(hd t).k=n):run (tk n) t=.ok ((hd t).t,(hd t).n) t.tail:=by rw[run,if_pos h]
theorem DJ (h:¬(hd t).k=n):run (tk n) t=.no t:=by rw[run,if_neg h]
theorem EF (h:is s t=true):run (exp s) t=.ok () t.tail:=by rw[run,if_pos h]
theorem KO (h:is s t=false):run (exp s) t=.no t:=by rw[run,if_neg (by rw[h];decide)]
end
def FU:Nat:=100000
abbrev Hz:ByteArray:=⟨#[109,111,100,101,108]⟩
abbrev oQ:ByteArray:=⟨#[101,110,100]⟩
abbrev ZX:ByteArray:=⟨#[112,97,114,97,109]⟩
abbrev ZV:ByteArray:=⟨#[108,105,110,107]⟩
abbrev aad:ByteArray:=⟨#[115,105,116,101]⟩
abbrev ajt:ByteArray:=⟨#[105,110,116]⟩
abbrev ajp:ByteArray:=⟨#[98,111,111,108]⟩
abbrev ajy:ByteArray:=⟨#[116,105,109,101]⟩
abbrev sU:ByteArray:=⟨#[116,114,117,101]⟩
abbrev vC:ByteArray:=⟨#[102,97,108,115,101]⟩
abbrev aam:ByteArray:=⟨#[118,97,114]⟩
abbrev Z7:ByteArray:=⟨#[114,101,115,111,117,114,99,101]⟩
abbrev aah:ByteArray:=⟨#[115,116,111,114,101]⟩
abbrev ZJ:ByteArray:=⟨#[98,101,108,116]⟩
abbrev Z5:ByteArray:=⟨#[113,117,101,117,101]⟩
abbrev aai:ByteArray:=⟨#[115,116,114,101,97,109]⟩
abbrev aak:ByteArray:=⟨#[116,97,108,108,121]⟩
abbrev LB:ByteArray:=⟨#[108,101,118,101,108]⟩
abbrev ZM:ByteArray:=⟨#[99,111,117,110,116]⟩
abbrev Z9:ByteArray:=⟨#[114,111,117,116,105,110,101]⟩
abbrev aaf:ByteArray:=⟨#[115,116,97,114,116]⟩
abbrev ZK:ByteArray:=⟨#[99,111,110,115,101,114,118,101]⟩
abbrev Rj:ByteArray:=⟨#[115,104,105,102,116]⟩
abbrev ajq:ByteArray:=⟨#[99,121,99,108,101]⟩
abbrev Rf:ByteArray:=⟨#[102,97,117,108,116]⟩
abbrev kUp:ByteArray:=⟨#[117,112]⟩
abbrev ajr:ByteArray:=⟨#[100,111,119,110]⟩
abbrev ajs:ByteArray:=⟨#[102,105,102,111]⟩
abbrev ajw:ByteArray:=⟨#[108,105,102,111]⟩
abbrev ajv:ByteArray:=⟨#[108,101,97,115,116]⟩
abbrev Rh:ByteArray:=⟨#[108,111,99,97,108]⟩
abbrev kAt:ByteArray:=⟨#[97,116]⟩
abbrev ZO:ByteArray:=⟨#[101,118,101,114,121]⟩
abbrev ajz:ByteArray:=⟨#[117,110,116,105,108]⟩
abbrev ZL:ByteArray:=⟨#[99,111,110,115,116]⟩
abbrev aal:ByteArray:=⟨#[117,110,105,102,111,114,109]⟩
abbrev Rk:ByteArray:=⟨#[116,97,98,108,101]⟩
abbrev aaj:ByteArray:=⟨#[115,117,109]⟩
abbrev ZQ:ByteArray:=⟨#[103,101,111,109]⟩
abbrev aab:ByteArray:=⟨#[115,101,116]⟩
abbrev ZN:ByteArray:=⟨#[100,114,97,119]⟩
abbrev ZU:ByteArray:=⟨#[105,102]⟩
abbrev aao:ByteArray:=⟨#[119,104,105,108,101]⟩
abbrev ZT:ByteArray:=⟨#[104,111,108,100]⟩
abbrev Z_:ByteArray:=⟨#[115,101,105,122,101]⟩
abbrev Z6:ByteArray:=⟨#[114,101,108,101,97,115,101]⟩
abbrev ZZ:ByteArray:=⟨#[112,117,116]⟩
abbrev ZR:ByteArray:=⟨#[103,101,116]⟩
abbrev Z8:ByteArray:=⟨#[114,105,100,101]⟩
abbrev aan:ByteArray:=⟨#[119,97,105,116]⟩
abbrev aac:ByteArray:=⟨#[115,105,103,110,97,108]⟩
abbrev aaa:ByteArray:=⟨#[115,101,110,100]⟩
abbrev aae:ByteArray:=⟨#[115,112,97,119,110]⟩
abbrev ZW:ByteArray:=⟨#[111,98,115,101,114,118,101]⟩
abbrev ZI:ByteArray:=⟨#[97,100,100]⟩
abbrev aag:ByteArray:=⟨#[115,116,111,112]⟩
abbrev ZP:ByteArray:=⟨#[102,114,111,109]⟩
abbrev AV:ByteArray:=⟨#[101,108,115,101]⟩
abbrev ZY:ByteArray:=⟨#[112,114,105,111]⟩
abbrev Ri:ByteArray:=⟨#[112,114,101,101,109,112,116]⟩
abbrev aju:ByteArray:=⟨#[105,110,116,111]⟩
abbrev ajo:ByteArray:=⟨#[97,102,116,101,114]⟩
abbrev zJ:ByteArray:=⟨#[111,114]⟩
abbrev zI:ByteArray:=⟨#[97,110,100]⟩
abbrev kU:ByteArray:=⟨#[110,111,116]⟩
abbrev H6:ByteArray:=⟨#[110,111,119]⟩
abbrev Lv:ByteArray:=⟨#[100,117,114]⟩
abbrev LH:ByteArray:=⟨#[116,105,99,107,115]⟩
abbrev LD:ByteArray:=⟨#[109,105,110]⟩
abbrev LC:ByteArray:=⟨#[109,97,120]⟩
abbrev LA:ByteArray:=⟨#[102,114,101,101]⟩
abbrev LG:ByteArray:=⟨#[115,105,122,101]⟩
abbrev LJ:ByteArray:=⟨#[119,97,105,116,105,110,103]⟩
abbrev DZ:ByteArray:=⟨#[43]⟩
abbrev mK:ByteArray:=⟨#[45]⟩
abbrev Ak:ByteArray:=⟨#[42]⟩
abbrev F7:ByteArray:=⟨#[47]⟩
abbrev F6:ByteArray:=⟨#[37]⟩
abbrev uf:ByteArray:=⟨#[61]⟩
abbrev DY:ByteArray:=⟨#[33,61]⟩
abbrev DX:ByteArray:=⟨#[60]⟩
abbrev DW:ByteArray:=⟨#[60,61]⟩
abbrev DV:ByteArray:=⟨#[62]⟩
abbrev DU:ByteArray:=⟨#[62,61]⟩
abbrev fU:ByteArray:=⟨#[40]⟩
abbrev jN:ByteArray:=⟨#[41]⟩
abbrev ry:ByteArray:=⟨#[44]⟩
abbrev Ua:ByteArray:=⟨#[58]⟩
abbrev acP:ByteArray:=⟨#[46]⟩
def num:P Int:=bd (tk 2) fun x=>rt x.2
def yB:P Int:=acc mK (bd num fun n=>rt (-n)) num
def tV:P Int:=acc sU (rt 1) (bd (exp vC) fun _=>rt 0)
def fM:P ByteArray:=kw fl (bd (tk 1) fun x=>rt x.1)
def yH (s:ByteArray):P ByteArray:=bd (exp s) fun _=>fM
def fV:P Unit:=bd (tk 4) fun _=>rt ()
def qN:P Unit:=bd (tk 0) fun _=>rt ()
def xc:P ByteArray:=bd fM fun s=>bd fV fun _=>rt s
def pr:P (Int×Int):=bd num fun a=>bd (exp Ua) fun _=>bd num fun b=>rt (a,b)
def Fg:Nat->List (Int×Int)->P (List (Int×Int))
 | 0,_=>fl
 | n+1,l=>kd 2 (bd pr fun x=>Fg n (l++[x])) (rt l)
def zS:P (List (Int×Int)):=bd pr fun x=>Fg FU [x]
def wY {α:Type} (e:P α):Nat->List α->P (List α)
 | 0,_=>fl
 | n+1,l=>acc jN (rt l) (match l with
  | []=>bd e fun x=>wY e n [x]
  | y::r=>bd (exp ry) fun _=>bd e fun x=>wY e n ((y::r)++[x]))
def AZ {α:Type} (e:P α):P (List α):=bd (exp fU) fun _=>wY e FU []
def dst:P Dt:=
 acc ZL (bd num fun a=>rt ⟨1,a,0,0,[],[]⟩) <|
 acc aal (bd num fun a=>bd num fun b=>rt ⟨2,a,b,0,[],[]⟩) <|
 acc Rk (bd zS fun l=>rt ⟨3,0,0,0,l.map (·.1),l.map (·.2)⟩) <|
 acc aaj (bd num fun n=>bd num fun a=>bd num fun b=>rt ⟨4,a,b,n,[],[]⟩) <|
 acc ZQ (bd num fun a=>bd num fun b=>rt ⟨5,a,b,0,[],[]⟩) fl
def nd0 (o:Int):Ex:=.mk o mt 0 []
def jq (o:Int) (x:Ex):Ex:=.mk o mt 0 [x]
def dZ (o:Int) (x y:Ex):Ex:=.mk o mt 0 [x,y]
def rQ (o:Int) (s:ByteArray):Ex:=.mk o s 0 []
def fO (o n:Int):Ex:=.mk o mt n []
def tJ {α:Type} (A:Int->P α) (B:P α):List (ByteArray×Int)->P α
 | []=>B
 | o::r=>acc o.1 (A o.2) (tJ A B r)
def ql (m:P Ex) (os:List (ByteArray×Int)):Nat->Ex->P Ex
 | 0,_=>fl
 | n+1,e=>tJ (fun o=>bd m fun y=>ql m os n (dZ o e y)) (rt e) os
def uH (m:P Ex) (os:List (ByteArray×Int)):P Ex:=bd m fun e=>ql m os FU e
def one (E:P Ex) (o:Int):P Ex:=bd (exp fU) fun _=>bd E fun x=>bd (exp jN) fun _=>rt (jq o x)
def two (E:P Ex) (o:Int):P Ex:=bd (exp fU) fun _=>bd E fun x=>bd (exp ry) fun _=>bd E fun y=>bd (exp jN) fun _=>rt (dZ o x y)
def tH (o:Int):P Ex:=bd (exp fU) fun _=>bd fM fun s=>bd (exp jN) fun _=>rt (rQ o s)
def neg (d:Nat) (e:Ex):Ex:=match d,e with
 | 4,.mk 5 s n [.mk 1 s' n' l']=>fO 1 (-n')
 | _,e=>e
def yA (E:P Ex):P Ex:=len (bd (exp fU) fun _=>bd E fun e=>bd (exp jN) fun _=>rt e) neg
def qw (E:P Ex):P Ex:=
 kd 2 (bd num fun n=>rt (fO 1 n)) <|
 see sU (bd tV fun n=>rt (fO 2 n)) <|
 see vC (bd tV fun n=>rt (fO 2 n)) <|
 acc H6 (rt (nd0 4)) <|
 acc Lv (one E 7) <|
 acc LH (one E 8) <|
 acc LD (two E 20) <|
 acc LC (two E 21) <|
 acc LA (tH 22) <|
 acc LG (tH 23) <|
 acc LJ (tH 24) <|
 see fU (yA E) <|
 bd fM fun s=>rt (rQ 3 s)
def jG (E F:P Ex):P Ex:=acc mK (bd F fun x=>rt (jq 5 x)) (qw E)
def Fh (f:P Ex):P Ex:=uH f [(Ak,11),(F7,12),(F6,13)]
def sum (f:P Ex):P Ex:=uH (Fh f) [(DZ,9),(mK,10)]
def cmp (f:P Ex):P Ex:=bd (sum f) fun x=>
 acc uf (bd (sum f) fun y=>rt (dZ 14 x y)) <|
 acc DY (bd (sum f) fun y=>rt (dZ 15 x y)) <|
 acc DX (bd (sum f) fun y=>rt (dZ 16 x y)) <|
 acc DW (bd (sum f) fun y=>rt (dZ 17 x y)) <|
 acc DV (bd (sum f) fun y=>rt (dZ 16 y x)) <|
 acc DU (bd (sum f) fun y=>rt (dZ 17 y x)) <|
 rt x
def lq (f N:P Ex):P Ex:=acc kU (bd N fun x=>rt (jq 6 x)) (cmp f)
def AB (g:P Ex):P Ex:=uH g [(zI,18)]
def oO (g:P Ex):P Ex:=uH (AB g) [(zJ,19)]
mutual
def fF:Nat->P Ex
 | 0=>fl
 | n+1=>jG (fE n) (fF n)
def fN:Nat->P Ex
 | 0=>fl
 | n+1=>lq (jG (fE n) (fF n)) (fN n)
def fE:Nat->P Ex
 | 0=>fl
 | n+1=>oO (lq (jG (fE n) (fF n)) (fN n))
end
theorem G5 (n:Nat):fF (n+1)=jG (fE n) (fF n):=by rw[fF]
theorem Qq (n:Nat):fN (n+1)=lq (fF (n+1)) (fN n):=by rw[fN,fF]
theorem X8 (n:Nat):fE (n+1)=oO (fN (n+1)):=by rw[fE,fN]
def ky:P Ex:=fE FU
def fC (o:Int) (nm f:ByteArray) (e:Ex):St:=.mk o nm f e zE [] zD false [] []
def sJ (o:Int):P St:=bd fM fun s=>bd ky fun e=>rt (fC o s mt e)
def Ep (o:Int) (f:ByteArray):P St:=bd fM fun s=>bd (AZ ky) fun l=>bd (exp ajo) fun _=>bd ky fun e=>rt (.mk o s f e zE l zD false [] [])
def cnd:P Ex:=bd ky fun e=>bd fV fun _=>rt e
def stt (B:P (List St)):P St:=
 acc aab (bd fM fun s=>bd (exp uf) fun _=>bd ky fun e=>rt (fC 1 s mt e)) <|
 acc ZN (bd fM fun s=>bd (yH ZP) fun f=>bd dst fun d=>rt (.mk 2 s f zE zE [] d false [] [])) <|
 acc ZU (bd cnd fun e=>bd B fun b=>bd (acc AV (bd fV fun _=>B) (rt [])) fun l=>bd (exp oQ) fun _=>rt (.mk 3 mt mt e zE [] zD false b l)) <|
 acc aao (bd cnd fun e=>bd B fun b=>bd (exp oQ) fun _=>rt (.mk 4 mt mt e zE [] zD false b [])) <|
 acc ZT (bd ky fun e=>rt (fC 5 mt mt e)) <|
 acc Z_ (bd fM fun s=>bd ky fun e=>bd (exp ZY) fun _=>bd ky fun g=>bd (acc Ri (rt true) (rt false)) fun b=>rt (.mk 6 s mt e g [] zD b [] [])) <|
 acc Z6 (sJ 7) <|
 acc ZZ (bd ky fun e=>bd (yH aju) fun s=>rt (fC 8 s mt e)) <|
 acc ZR (bd fM fun f=>bd (yH ZP) fun s=>rt (fC 9 s f zE)) <|
 acc Z8 (bd fM fun s=>rt (fC 10 s mt zE)) <|
 acc aan (bd fM fun s=>rt (fC 11 s mt zE)) <|
 acc aac (sJ 12) <|
 acc aaa (bd fM fun f=>bd (exp acP) fun _=>Ep 13 f) <|
 acc aae (Ep 14 mt) <|
 acc ZW (sJ 15) <|
 acc LB (sJ 16) <|
 acc ZI (sJ 17) <|
 acc aag (rt (fC 18 mt mt zE)) <|
 fl
def yS (S:P St):Nat->List St->P (List St)
 | 0,_=>fl
 | n+1,l=>see oQ (rt l) <| see AV (rt l) <| kd 0 (rt l) <| bd S fun x=>bd fV fun _=>yS S n (l++[x])
def fS:Nat->P (List St)
 | 0=>fl
 | n+1=>yS (stt (fS n)) FU []
def Bq:P (List St):=fS FU
def typ:P Int:=acc ajt (rt 1) <| acc ajp (rt 2) <| acc ajy (rt 3) fl
def val:P Val:=bd fM fun s=>bd typ fun y=>bd (exp uf) fun _=>bd (if y=2 then tV else yB) fun n=>bd fV fun _=>rt ⟨s,y,n⟩
def Cq:P eO:=bd fM fun s=>bd typ fun y=>rt ⟨s,y⟩
def shf:P (List dQ×Int):=acc Rj (bd zS fun l=>bd (exp ajq) fun _=>bd num fun n=>rt (l.map (fun q=>⟨q.1,q.2⟩),n)) (rt ([],0))
def G9:P (ByteArray×Dt×Dt):=acc Rf (bd fM fun s=>bd (exp kUp) fun _=>bd dst fun a=>bd (exp ajr) fun _=>bd dst fun b=>rt (s,a,b)) (rt (mt,zD,zD))
def qx:P dm:=bd fM fun s=>bd num fun n=>bd shf fun h=>bd G9 fun f=>bd fV fun _=>rt ⟨s,n,h.1,h.2,f.1,f.2.1,f.2.2⟩
def RX:P Int:=acc ajs (rt 1) <| acc ajw (rt 2) <| acc ajv (rt 3) fl
def MR:P jP:=bd fM fun s=>bd num fun n=>bd RX fun p=>bd fV fun _=>rt ⟨s,n,p⟩
def blt:P jO:=bd fM fun s=>bd num fun n=>bd num fun p=>bd fV fun _=>rt ⟨s,n,p⟩
def Cz:Nat->List eO->P (List eO)
 | 0,_=>fl
 | n+1,l=>acc Rh (bd Cq fun x=>bd fV fun _=>Cz n (l++[x])) (rt l)
def Mw:P fo:=bd fM fun s=>bd (AZ Cq) fun ps=>bd fV fun _=>bd (Cz FU []) fun ls=>bd Bq fun b=>bd (exp oQ) fun _=>bd fV fun _=>rt ⟨s,ps,ls,b⟩
def arg:P Int:=see sU tV <| see vC tV yB
def X5:P (Int×Int):=acc ZO (bd num fun a=>bd (exp ajz) fun _=>bd num fun b=>rt (a,b)) (rt (0,0))
def MQ:P iP:=bd fM fun s=>bd (AZ arg) fun l=>bd (exp kAt) fun _=>bd num fun a=>bd X5 fun v=>bd fV fun _=>rt ⟨s,l,a,v.1,v.2⟩
def Ab:P jg:=bd (kd 2 (bd num fun n=>bd (exp Ak) fun _=>rt n) (rt 1)) fun c=>bd fM fun w=>bd fM fun s=>rt ⟨c,w,s⟩
def IW:P jg:=acc DZ Ab (bd (exp mK) fun _=>bd Ab fun x=>rt ⟨-x.co,x.wh,x.nm⟩)
def CV:Nat->List jg->P (List jg)
 | 0,_=>fl
 | n+1,l=>acc uf (rt l) (bd IW fun x=>CV n (l++[x]))
def law:P Lw:=bd fM fun s=>bd (exp Ua) fun _=>bd (see mK (rt []) (bd Ab fun x=>rt [x])) fun l=>bd (CV FU l) fun ts=>bd yB fun n=>bd fV fun _=>rt ⟨s,ts,n⟩
def Ch (x:cz):P cz:=
 acc aam (bd val fun y=>rt { x with va:=x.va++[y] }) <|
 acc Z7 (bd qx fun y=>rt { x with rs:=x.rs++[y] }) <|
 acc aah (bd MR fun y=>rt { x with st:=x.st++[y] }) <|
 acc ZJ (bd blt fun y=>rt { x with be:=x.be++[y] }) <|
 acc Z5 (bd xc fun y=>rt { x with qu:=x.qu++[y] }) <|
 acc aai (bd xc fun y=>rt { x with sm:=x.sm++[y] }) <|
 acc aak (bd xc fun y=>rt { x with ta:=x.ta++[y] }) <|
 acc LB (bd xc fun y=>rt { x with le:=x.le++[y] }) <|
 acc ZM (bd xc fun y=>rt { x with co:=x.co++[y] }) <|
 acc Z9 (bd Mw fun y=>rt { x with ro:=x.ro++[y] }) <|
 acc aaf (bd MQ fun y=>rt { x with ss:=x.ss++[y] }) <|
 acc ZK (bd law fun y=>rt { x with la:=x.la++[y] }) <|
 fl
def Bj (s:ByteArray):cz:=⟨s,[],[],[],[],[],[],[],[],[],[],[],[]⟩
def yQ:Nat->cz->P cz
 | 0,_=>fl
 | n+1,x=>acc oQ (rt x) (bd (Ch x) fun y=>yQ n y)
def sit:P cz:=bd xc fun s=>bd (yQ FU (Bj s)) fun x=>bd fV fun _=>rt x
def Ru:P iH:=bd fM fun a=>bd fM fun b=>bd num fun n=>bd fV fun _=>rt ⟨a,b,n⟩
def prt (m:dL):P dL:=
 acc ZX (bd val fun y=>rt { m with pa:=m.pa++[y] }) <|
 acc ZV (bd Ru fun y=>rt { m with li:=m.li++[y] }) <|
 acc aad (bd sit fun y=>rt { m with si:=m.si++[y] }) <|
 fl
def CX:Nat->dL->P dL
 | 0,_=>fl
 | n+1,m=>acc oQ (rt m) (bd (prt m) fun y=>CX n y)
def EX:P dL:=bd (yH Hz) fun s=>bd fV fun _=>bd (CX FU ⟨s,[],[],[]⟩) fun m=>bd fV fun _=>bd qN fun _=>rt m
def Fb:P (List St):=bd Bq fun l=>bd qN fun _=>rt l
def tF:P Ex:=bd ky fun e=>bd fV fun _=>bd qN fun _=>rt e
end Ps
namespace Lx
open Nu
open Go.RowKit
theorem aiH (s:ByteArray) (p:Nat) (h:p<s.size):s.get! p=s[p]'h:=by
 simp[ByteArray.get!,getElem!_pos,h]
 rfl
theorem Ji {p:Prop} (h:p:=by
 exact⟨Nat.le_refl _,h,fun j h1 h2=>by omega⟩
 ):p:=h
theorem AF (s:ByteArray) (pos:Nat) (h:pos<s.size):1<=(Utf8.decode s pos).2/\pos+(Utf8.decode s pos).2<=s.size/\∀j,1<=j->j<(Utf8.decode s pos).2->(g:pos+j<s.size)->128<=(s[pos+j]'g).toNat:=by
 have key:∀k,(decide (pos+k<s.size)&&(s.get! (pos+k)).toNat / 64==2)=true->pos+k<s.size/\((g:pos+k<s.size)->128<=(s[pos+k]'g).toNat):=by
  intro k hk;simp only[ag,decide_eq_true_eq,beq_iff_eq] at hk;refine⟨hk.1,fun g=>?_⟩;have:=hk.2;rw[aiH s _ g] at this;omega
 unfold Utf8.decode;simp only
 split
 · exact Ji
 split
 · rename_i h2
   have h2':=(ag _ _▸h2:_/\_).2;obtain⟨a1,b1⟩:=key 1 h2'
   split
   · refine⟨by omega,a1,fun j hj1 hj2 g=>?_⟩;have hj2:j<2:=hj2;obtain rfl:j=1:=by omega
     exact b1 g
   · exact Ji
 split
 · rename_i h2
   simp only[ag] at h2;obtain⟨a1,b1⟩:=key 1 (by simpa using h2.1.2);obtain⟨a2,b2⟩:=key 2 (by simpa using h2.2)
   split
   · refine⟨by omega,a2,fun j hj1 hj2 g=>?_⟩;have hj2:j<3:=hj2;rcases (by omega:j=1∨j=2) with rfl|rfl
     · exact b1 g
     · exact b2 g
   · exact Ji
 split
 · rename_i h2
   simp only[ag] at h2;obtain⟨a1,b1⟩:=key 1 (by simpa using h2.1.1.2);obtain⟨a2,b2⟩:=key 2 (by simpa using h2.1.2);obtain⟨a3,b3⟩:=key 3 (by simpa using h2.2)
   split
   · refine⟨by omega,a3,fun j hj1 hj2 g=>?_⟩;have hj2:j<4:=hj2;rcases (by omega:j=1∨j=2∨j=3) with rfl|rfl|rfl
     · exact b1 g
     · exact b2 g
     · exact b3 g
   · exact Ji
 · exact Ji
structure Fair (P:Int->Bool) (p:UInt8->Bool):Prop where
 low:∀c:UInt8,p c=P (c.toNat:Int)
 high:∀x:Int,128<=x->P x=P 128
theorem Qs:Fair iT gN:=⟨fun _=>rfl,fun x hx=>by unfold iT;rw[decide_eq_false (by omega:¬x<=122),Bool.and_false];decide⟩
theorem Qr:Fair j_ iA:=⟨fun _=>rfl,fun x hx=>by unfold j_;rw[decide_eq_false (by omega:¬x<=57),Bool.and_false];decide⟩
theorem Ya:Fair BF kX:=⟨fun _=>rfl,fun x hx=>by unfold BF;rw[Qs.high x hx,Qr.high x hx,decide_eq_false (by omega:¬x=95)];decide⟩
theorem X_:Fair Cx kg:=⟨fun _=>rfl,fun x hx=>by unfold Cx;rw[decide_eq_false (by omega:¬x=10)];decide⟩
def All (p:UInt8->Bool) (l:List UInt8) (k:Nat):Prop:=∀j,j<k->(h:j<l.length)->p l[j]=true
theorem KU {P:Int->Bool} {p:UInt8->Bool} (F:Fair P p) {s:ByteArray} {pos:Nat} (h:pos<s.size) (hA:All p (bs s) pos) (e:P ((Utf8.decode s pos).1:Int)=true):All p (bs s) (pos+(Utf8.decode s pos).2):=by
 intro j hj hl;rcases Nat.lt_or_ge j pos with h1|h1
 · exact hA j h1 hl
 rw[fJ] at hl;by_cases ha:(s[pos]'h).toNat<128
 · rw[decode_ascii s pos h ha] at e hj;have hj:j<pos+1:=hj;obtain rfl:j=pos:=by omega
   rw[F.low];exact e
 · have e1:=decode_high s pos h bT;rw[F.high _ (by have:=e1.1;omega)] at e;have hb:128<=(s[j]'hl).toNat:=by
    obtain⟨i,rfl⟩:∃i,j=pos+i:=⟨j-pos,by omega⟩
    by_cases hi:i=0
    · subst hi;simp only[Nat.add_zero];omega
    · exact(AF s pos h).2.2 i bT bT hl
   rw[F.low]
   show P (((s[j]'hl).toNat:Nat):Int)=true
   rw[F.high _ bT];exact e
theorem KT {P:Int->Bool} {p:UInt8->Bool} (F:Fair P p) {s:ByteArray} {pos:Nat} (h:pos<s.size) (hA:All p (bs s) pos) (e:P ((Utf8.decode s pos).1:Int)=false):dF p (bs s)=pos:=by
 refine abP Gb hA ?_;rw[F.low]
 show P (((s[pos]'h).toNat:Nat):Int)=false
 by_cases ha:(s[pos]'h).toNat<128
 · rw[decode_ascii s pos h ha] at e;exact e
 · have e1:=decode_high s pos h bT;rw[F.high _ (by have:=e1.1;omega)] at e;rw[F.high _ bT];exact e
theorem ah6 {p:UInt8->Bool} {s:ByteArray} {pos:Nat} (h:s.size<=pos) (hA:All p (bs s) pos):dF p (bs s)=s.size:=by
 rw[SN fun j hj=>hA j (by rw[fJ] at hj;omega) hj,fJ]
theorem FD {p:Prop} (h:p:=by
 exact Ea
 ):p:=h
theorem Il (x:Int) (w:World):Calls ae 190 #[.int .i32 x] w fun e w'=>e=.returned (.bool (iT x))/\w'=w:=by
 unfold iT;by_cases h1:97<=x
 · have t1:decide (97<=x)=true:=decide_eq_true h1;by_cases h2:x<=122
   · have t2:decide (x<=122)=true:=decide_eq_true h2;rw[t1,t2];go_enter func190,ntmps190;exact FD
   · have t2:decide (x<=122)=false:=decide_eq_false h2;rw[t1,t2];go_enter func190,ntmps190;exact FD
 · have t1:decide (97<=x)=false:=decide_eq_false h1;rw[t1,Bool.false_and];go_enter func190,ntmps190;exact FD
theorem GN (x:Int) (w:World):Calls ae 163 #[.int .i32 x] w fun e w'=>e=.returned (.bool (j_ x))/\w'=w:=by
 unfold j_;by_cases h1:48<=x
 · have t1:decide (48<=x)=true:=decide_eq_true h1;by_cases h2:x<=57
   · have t2:decide (x<=57)=true:=decide_eq_true h2;rw[t1,t2];go_enter func163,ntmps163;exact FD
   · have t2:decide (x<=57)=false:=decide_eq_false h2;rw[t1,t2];go_enter func163,ntmps163;exact FD
 · have t1:decide (48<=x)=false:=decide_eq_false h1;rw[t1,Bool.false_and];go_enter func163,ntmps163;exact FD
theorem yE {x:Int} {b:Bool} (h:iT x=b) (w:World):Calls ae 190 #[.int .i32 x] w fun e w'=>e=.returned (.bool b)/\w'=w:=by rw[← h];exact Il x w
theorem EB {x:Int} {b:Bool} (h:j_ x=b) (w:World):Calls ae 163 #[.int .i32 x] w fun e w'=>e=.returned (.bool b)/\w'=w:=by rw[← h];exact GN x w
theorem ZA (x:Int) (w:World):Calls ae 191 #[.int .i32 x] w fun e w'=>e=.returned (.bool (BF x))/\w'=w:=by
 unfold BF
 cases h1:iT x with
 | true=>
  have I1:=yE h1 w;go_enter func191,ntmps191;go_wp2_with (go_at_call 190;refine I1.mono ?_;rintro e w1 ⟨rfl,rfl⟩)
  go_ret;exact⟨rfl,rfl⟩
 | false=>
  have I1:=yE h1 w
  cases h2:j_ x with
  | true=>
   have I2:=EB h2 w;go_enter func191,ntmps191;go_wp2_with (first|(go_at_call 190;refine I1.mono ?_;rintro e w1 ⟨rfl,rfl⟩)|(go_at_call 163;refine I2.mono ?_;rintro e w1 ⟨rfl,rfl⟩))
   go_ret;exact⟨rfl,rfl⟩
  | false=>
   have I2:=EB h2 w;go_enter func191,ntmps191;go_wp2_with (first|(go_at_call 190;refine I1.mono ?_;rintro e w1 ⟨rfl,rfl⟩)|(go_at_call 163;refine I2.mono ?_;rintro e w1 ⟨rfl,rfl⟩))
   go_ret;exact⟨lC (by by_cases h:x=95 <;> simp[h]),rfl⟩
theorem Zz (x:Int) (w:World):Calls ae 113 #[.int .i32 x] w fun e w'=>e=.returned (.bool (Cx x))/\w'=w:=by
 have HD:Hid (Cx x = !decide (x=10)):=hid rfl;go_enter func113,ntmps113;go_wp2_with fail;go_ret;exact⟨lC (by rw[HD.out];by_cases h:x=10 <;> simp[h]),rfl⟩
theorem Nj {p:Prop} (h:p:=by
 rw[hv] at I1;clear HY HN hv;go_wp2_with fail;refine I1.mono ?_;rintro e w1 ⟨rfl,rfl⟩;go_wp2_with fail;go_roundw
 case rel=>exact⟨pos+M,m2,rfl,vY⟩
 case measure=>simp only[World.iterPos_iter];omega
 ):p:=h
theorem Nk {p:Prop} (h:p:=by
 have hnx:=fun ty=>run_next_end (P:=ae) w s pos ty h;have HR:=hid (ah6 bT HA.out);go_wp2_with fail;go_ret;exact⟨nN (by rw[HR.out]),hbl⟩
 ):p:=h
theorem Nl {p:Prop} (h:p:=by
 rw[hv] at I1;clear HY HN hv;go_wp2_with fail;refine I1.mono ?_;rintro e w1 ⟨rfl,rfl⟩;go_wp2_with fail;go_ret;exact⟨nN (by rw[HR.out]),Ll⟩
 ):p:=h
theorem anq (s:ByteArray) (w:World) (hs:s.size<=9223372036854775807):Calls ae 112 #[.string s,.func (.func 190) #[] #[]] w (Gives (.int .i64 ((dF gN (bs s):Nat):Int)) w):=by
 have hs':(s.size:Int)<=9223372036854775807:=by omega
 go_enter func112,ntmps112;go_wp2_with fail;go_loopw [] (fun wr=>∃pos:Nat,pos<=s.size/\wr=w.iter s pos/\Hid (All gN (bs s) pos)) (fun wr=>s.size-wr.iterPos w.heap.size)
 case atStart=>exact⟨0,Nat.zero_le _,rfl,hid fun j hj=>absurd hj (Nat.not_lt_zero _)⟩
 case round=>
  obtain⟨pos,hp,rfl,HA⟩:=hrel;have hbl:Below w.heap.size w (w.iter s pos):=iJ (af _ _);by_cases h:pos<s.size
  · have hnx:=fun ty=>run_next_any (P:=ae) w s pos ty h;have hd:=decode_le s pos;obtain⟨m1,m2,-⟩:=AF s pos h;have HY:=hid (fun e=>KU Qs h HA.out e);have HN:=hid (fun e=>KT Qs h HA.out e);obtain⟨R,hR⟩:∃R,(Utf8.decode s pos).1=R:=⟨_,rfl⟩
    obtain⟨M,hM⟩:∃M,(Utf8.decode s pos).2=M:=⟨_,rfl⟩
    rw[hR] at hd HY HN;rw[hM] at m1 m2 HY;simp only[hR,hM] at hnx;clear hR hM;have Ll:Below w.heap.size w (w.iter s (pos+M)):=iJ (af _ _)
    cases hv:iT (R:Int) with
    | true=>
     have vY:=hid (HY.out hv);have I1:=Il (R:Int) (w.iter s (pos+M));exact Nj
    | false=>
     have HR:=hid (HN.out hv);have I1:=Il (R:Int) (w.iter s (pos+M));exact Nl
  · exact Nk
theorem ano (s:ByteArray) (w:World) (hs:s.size<=9223372036854775807):Calls ae 112 #[.string s,.func (.func 163) #[] #[]] w (Gives (.int .i64 ((dF iA (bs s):Nat):Int)) w):=by
 have hs':(s.size:Int)<=9223372036854775807:=by omega
 go_enter func112,ntmps112;go_wp2_with fail;go_loopw [] (fun wr=>∃pos:Nat,pos<=s.size/\wr=w.iter s pos/\Hid (All iA (bs s) pos)) (fun wr=>s.size-wr.iterPos w.heap.size)
 case atStart=>exact⟨0,Nat.zero_le _,rfl,hid fun j hj=>absurd hj (Nat.not_lt_zero _)⟩
 case round=>
  obtain⟨pos,hp,rfl,HA⟩:=hrel;have hbl:Below w.heap.size w (w.iter s pos):=iJ (af _ _);by_cases h:pos<s.size
  · have hnx:=fun ty=>run_next_any (P:=ae) w s pos ty h;have hd:=decode_le s pos;obtain⟨m1,m2,-⟩:=AF s pos h;have HY:=hid (fun e=>KU Qr h HA.out e);have HN:=hid (fun e=>KT Qr h HA.out e);obtain⟨R,hR⟩:∃R,(Utf8.decode s pos).1=R:=⟨_,rfl⟩
    obtain⟨M,hM⟩:∃M,(Utf8.decode s pos).2=M:=⟨_,rfl⟩
    rw[hR] at hd HY HN;rw[hM] at m1 m2 HY;simp only[hR,hM] at hnx;clear hR hM;have Ll:Below w.heap.size w (w.iter s (pos+M)):=iJ (af _ _)
    cases hv:j_ (R:Int) with
    | true=>
     have vY:=hid (HY.out hv);have I1:=GN (R:Int) (w.iter s (pos+M));exact Nj
    | false=>
     have HR:=hid (HN.out hv);have I1:=GN (R:Int) (w.iter s (pos+M));exact Nl
  · exact Nk
theorem anr (s:ByteArray) (w:World) (hs:s.size<=9223372036854775807):Calls ae 112 #[.string s,.func (.func 191) #[] #[]] w (Gives (.int .i64 ((dF kX (bs s):Nat):Int)) w):=by
 have hs':(s.size:Int)<=9223372036854775807:=by omega
 go_enter func112,ntmps112;go_wp2_with fail;go_loopw [] (fun wr=>∃pos:Nat,pos<=s.size/\wr=w.iter s pos/\Hid (All kX (bs s) pos)) (fun wr=>s.size-wr.iterPos w.heap.size)
 case atStart=>exact⟨0,Nat.zero_le _,rfl,hid fun j hj=>absurd hj (Nat.not_lt_zero _)⟩
 case round=>
  obtain⟨pos,hp,rfl,HA⟩:=hrel;have hbl:Below w.heap.size w (w.iter s pos):=iJ (af _ _);by_cases h:pos<s.size
  · have hnx:=fun ty=>run_next_any (P:=ae) w s pos ty h;have hd:=decode_le s pos;obtain⟨m1,m2,-⟩:=AF s pos h;have HY:=hid (fun e=>KU Ya h HA.out e);have HN:=hid (fun e=>KT Ya h HA.out e);obtain⟨R,hR⟩:∃R,(Utf8.decode s pos).1=R:=⟨_,rfl⟩
    obtain⟨M,hM⟩:∃M,(Utf8.decode s pos).2=M:=⟨_,rfl⟩
    rw[hR] at hd HY HN;rw[hM] at m1 m2 HY;simp only[hR,hM] at hnx;clear hR hM;have Ll:Below w.heap.size w (w.iter s (pos+M)):=iJ (af _ _)
    cases hv:BF (R:Int) with
    | true=>
     have vY:=hid (HY.out hv);have I1:=ZA (R:Int) (w.iter s (pos+M));exact Nj
    | false=>
     have HR:=hid (HN.out hv);have I1:=ZA (R:Int) (w.iter s (pos+M));exact Nl
  · exact Nk
theorem anp (s:ByteArray) (w:World) (hs:s.size<=9223372036854775807):Calls ae 112 #[.string s,.func (.func 113) #[] #[]] w (Gives (.int .i64 ((dF kg (bs s):Nat):Int)) w):=by
 have hs':(s.size:Int)<=9223372036854775807:=by omega
 go_enter func112,ntmps112;go_wp2_with fail;go_loopw [] (fun wr=>∃pos:Nat,pos<=s.size/\wr=w.iter s pos/\Hid (All kg (bs s) pos)) (fun wr=>s.size-wr.iterPos w.heap.size)
 case atStart=>exact⟨0,Nat.zero_le _,rfl,hid fun j hj=>absurd hj (Nat.not_lt_zero _)⟩
 case round=>
  obtain⟨pos,hp,rfl,HA⟩:=hrel;have hbl:Below w.heap.size w (w.iter s pos):=iJ (af _ _);by_cases h:pos<s.size
  · have hnx:=fun ty=>run_next_any (P:=ae) w s pos ty h;have hd:=decode_le s pos;obtain⟨m1,m2,-⟩:=AF s pos h;have HY:=hid (fun e=>KU X_ h HA.out e);have HN:=hid (fun e=>KT X_ h HA.out e);obtain⟨R,hR⟩:∃R,(Utf8.decode s pos).1=R:=⟨_,rfl⟩
    obtain⟨M,hM⟩:∃M,(Utf8.decode s pos).2=M:=⟨_,rfl⟩
    rw[hR] at hd HY HN;rw[hM] at m1 m2 HY;simp only[hR,hM] at hnx;clear hR hM;have Ll:Below w.heap.size w (w.iter s (pos+M)):=iJ (af _ _)
    cases hv:Cx (R:Int) with
    | true=>
     have vY:=hid (HY.out hv);have I1:=Zz (R:Int) (w.iter s (pos+M));exact Nj
    | false=>
     have HR:=hid (HN.out hv);have I1:=Zz (R:Int) (w.iter s (pos+M));exact Nl
  · exact Nk
end Lx
namespace Md
open Go.RowKit
def Bf (B u:Nat) (b:Nat):Prop:=b<u/\b≠B
end Md
end Go.Proofs.YtkpekhpgdajabaaGreatDoor
