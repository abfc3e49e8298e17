/-
  Parts of this proof: Mathematics of tokens. Words for worlds and lists of tokens in memory; . The number of a text. The contract of the reference's longest. The contracts of endLine and scan. The text of a list of tokens; the contracts of v.
-/
import Derived.Test.YtkpekhpgdajabaaGreatDoorYNuMath
open Go renaming World->ae,Value->au
open List renaming length_cons->af,length_append->av
open Go.RowKit renaming Below->ag
open Option renaming some->ah,none->aj
open Nat renaming le_refl->ai
open Bool renaming and_eq_true->ak
set_option linter.unusedVariables false
set_option maxHeartbeats 2000000
namespace Go.Proofs.YtkpekhpgdajabaaGreatDoor
namespace Lx
open Nu
abbrev bs (s:ByteArray):List UInt8:=s.data.toList
theorem fJ (s:ByteArray):(bs s).length=s.size:=by simp[bs]
theorem jl {a b:ByteArray} (h:bs a=bs b):a=b:=by
 cases a;cases b
 simp only[bs,ByteArray.mk.injEq] at *
 exact Array.ext' h
theorem ae5 (a b:ByteArray):bs (a++b)=bs a++bs b:=by
 show(a++b).data.toList=_
 rw[ByteArray.data_append,Array.toList_append]
theorem J9 (s:ByteArray) (a b:Nat):bs (s.extract a b)=((bs s).drop a).take (b-a):=by
 show(s.extract a b).data.toList=_
 rw[ByteArray.data_extract,Array.toList_extract]
def mkS (l:List UInt8):ByteArray:=⟨l.toArray⟩
theorem wC (l:List UInt8):bs (mkS l)=l:=rfl
theorem RB (s:ByteArray):mkS (bs s)=s:=jl rfl
abbrev mt:ByteArray:=⟨#[]⟩
theorem Lm (s:ByteArray) (n:Nat):s.extract 0 n=mkS ((bs s).take n):=by
 apply jl
 rw[J9,wC,List.drop_zero,Nat.sub_zero]
theorem an9 (s:ByteArray) (a:Nat):s.extract a s.size=mkS ((bs s).drop a):=by
 apply jl
 rw[J9,wC,List.take_of_length_le (by rw[List.length_drop,fJ];exact ai _)]
def iT (x:Int):Bool:=decide (97<=x)&&decide (x<=122)
def j_ (x:Int):Bool:=decide (48<=x)&&decide (x<=57)
def BF (x:Int):Bool:=iT x||j_ x||decide (x=95)
def Cx (x:Int):Bool:=!decide (x=10)
def gN (c:UInt8):Bool:=iT (c.toNat:Int)
def iA (c:UInt8):Bool:=j_ (c.toNat:Int)
def kX (c:UInt8):Bool:=BF (c.toNat:Int)
def kg (c:UInt8):Bool:=Cx (c.toNat:Int)
def dF (p:UInt8->Bool) (l:List UInt8):Nat:=(l.takeWhile p).length
theorem z8 (p:UInt8->Bool) (l:List UInt8):dF p l<=l.length:=by
 unfold dF
 induction l with
 | nil=>simp
 | cons c t ih=>
  rw[List.takeWhile_cons]
  split
  · simp only[af];omega
  · simp
theorem abR (p:UInt8->Bool):dF p []=0:=rfl
theorem vM {p:UInt8->Bool} {c:UInt8} {t:List UInt8} (h:p c=true):dF p (c::t)=dF p t+1:=by unfold dF;rw[List.takeWhile_cons,if_pos h];rfl
theorem qA {p:UInt8->Bool} {c:UInt8} {t:List UInt8} (h:p c=false):dF p (c::t)=0:=by unfold dF;rw[List.takeWhile_cons,if_neg (by simp[h])];rfl
theorem abP {p:UInt8->Bool}:∀{l:List UInt8} {k:Nat} (hk:k<l.length),(∀j,j<k->(h:j<l.length)->p l[j]=true)->p l[k]=false->dF p l=k
 | [],k,hk,_,_=>absurd hk (Nat.not_lt_zero _)
 | c::t,0,_,_,e=>qA e
 | c::t,k+1,hk,h,e=>by
  rw[vM (c:=c) (h 0 (Nat.succ_pos _) cK),abP (l:=t) (k:=k) (by simpa using hk) (fun j hj hl=>h (j+1) bT (by simpa using hl)) e]
theorem SN {p:UInt8->Bool}:∀{l:List UInt8},(∀j,(h:j<l.length)->p l[j]=true)->dF p l=l.length
 | [],_=>rfl
 | c::t,h=>by
  rw[vM (c:=c) (h 0 cK),SN (l:=t) (fun j hl=>h (j+1) (by simpa using hl))];rfl
theorem abQ {p:UInt8->Bool}:∀{l:List UInt8} {j:Nat},j<dF p l->(h:j<l.length)->p l[j]=true
 | [],j,_,h=>absurd h (Nat.not_lt_zero _)
 | c::t,j,hj,h=>by
  cases hc:p c with
  | false=>rw[qA hc] at hj;omega
  | true=>
   rw[vM hc] at hj
   cases j with
   | zero=>exact hc
   | succ j=>exact abQ (l:=t) bT (by simpa using h)
theorem abO {p:UInt8->Bool}:∀{l:List UInt8} (h:dF p l<l.length),p (l[dF p l])=false
 | [],h=>absurd h (Nat.not_lt_zero _)
 | c::t,h=>by
  cases hc:p c with
  | false=>
   have e:=qA (t:=t) hc;simp only[e,List.getElem_cons_zero,hc]
  | true=>
   have e:=vM (t:=t) hc;simp only[e,List.getElem_cons_succ];rw[e] at h;exact abO (l:=t) (by simpa using h)
theorem MM {p:UInt8->Bool}:∀{l e:List UInt8},(∀c,e.head?=ah c->p c=false)->dF p (l++e)=dF p l
 | [],e,h=>by
  cases e with
  | nil=>rfl
  | cons c t=>rw[List.nil_append,qA (h c rfl)];rfl
 | c::t,e,h=>by
  rw[List.cons_append]
  cases hc:p c with
  | false=>rw[qA hc,qA hc]
  | true=>rw[vM hc,vM hc,MM h]
theorem abS {p:UInt8->Bool} {l:List UInt8}:∀c∈l.take (dF p l),p c=true:=by
 intro c hc;obtain⟨j,hj,rfl⟩:=List.getElem_of_mem hc;rw[List.length_take] at hj;rw[List.getElem_take];exact abQ bT bT
def Bg:List (List UInt8):=[[43],[45],[42],[47],[37],[61],[33,61],[60],[60,61],[62],[62,61],[40],[41],[44],[58],[46]]
def dG (l:List UInt8):Bool:=Bg.contains l
def iC (l:List UInt8):Bool:=decide (dF gN l≠0)&&decide (dF kX l=l.length)
def Hw (l:List UInt8):Bool:=decide (l ≠ [])&&l.all iA
def qX (l:List UInt8):Option Int:=if l.length=0∨13<l.length∨(1<l.length/\l.headD 0=48)∨l.all iA=false∨1000000000000<jR l then aj else ah (jR l)
structure Tk where
 k:Int
 t:ByteArray
 n:Int
 l:Int
def fQ (l:List UInt8):Option (Tk×Nat):=
 if dF gN l=0 then
  if dF iA l=0 then
   if 2<=l.length/\dG (l.take 2)=true then ah (⟨3,mkS (l.take 2),0,0⟩,2)
   else if dG (l.take 1)=true then ah (⟨3,mkS (l.take 1),0,0⟩,1) else aj
  else match qX (l.take (dF iA l)) with
   | some v=>ah (⟨2,mt,v,0⟩,dF iA l)
   | none=>aj
 else ah (⟨1,mkS (l.take (dF kX l)),0,0⟩,dF kX l)
theorem Ls {l:List UInt8} (h:dG l=true):1<=l.length/\l.length<=2:=by
 exact NZ
theorem TQ {c:UInt8} (h:gN c=true):kX c=true:=by unfold kX BF;unfold gN at h;rw[h];rfl
theorem SS {p:UInt8->Bool} {l:List UInt8} (h:dF p l≠0):∃c t,l=c::t/\p c=true:=by
 cases l with
 | nil=>exact absurd rfl h
 | cons c t=>
  cases hc:p c with
  | false=>exact absurd (qA hc) h
  | true=>exact⟨c,t,rfl,hc⟩
theorem Bl {p:UInt8->Bool} {c:UInt8} {t:List UInt8} (h:p c=true):1<=dF p (c::t):=by rw[vM h];omega
theorem EI {l:List UInt8} {x:Tk} {k:Nat} (h:fQ l=ah (x,k)):1<=k/\k<=l.length:=by
 unfold fQ at h;by_cases h1:dF gN l=0
 · rw[if_pos h1] at h;by_cases h2:dF iA l=0
   · rw[if_pos h2] at h;by_cases h3:2<=l.length/\dG (l.take 2)=true
     · rw[if_pos h3] at h;cases h;exact⟨by omega,h3.1⟩
     · rw[if_neg h3] at h;by_cases h4:dG (l.take 1)=true
       · rw[if_pos h4] at h;cases h;have:=Ls h4;rw[List.length_take] at this;omega
       · rw[if_neg h4] at h;cases h
   · rw[if_neg h2] at h
     split at h
     · cases h;exact⟨by omega,z8 _ _⟩
     · cases h
 · rw[if_neg h1] at h;cases h
   obtain⟨c,t,rfl,hc⟩:=SS h1;exact⟨Bl (TQ hc),z8 _ _⟩
def opn (a:List Tk):Bool:=match a.getLast? with|none=>false|some x=>decide (x.k≠4)
def iR (a:List Tk) (n:Nat):List Tk:=if opn a=true then a++[⟨4,mt,0,(n:Int)⟩] else a
structure dm where
 a:List Tk
 n:Nat
 bad:Bool
def jv (x:Tk) (n:Nat):Tk:=⟨x.k,x.t,x.n,(n:Int)⟩
def rP:Nat->List UInt8->List Tk->Nat->dm
 | 0,_,a,n=>⟨a,n,false⟩
 | _+1,[],a,n=>⟨a,n,false⟩
 | f+1,c::t,a,n=>
  if c=32∨c=9 then rP f t a n
  else if c=35 then rP f ((c::t).drop (dF kg (c::t))) a n
  else if c=10 then rP f t (iR a n) (n+1)
  else match fQ (c::t) with
   | none=>⟨a,n,true⟩
   | some (x,k)=>rP f ((c::t).drop k) (a++[jv x n]) n
def dH (l:List UInt8) (a:List Tk) (n:Nat):dm:=rP l.length l a n
theorem Hu:kg 35=true:=by decide
theorem TU {p:Prop} (h:p:=by rw[List.length_drop,af];omega):p:=h
theorem aau:∀(f:Nat) (l:List UInt8) (a:List Tk) (n:Nat),l.length<=f->rP f l a n=rP l.length l a n:=by
 intro f
 induction f using Nat.strongRecOn with
 | _ f ih=>
  intro l a n hf
  cases l with
  | nil=>cases f <;> rfl
  | cons c t=>
   obtain⟨g,rfl⟩:∃g,f=g+1:=⟨f-1,by simp only[af] at hf;omega⟩
   have hg:t.length<=g:=by simpa using hf
   by_cases e:g=t.length
   · subst e;rfl
   have hlt:t.length<g+1:=by omega
   have key:∀m (b:List Tk) q,m.length<=t.length->rP g m b q=rP t.length m b q:=fun m b q hm=>by
    rw[ih g bT m b q bT,ih t.length bT m b q hm]
   show rP (g+1) (c::t) a n=rP (t.length+1) (c::t) a n
   unfold rP;by_cases h1:c=32∨c=9
   · rw[if_pos h1,if_pos h1];exact key _ _ _ (ai _)
   rw[if_neg h1,if_neg h1];by_cases h2:c=35
   · rw[if_pos h2,if_pos h2];refine key _ _ _ ?_;have:=Bl (p:=kg) (c:=c) (t:=t) (by rw[h2];exact Hu);rw[List.length_drop,af];omega
   rw[if_neg h2,if_neg h2];by_cases h3:c=10
   · rw[if_pos h3,if_pos h3];exact key _ _ _ (ai _)
   rw[if_neg h3,if_neg h3]
   cases h4:fQ (c::t) with
   | none=>rfl
   | some y=>
    obtain⟨x,k⟩:=y;have:=EI h4;exact key _ _ _ TU
theorem LU (a:List Tk) (n:Nat):dH [] a n=⟨a,n,false⟩:=rfl
theorem CG (c:UInt8) (t:List UInt8) (a:List Tk) (n:Nat):dH (c::t) a n =
 if c=32∨c=9 then dH t a n
 else if c=35 then dH ((c::t).drop (dF kg (c::t))) a n
 else if c=10 then dH t (iR a n) (n+1)
 else match fQ (c::t) with
  | none=>⟨a,n,true⟩
  | some (x,k)=>dH ((c::t).drop k) (a++[jv x n]) n:=by
 show rP (t.length+1) (c::t) a n=_
 unfold rP dH;by_cases h1:c=32∨c=9
 · rw[if_pos h1,if_pos h1]
 rw[if_neg h1,if_neg h1];by_cases h2:c=35
 · rw[if_pos h2,if_pos h2];have:=Bl (p:=kg) (c:=c) (t:=t) (by rw[h2];exact Hu);exact aau _ _ _ _ TU
 rw[if_neg h2,if_neg h2];by_cases h3:c=10
 · rw[if_pos h3,if_pos h3]
 rw[if_neg h3,if_neg h3]
 cases h4:fQ (c::t) with
 | none=>rfl
 | some y=>
  obtain⟨x,k⟩:=y;have:=EI h4;exact aau _ _ _ _ TU
theorem AX {c:UInt8} {t:List UInt8} {a:List Tk} {n:Nat} (h:c=32∨c=9):dH (c::t) a n=dH t a n:=by rw[CG,if_pos h]
theorem Rs {t:List UInt8} {a:List Tk} {n:Nat}:dH (35::t) a n=dH ((35::t).drop (dF kg (35::t))) a n:=by rw[CG,if_neg bR,if_pos rfl]
theorem LV {t:List UInt8} {a:List Tk} {n:Nat}:dH (10::t) a n=dH t (iR a n) (n+1):=by rw[CG,if_neg bR,if_neg bR,if_pos rfl]
def Aa (c:UInt8):Prop:=¬(c=32∨c=9)/\¬c=35/\¬c=10
theorem ajV {c:UInt8} {t:List UInt8} {a:List Tk} {n:Nat} (h:Aa c) (e:fQ (c::t)=aj):dH (c::t) a n=⟨a,n,true⟩:=by rw[CG,if_neg h.1,if_neg h.2.1,if_neg h.2.2,e]
theorem LW {c:UInt8} {t:List UInt8} {a:List Tk} {n:Nat} {x:Tk} {k:Nat} (h:Aa c) (e:fQ (c::t)=ah (x,k)):dH (c::t) a n=dH ((c::t).drop k) (a++[jv x n]) n:=by rw[CG,if_neg h.1,if_neg h.2.1,if_neg h.2.2,e]
end Lx
namespace Lx
open Nu
open Go.RowKit
theorem nN {k:IntKind} {a b:Int} (h:a=b):Ending.returned (.int k a)=.returned (.int k b):=by rw[h]
theorem lC {a b:Bool} (h:a=b):Ending.returned (.bool a)=.returned (.bool b):=by rw[h]
def Gives (v:au) (w:ae) (e:Ending) (w':ae):Prop:=e=.returned v/\ag w.heap.size w w'
theorem YM {v u:au} {w w1:ae} (h:u=v) (hb:ag w.heap.size w w1):Gives u w (.returned v) w1:=⟨by rw[h],hb⟩
theorem below_drewN {B:Nat} {a w:ae} (h:ag B a w) (n:Nat):ag B a (w.drewN n):=⟨h.os,h.tape,h.output,h.size,h.block⟩
section
variable {a w w2:ae}
theorem iJ {o:Obj} (h:ag a.heap.size a w):ag a.heap.size a (w.alloc o):=h.alloc h.size o
theorem uy {n:Nat} (h:ag a.heap.size a w):ag a.heap.size a (w.drewN n):=below_drewN h n
theorem qJ (h:ag a.heap.size a w):ag a.heap.size a w.drew:=h.drew
theorem yn {p:Addr} (h:ag a.heap.size a w) (hp:a.heap.size<=p.block) (u:au):ag a.heap.size a (w.setCell p u):=h.setCell hp u
theorem rF (h:ag a.heap.size a w) (hb:ag w.heap.size w w2):ag a.heap.size a w2:=h.trans (hb.mono h.size)
end
theorem clash {x:Bool} (h:x=true) (g:x=false):False:=by rw[h] at g;cases g
theorem rH {a b:ByteArray} (h:bs a=bs b):(a.toList==b.toList)=true:=by rw[jl h];simp
theorem vk {a b:ByteArray} (h:¬bs a=bs b):(a.toList==b.toList)=false:=by
 exact Uz
theorem wu (b o j:Nat):(⟨b,o,aj⟩:Addr).add j=⟨b,o+j,aj⟩:=by unfold Addr.add;split <;> simp_all
def c4 (x:Tk) (r:Nat):au:=match r with
 | 0=>.int .i64 x.k
 | 1=>.string x.t
 | 2=>.int .i64 x.n
 | _=>.int .i64 x.l
def iQ (w:ae) (g o:Nat) (x:Tk):Prop:=w.cell? ⟨g,o,aj⟩=ah (.int .i64 x.k)/\w.cell? ⟨g,o+1,aj⟩=ah (.string x.t)/\w.cell? ⟨g,o+2,aj⟩=ah (.int .i64 x.n)/\w.cell? ⟨g,o+3,aj⟩=ah (.int .i64 x.l)
theorem iQ.on {w w2:ae} {g o:Nat} {x:Tk} (hb:ag w.heap.size w w2) (hg:g<w.heap.size) (h:iQ w g o x):iQ w2 g o x:=by
 obtain⟨h0,h1,h2,h3⟩:=h;exact⟨(hb.cell (p:=⟨g,o,aj⟩) hg).trans h0,(hb.cell (p:=⟨g,o+1,aj⟩) hg).trans h1,(hb.cell (p:=⟨g,o+2,aj⟩) hg).trans h2,(hb.cell (p:=⟨g,o+3,aj⟩) hg).trans h3⟩
theorem afV {w:ae} {g o r:Nat} {x:Tk} (h:iQ w g o x) (hr:r<4):w.cell? ⟨g,o+r,aj⟩=ah (c4 x r):=by
 obtain⟨h0,h1,h2,h3⟩:=h
 match r,hr with
 | 0,_=>exact h0
 | 1,_=>exact h1
 | 2,_=>exact h2
 | 3,_=>exact h3
theorem Kj {w:ae} {g o:Nat} {x:Tk} (h:∀r,r<4->w.cell? ⟨g,o+r,aj⟩=ah (c4 x r)):iQ w g o x:=
 ⟨h 0 bT,h 1 bT,h 2 bT,h 3 bT⟩
def flat:List Tk->List au
 | []=>[]
 | x::t=>.int .i64 x.k::.string x.t::.int .i64 x.n::.int .i64 x.l::flat t
theorem Qx:∀l:List Tk,(flat l).length=l.length*4
 | []=>rfl
 | x::t=>by simp only[flat,af,Qx t];omega
theorem Ye:∀a b:List Tk,flat (a++b)=flat a++flat b
 | [],b=>rfl
 | x::t,b=>by simp only[List.cons_append,flat,Ye t b]
theorem flat_get:∀{l:List Tk} {i r:Nat} (h:i<l.length),r<4->(flat l)[i*4+r]?=ah (c4 l[i] r)
 | [],i,r,h,_=>absurd h (Nat.not_lt_zero _)
 | x::t,0,r,_,hr=>by
  match r,hr with
  | 0,_=>rfl
  | 1,_=>rfl
  | 2,_=>rfl
  | 3,_=>rfl
 | x::t,i+1,r,h,hr=>by
  have e:(i+1)*4+r=(i*4+r)+1+1+1+1:=by omega
  rw[e];simp only[flat,List.getElem?_cons_succ,List.getElem_cons_succ];exact flat_get (l:=t) (by simpa using h) hr
theorem Yf:∀l:List Tk,∀u∈flat l,u.oneCell'=true
 | [],u,hu=>by cases hu
 | x::t,u,hu=>by
  simp only[flat,List.mem_cons] at hu;rcases hu with rfl|rfl|rfl|rfl|hu
  · rfl
  · rfl
  · rfl
  · rfl
  · exact Yf t u hu
def jC (w:ae) (p:Option Addr) (n:Nat) (l:List Tk):Prop:=
 l.length=n/\n<=9223372036854775807/\(n=0∨∃b o,p=ah ⟨b,o,aj⟩/\b<w.heap.size/\Hid (∀i,(h:i<l.length)->iQ w b (o+i*4) l[i]))
theorem jC.on {w w2:ae} {p:Option Addr} {n:Nat} {l:List Tk} (hb:ag w.heap.size w w2) (h:jC w p n l):jC w2 p n l:=by
 obtain⟨h0,hl,h|⟨b,o,rfl,h1,h2⟩⟩:=h
 · exact⟨h0,hl,.inl h⟩
 · exact⟨h0,hl,.inr ⟨b,o,rfl,Nat.lt_of_lt_of_le h1 hb.size,Lib.hid fun i hi=>iQ.on hb h1 (h2.out i hi)⟩⟩
theorem jC.alloc {w:ae} {o:Obj} {p:Option Addr} {n:Nat} {l:List Tk} (h:jC w p n l):jC (w.alloc o) p n l:=h.on ((Below.refl _ _).alloc (ai _) o)
theorem jC.drew {w:ae} {p:Option Addr} {n:Nat} {l:List Tk} (h:jC w p n l):jC w.drew p n l:=h
theorem jC.drewN {w:ae} {p:Option Addr} {n:Nat} {l:List Tk} (h:jC w p n l) (m:Nat):jC (w.drewN m) p n l:=h
theorem jC.nil {w:ae} {p:Option Addr}:jC w p 0 []:=⟨rfl,by omega,.inl rfl⟩
abbrev Own (lo:Nat) (w:ae) (v:au) (l:List Tk):Prop:=w.ownsRow lo 125 4 v l.length (flat l)
theorem own_below {lo:Nat} {w w2:ae} {v:au} {l:List Tk} (h:Own lo w v l) (hb:ag w.heap.size w w2):Own lo w2 v l:=
 World.ownsRow.kept h (row:=aj) ⟨hb.os,hb.tape,hb.output,hb.size,fun k hk _=>hb.block k hk⟩ (by cases v.ownBlock <;> simp)
theorem Df {lo:Nat} {w:ae} {v:au} {l:List Tk} (h:Own lo w v l):∃p c,v=.slice p l.length c/\jC w p l.length l/\l.length<=c/\((p=aj/\c=0)∨∃g,p=ah ⟨g,0,aj⟩/\lo<=g):=by
 have h':=h;rcases h'.2 with⟨rfl,h0⟩|⟨g,cap,cur,rfl,hg,EJ,hc,hm,h5,h6⟩
 · have:l=[]:=List.length_eq_zero_iff.1 h0;subst this;exact⟨aj,0,rfl,jC.nil,ai _,.inl ⟨rfl,rfl⟩⟩
 · refine⟨_,_,rfl,⟨rfl,?_,?_⟩,hc,.inr ⟨g,rfl,hg⟩⟩
   · unfold maxLen at hm;omega
   · refine .inr ⟨g,0,rfl,(h.lt g rfl).2,Lib.hid fun i hi=>Kj fun r hr=>?_⟩;rw[h.cellAt (0+i*4+r) bT,Nat.zero_add,flat_get hi hr]
theorem ale {o:Option TypeInfo} {z:au} {s b:Nat} (h:o.map (fun i=>(i.zero,i.size,i.bytes))=ah (ah z,s,b)):∃i,o=ah i/\i.zero=ah z/\i.size=s/\i.bytes=b:=by
 exact zzv
theorem aoj:(Tryz.prog.info? 125).map (fun i=>(i.zero,i.size,i.bytes))=ah (ah (.agg #[.int .i64 0,.string ⟨#[]⟩,.int .i64 0,.int .i64 0]),4,40):=by kernel_rfl
theorem OJ {lo:Nat} {w:ae} {v:au} {l:List Tk} (hown:Own lo w v l) {b:Nat} {x:Tk} (hb:b<w.heap.size) (hx:iQ w b 0 x) (hn:l.length<=1000000) (hlo:lo<=w.heap.size) :
 ∃v' w',(Builtin.append_ #[88,88] 88 #[v,.slice (ah ⟨b,0,aj⟩) 1 1]).run Tryz.prog w=.ok v' w'/\Own lo w' v' (l++[x])/\w.grownBy w' v.ownBlock:=by
 obtain⟨i0,hi0,hz0,hz1,hz2⟩:=ale aoj;have hnews:∀j u,(flat [x])[j]?=ah u->w.cell? ((⟨b,0,aj⟩:Addr).add j)=ah u:=by
  intro j u hu;have hj:j<4:=by
   have:=(List.getElem?_eq_some_iff.1 hu).1;rwa [Qx] at this
  have h2:=flat_get (l:=[x]) (i:=0) (r:=j) cK hj;rw[Nat.zero_mul,Nat.zero_add,hu] at h2;rw[wu,afV hx hj];exact h2.symm
 obtain⟨v',w',hrun,h2,h3,-,-⟩:=run_append_own_at (P:=Tryz.prog) w lo 88 88 125 i0 _ 4 40 Tryz.underlying88 hi0 hz0 hz1 hz2 rfl bT v l.length _ hown ⟨b,0,aj⟩ 1 1 (flat [x]) (Qx _) hnews (Yf _)
  Ga bT hlo
 rw[← Ye] at h2;refine⟨v',w',hrun,?_,h3⟩
 show w'.ownsRow lo 125 4 v' (l++[x]).length _
 rw[av];exact h2
theorem zP {w:ae} {x:Tk} {t:TypeId}:iQ (w.alloc (.cells #[.int .i64 x.k,.string x.t,.int .i64 x.n,.int .i64 x.l] t)) w.heap.size 0 x:=by
 exact zzy
theorem below_grown {lo:Nat} {a w w':ae} {v:au} {l:List Tk} (hB:ag lo a w) (hlo:lo<=w.heap.size) (ho:Own lo w v l) (hg:w.grownBy w' v.ownBlock):ag lo a w':=hB.grown hg hlo fun k hk=>(ho.lt k hk).1
theorem ajC {w w':ae} {lo:Nat} {v:au} {l:List Tk} {k:Nat} {s:ByteArray} {pos:Nat} (ho:Own lo w v l) (hg:w.grownBy w' v.ownBlock) (hk:w.heap[k]?=ah (.stringIter s pos)):w'.heap[k]?=ah (.stringIter s pos):=by
 have hlt:k<w.heap.size:=(Array.getElem?_eq_some_iff.1 hk).1;rw[hg.block k hlt ?_]
 · exact hk
 · intro e;rcases ho.2 with⟨rfl,h0⟩|⟨g,cap,cur,rfl,hgg,EJ,-⟩
   · simp[Value.ownBlock] at e
   · simp[Value.ownBlock] at e
     subst e;rw[hk] at EJ;cases EJ
end Lx
namespace Lx
open Nu
open Go.Lib
theorem GM {c:UInt8} (h:iA c=true):48<=c.toNat/\c.toNat<=57:=by
 unfold iA j_ at h;simp only[ak,decide_eq_true_eq] at h;omega
theorem ag0 {c:UInt8} (h0:48<=c.toNat) (h1:c.toNat<=57):iA c=true:=by
 unfold iA j_;simp only[ak,decide_eq_true_eq];omega
theorem Lt (v:Int) (h:0<=v):itoa v=decDigits v.toNat:=by unfold itoa;rw[if_neg bT]
theorem Rc {v:Int} (h:0<=v):(itoa v).all iA=true:=by
 rw[Lt v h,List.all_eq_true];intro c hc;have:=WK v.toNat c hc;exact ag0 this.1 this.2
theorem Re {v:Int} (h:0<=v):itoa v ≠ []:=by
 rw[Lt v h];obtain⟨c,r,e,-⟩:=Kq v.toNat;rw[e];exact List.cons_ne_nil _ _
theorem agU:∀u:Nat,10<=u->(decDigits u).headD 0≠48:=by
 intro u
 induction u using Nat.strongRecOn with
 | _ u ih=>
  intro h;rw[GL bT];by_cases h2:u / 10<10
  · rw[EA h2];intro e;have e2:(UInt8.ofNat (48+u / 10)).toNat=48:=by
     have:UInt8.ofNat (48+u / 10)=48:=e;rw[this];rfl
    rw[EC _ h2] at e2;omega
  · obtain⟨c,r,e,-⟩:=Kq (u / 10);have:=ih (u / 10) bT bT;rw[e] at this ⊢;exact this
theorem Yo {v:Int} (h:0<=v):jR (itoa v)=v:=by rw[aim,aet h]
theorem ajl (l:List UInt8):l ≠ []->(1<l.length->l.headD 0≠48)->l.all iA=true->0<=jR l/\(1<l.length->1<=jR l)/\itoa (jR l)=l:=by
 generalize hn:l.length=n
 induction n generalizing l with
 | zero=>intro h;exact absurd (List.length_eq_zero_iff.1 hn) h
 | succ n ih=>
  rcases List.eq_nil_or_concat l with rfl|⟨m,c,rfl⟩
  · simp at hn
  · rw[List.concat_eq_append] at hn ⊢;intro _ h1 h2;rw[List.all_append,ak] at h2;have hc:iA c=true:=by simpa using h2.2
    obtain⟨c1,c2⟩:=GM hc;have e:jR (m++[c])=10*jR m+(c.toNat-48):=by rw[Yp,yz,if_pos ⟨c1,c2⟩]
    have ec:UInt8.ofNat (48+(c.toNat-48))=c:=by rw[show 48+(c.toNat-48)=c.toNat by omega];exact UInt8.ofNat_toNat
    by_cases hm:m=[]
    · subst hm;have e0:jR ([]:List UInt8)=0:=rfl;rw[e0] at e;rw[e];refine⟨by omega,fun h=>by simp at hn;omega,?_⟩;rw[Lu _ bT bT,show(10*0+((c.toNat:Int)-48)).toNat=c.toNat-48 by omega,ec];rfl
    · have Hr:m.length=n:=by simpa using hn
      have hpos:1<=m.length:=by cases m with|nil=>exact absurd rfl hm|cons _ _=>simp
      have hh:m.headD 0≠48:=by
       have:=h1 bT
       cases m with
       | nil=>exact absurd rfl hm
       | cons d t=>exact this
      obtain⟨i1,i2,i3⟩:=ih m Hr hm (fun _=>hh) h2.1;have hone:1<=jR m:=by
       by_cases hl:1<n
       · exact i2 hl
       · cases m with
         | nil=>exact absurd rfl hm
         | cons d t=>
          have ht:t=[]:=List.length_eq_zero_iff.1 (by simp at Hr;omega);subst ht;have hd:iA d=true:=by simpa using h2.1
          obtain⟨d1,d2⟩:=GM hd;have e3:jR [d]=10*0+(d.toNat-48):=by
           have:jR ([]++[d])=yz (jR []) d:=Yp [] d;rw[List.nil_append] at this;rw[this,yz,if_pos ⟨d1,d2⟩];rfl
          have hd0:d.toNat≠48:=fun g=>hh (by
           show d=48
           apply UInt8.toNat_inj.1
           rw[g];rfl)
          rw[e3];omega
      rw[e];refine⟨by omega,fun _=>by omega,?_⟩;rw[Rb _ bT,show(10*jR m+((c.toNat:Int)-48)) / 10=jR m by omega,show(10*jR m+((c.toNat:Int)-48)) % 10=(c.toNat:Int)-48 by omega,i3,
       Lu _ bT bT,show((c.toNat:Int)-48).toNat=c.toNat-48 by omega,ec]
theorem C_ {l:List UInt8} {v:Int}:qX l=ah v↔0<=v/\v<=1000000000000/\l=itoa v:=by
 unfold qX;constructor
 · intro h
   split at h
   · cases h
   · rename_i hc
     simp only[not_or,not_and,Bool.not_eq_false] at hc;obtain⟨h1,h2,h3,h4,h5⟩:=hc;cases h
     have:=ajl l (fun e=>h1 (by rw[e];rfl)) h3 h4;exact⟨this.1,by omega,this.2.2.symm⟩
 · rintro⟨h0,h1,rfl⟩;have hl:(itoa v).length<=13:=by rw[Lt v h0,decDigits_length];have:=EZ 12 v.toNat bT;omega
   rw[if_neg,Yo h0];simp only[not_or,not_and,Bool.not_eq_false];refine⟨fun e=>Re h0 (List.length_eq_zero_iff.1 e),by omega,fun h=>?_,Rc h0,by rw[Yo h0];omega⟩;rw[Lt v h0] at h ⊢;refine agU _ ?_;rcases Nat.lt_or_ge v.toNat 10 with g|g
   · rw[EA g] at h;simp at h
   · exact g
theorem akA {l:List UInt8}:qX l=aj ↔ ∀v:Int,0<=v->v<=1000000000000->l≠itoa v:=by
 constructor
 · intro h v h0 h1 e;rw[C_.2 ⟨h0,h1,e⟩] at h;cases h
 · intro h
   cases e:qX l with
   | none=>rfl
   | some v=>
    obtain⟨h0,h1,e1⟩:=C_.1 e;exact absurd e1 (h v h0 h1)
end Lx
namespace Lx
open Nu
open Go.RowKit
theorem SQ {p:UInt8->Bool}:∀(l:List UInt8) (n:Nat),dF p (l.take n)=min n (dF p l)
 | [],n=>by simp[abR]
 | c::t,0=>by simp[abR]
 | c::t,n+1=>by
  rw[List.take_succ_cons]
  cases hc:p c with
  | false=>rw[qA hc,qA hc];omega
  | true=>rw[vM hc,vM hc,SQ t n];omega
theorem abJ {l:List UInt8} (h:dG l=true):dF gN l=0/\dF iA l=0:=by
 exact NZ
theorem ach {l:List UInt8}:iC l=true↔dF gN l≠0/\dF kX l=l.length:=by
 unfold iC;simp only[ak,decide_eq_true_eq]
end Lx
namespace Lx
open Nu
open Go.RowKit
theorem RP (m:List Tk) (x:Tk):opn (m++[x])=decide (x.k≠4):=by unfold opn;rw[List.getLast?_concat]
theorem ahU (m:List Tk) (x:Tk) (n:Nat) (h:x.k=4):iR (m++[x]) n=m++[x]:=by unfold iR;rw[RP,if_neg (by simp[h])]
theorem ahV (m:List Tk) (x:Tk) (n:Nat) (h:¬x.k=4):iR (m++[x]) n=m++[x]++[⟨4,mt,0,(n:Int)⟩]:=by unfold iR;rw[RP,if_pos (by simp[h])]
theorem GZ (a:List Tk) (n:Nat):(iR a n).length<=a.length+1:=by
 unfold iR
 split
 · simp
 · omega
def BM (lo:Nat) (v:au) (l:List Tk) (w:ae) (e:Ending) (w':ae):Prop:=∃v',e=.returned v'/\Own lo w' v' l/\w.grownBy w' v.ownBlock
theorem BM.same {lo:Nat} {v:au} {l:List Tk} {w:ae} (h:Own lo w v l):BM lo v l w (.returned v) w:=⟨v,rfl,h,⟨rfl,rfl,rfl,ai _,fun _ _ _=>rfl⟩⟩
theorem Lf {w w':ae} {o:Obj} {row:Option Nat} (h:(w.alloc o).grownBy w' row):w.grownBy w' row:=((World.grownBy_alloc w o aj).but row).trans h
set_option maxRecDepth 100000 in
theorem XY {lo:Nat} {v:au} {l:List Tk} (n:Nat) (w:ae) (ho:Own lo w v l) (hlo:lo<=w.heap.size) (hl:l.length<=1000000):Calls Tryz.prog 67 #[v,.int .i64 (n:Int)] w (BM lo v (iR l n) w):=by
 obtain⟨p,c,rfl,hT,hc,hp⟩:=Df ho;rcases List.eq_nil_or_concat l with rfl|⟨m,x,rfl⟩
 · have HG:=Lib.hid (BM.same ho);clear hT hp ho;go_enter Tryz.func67,Tryz.ntmps67;go_wp2_with fail;go_ret;exact HG.out
 · rw[List.concat_eq_append] at *
   obtain⟨-,-,h0|⟨b,o,rfl,hb,hcell⟩⟩:=hT
   · rw[av] at h0;simp at h0
   · have hx:=hcell.out m.length cK;rw[List.getElem_concat_length rfl] at hx;have e1:=hx.1;obtain⟨N,hN⟩:∃N,(m++[x]).length=N:=⟨_,rfl⟩
     have hN1:m.length+1=N:=by rw[← hN,av];rfl
     have ho':=ho;have hl':=hl;rw[hN] at hc hl;obtain⟨M,hM⟩:∃M,m.length=M:=⟨_,rfl⟩
     rw[hM] at e1 hN1;have c0:((N:Int)==0)=false:=by rw[beq_eq_false_iff_ne];omega
     have c1:(N:Int)-1=(M:Int):=by omega
     have c2:(0:Int)<=(M:Int):=by omega
     have c3:(M:Int)<(N:Int):=by omega
     by_cases hk:x.k=4
     · rw[hk] at e1;have HG:Hid (BM lo _ (iR (m++[x]) n) w _ w):=Lib.hid (by rw[ahU m x n hk];exact BM.same ho);rw[hN] at HG;rw[hN];clear ho ho' hx hcell hN hM hp hk;go_enter Tryz.func67,Tryz.ntmps67;go_wp2_with fail;go_ret;exact HG.out
     · have q1:(x.k==4)=false:=beq_eq_false_iff_ne.2 hk;have hB:ag w.heap.size w (w.alloc (.cells #[.int .i64 4,.string ⟨#[]⟩,.int .i64 0,.int .i64 (n:Int)] 125)):=iJ (Below.refl _ _);obtain⟨v2,w2,hrun,ho2,hg2⟩:=OJ (own_below ho hB) cK (zP (w:=w) (x:=⟨4,mt,0,(n:Int)⟩) (t:=125)) hl' (by have:=hB.size;omega);have HG:Hid (BM lo _ (iR (m++[x]) n) w (.returned v2) w2):=Lib.hid (by rw[ahV m x n hk];exact⟨v2,rfl,ho2,Lf hg2⟩);rw[hN] at HG hrun;rw[hN];clear ho ho' hx hcell hN hM hp hk ho2 hg2 hB;go_enter Tryz.func67,Tryz.ntmps67;go_wp2_with (at_builtin;refine Lib.wpList_append_run _ rfl _ _ _ _ rfl _ _ rfl rfl _ _ hrun ?_)
       go_ret;exact HG.out
end Lx
namespace Lx
open Nu
open Go.RowKit
def Jf (x:Tk):ByteArray:=if x.k=2 then num x.n else x.t
end Lx
end Go.Proofs.YtkpekhpgdajabaaGreatDoor
