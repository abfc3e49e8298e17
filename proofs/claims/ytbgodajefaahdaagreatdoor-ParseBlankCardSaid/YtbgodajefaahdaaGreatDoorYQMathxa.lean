/-
  Parts of this proof: Mathematics of models. The records of a model in memory. What holds of every rule of the grammar.
-/
import Derived.Test.YtbgodajefaahdaaGreatDoorYPBase
import Derived.Test.YtbgodajefaahdaaGreatDoorYTMath
open Bool renaming and_eq_true->ae
set_option linter.unusedVariables false
namespace Go.Proofs.YtbgodajefaahdaaGreatDoor
namespace Md
open Na (jO)
open Sm (Vz jN KR)
theorem dQ.ext' {x y:dQ}:x=y↔x.t=y.t/\x.u=y.u:=by cases x;cases y;simp
theorem Val.ext' {x y:Val}:x=y↔x.nm=y.nm/\x.ty=y.ty/\x.n=y.n:=by cases x;cases y;simp
theorem iI.ext' {x y:iI}:x=y↔x.nm=y.nm/\x.rm=y.rm/\x.po=y.po:=by cases x;cases y;simp
theorem iF.ext' {x y:iF}:x=y↔x.nm=y.nm/\x.ln=y.ln/\x.sp=y.sp:=by cases x;cases y;simp
theorem d_.ext' {x y:d_}:x=y↔x.nm=y.nm/\x.ty=y.ty:=by cases x;cases y;simp
theorem gU.ext' {x y:gU}:x=y↔x.co=y.co/\x.wh=y.wh/\x.nm=y.nm:=by cases x;cases y;simp
theorem gz.ext' {x y:gz}:x=y↔x.fr=y.fr/\x.tt=y.tt/\x.de=y.de:=by cases x;cases y;simp
def dC {α:Type} (f:α->α->Bool):List α->List α->Bool
 | [],[]=>true
 | x::t,y::u=>f x y&&dC f t u
 | [],_::_=>false
 | _::_,[]=>false
theorem rf {α:Type} {f:α->α->Bool} (hf:∀x y,f x y=true↔x=y):∀{l m:List α},dC f l m=true↔l=m
 | [],[]=>by simp[dC]
 | x::t,y::u=>by rw[dC,ae,hf,rf hf,List.cons.injEq]
 | [],_::_=>by simp[dC]
 | _::_,[]=>by simp[dC]
theorem r_ {α:Type} {f:α->α->Bool}:∀{l m:List α},¬l.length=m.length->dC f l m=false
 | [],[],h=>absurd rfl h
 | x::t,y::u,h=>by rw[dC,r_ (by simpa using h),Bool.and_false]
 | [],_::_,_=>rfl
 | _::_,[],_=>rfl
theorem Tv {α:Type} {f:α->α->Bool}:∀{a b c d:List α},a.length=b.length->dC f (a++c) (b++d)=(dC f a b&&dC f c d)
 | [],[],c,d,_=>rfl
 | x::t,y::u,c,d,h=>by rw[List.cons_append,List.cons_append,dC,dC,Tv (by simpa using h),Bool.and_assoc]
 | [],_::_,_,_,h=>by simp at h
 | _::_,[],_,_,h=>by simp at h
theorem vk {α:Type} {f:α->α->Bool} {l m:List α} {k:Nat} {x y:α} (hx:l[k]?=some x) (hy:m[k]?=some y) (h:dC f (l.take k) (m.take k)=true) (g:f x y=true):dC f (l.take (k+1)) (m.take (k+1))=true:=by
 obtain⟨hk,-⟩:=List.getElem?_eq_some_iff.1 hx;obtain⟨hj,-⟩:=List.getElem?_eq_some_iff.1 hy;rw[Ex.take_one hx,Ex.take_one hy,Tv (by rw[List.length_take,List.length_take];omega),h,dC,g];rfl
theorem pU {α:Type} {f:α->α->Bool} {l m:List α} {k:Nat} {x y:α} (hx:l[k]?=some x) (hy:m[k]?=some y) (g:f x y=false):dC f l m=false:=by
 obtain⟨hk,e1⟩:=List.getElem?_eq_some_iff.1 hx;obtain⟨hj,e2⟩:=List.getElem?_eq_some_iff.1 hy;have a:=List.take_append_drop k l;have b:=List.take_append_drop k m;rw[List.drop_eq_getElem_cons hk,e1] at a;rw[List.drop_eq_getElem_cons hj,e2] at b;rw[← a,← b,Tv (by rw[List.length_take,List.length_take];omega),dC,g];simp
theorem sW {x y:ByteArray}:dF x y=true↔x=y:=by
 unfold dF;rw[decide_eq_true_eq];exact⟨jO,fun h=>by rw[h]⟩
def dG (x y:Int):Bool:=decide (x=y)
theorem sI {x y:Int}:dG x y=true↔x=y:=by unfold dG;exact decide_eq_true_iff
def wH (x y:dQ):Bool:=dG x.t y.t&&dG x.u y.u
theorem ajP (x y:dQ):wH x y=true↔x=y:=by unfold wH;rw[ae,sI,sI,dQ.ext']
def uQ (x y:Val):Bool:=dF x.nm y.nm&&(dG x.ty y.ty&&dG x.n y.n)
theorem afz (x y:Val):uQ x y=true↔x=y:=by unfold uQ;rw[ae,ae,sW,sI,sI,Val.ext']
def Dv (x y:iI):Bool:=dF x.nm y.nm&&(dG x.rm y.rm&&dG x.po y.po)
theorem arl (x y:iI):Dv x y=true↔x=y:=by unfold Dv;rw[ae,ae,sW,sI,sI,iI.ext']
def Ce (x y:iF):Bool:=dF x.nm y.nm&&(dG x.ln y.ln&&dG x.sp y.sp)
theorem ai2 (x y:iF):Ce x y=true↔x=y:=by unfold Ce;rw[ae,ae,sW,sI,sI,iF.ext']
def tY (x y:d_):Bool:=dF x.nm y.nm&&dG x.ty y.ty
theorem al7 (x y:d_):tY x y=true↔x=y:=by unfold tY;rw[ae,sW,sI,d_.ext']
def xD (x y:gU):Bool:=dG x.co y.co&&(dF x.wh y.wh&&dF x.nm y.nm)
theorem ar_ (x y:gU):xD x y=true↔x=y:=by unfold xD;rw[ae,ae,sI,sW,sW,gU.ext']
def CL (x y:gz):Bool:=dF x.fr y.fr&&(dF x.tt y.tt&&dG x.de y.de)
theorem an9 (x y:gz):CL x y=true↔x=y:=by unfold CL;rw[ae,ae,sW,sW,sI,gz.ext']
def rG (x y:dm):Bool:=dF x.nm y.nm&&dG x.un y.un&&dC wH x.sh y.sh&&dG x.cy y.cy&&Cr x y
theorem ap3 (x y:dm):rG x y=true↔x=y:=by
 unfold rG Cr;simp only[ae,sW,sI,rf ajP,Vz]
 cases x;cases y
 simp only[dm.mk.injEq];constructor
 · rintro⟨⟨⟨⟨a,b⟩,c⟩,d⟩,⟨e,f⟩,g⟩;exact⟨a,b,c,d,e,f,g⟩
 · rintro⟨a,b,c,d,e,f,g⟩;exact⟨⟨⟨⟨a,b⟩,c⟩,d⟩,⟨e,f⟩,g⟩
def xz (x y:eQ):Bool:=dF x.nm y.nm&&dC tY x.ps y.ps&&dC tY x.ls y.ls&&jN x.bo y.bo
theorem afX {p:Prop} (h:p:=by
 constructor
 · rintro⟨⟨⟨a,b⟩,c⟩,d⟩;exact⟨a,b,c,d⟩
 · rintro⟨a,b,c,d⟩;exact⟨⟨⟨a,b⟩,c⟩,d⟩
 ):p:=h
theorem aqi (x y:eQ):xz x y=true↔x=y:=by
 unfold xz;simp only[ae,sW,rf al7,KR]
 cases x;cases y
 simp only[eQ.mk.injEq];exact afX
def zO (x y:h_):Bool:=dF x.ro y.ro&&dC dG x.ar y.ar&&dG x.a y.a&&dG x.e y.e&&dG x.u y.u
theorem aqA (x y:h_):zO x y=true↔x=y:=by
 unfold zO;simp only[ae,sW,sI,rf (fun x y=>sI (x:=x) (y:=y))]
 cases x;cases y
 simp only[h_.mk.injEq];constructor
 · rintro⟨⟨⟨⟨a,b⟩,c⟩,d⟩,e⟩;exact⟨a,b,c,d,e⟩
 · rintro⟨a,b,c,d,e⟩;exact⟨⟨⟨⟨a,b⟩,c⟩,d⟩,e⟩
def vF (x y:Lw):Bool:=dF x.nm y.nm&&dC xD x.ts y.ts&&dG x.tt y.tt
theorem aof (x y:Lw):vF x y=true↔x=y:=by
 unfold vF;simp only[ae,sW,sI,rf ar_]
 cases x;cases y
 simp only[Lw.mk.injEq];constructor
 · rintro⟨⟨a,b⟩,c⟩;exact⟨a,b,c⟩
 · rintro⟨a,b,c⟩;exact⟨⟨a,b⟩,c⟩
def jE (x y:b_):Bool:=dF x.nm y.nm&&dC uQ x.va y.va&&dC rG x.rs y.rs&&dC Dv x.st y.st&&dC Ce x.be y.be&&dC dF x.qu y.qu&&dC dF x.sm y.sm&&dC dF x.ta y.ta&&dC dF x.le y.le&&dC dF x.co y.co&&dC xz x.ro y.ro&&dC zO x.ss y.ss&&dC vF x.la y.la
theorem aq8 (x y:b_):jE x y=true↔x=y:=by
 have ht:∀l m:List ByteArray,dC dF l m=true↔l=m:=fun l m=>rf (fun x y=>sW);unfold jE;simp only[ae,sW,rf afz,rf ap3,rf arl,rf ai2,ht,rf aqi,rf aqA,rf aof]
 cases x;cases y
 simp only[b_.mk.injEq];constructor
 · rintro⟨⟨⟨⟨⟨⟨⟨⟨⟨⟨⟨⟨a,b⟩,c⟩,d⟩,e⟩,f⟩,g⟩,h⟩,i⟩,j⟩,k⟩,l⟩,m⟩;exact⟨a,b,c,d,e,f,g,h,i,j,k,l,m⟩
 · rintro⟨a,b,c,d,e,f,g,h,i,j,k,l,m⟩;exact⟨⟨⟨⟨⟨⟨⟨⟨⟨⟨⟨⟨a,b⟩,c⟩,d⟩,e⟩,f⟩,g⟩,h⟩,i⟩,j⟩,k⟩,l⟩,m⟩
def vJ (x y:dx):Bool:=dF x.nm y.nm&&dC uQ x.pa y.pa&&dC jE x.si y.si&&dC CL x.li y.li
theorem aog (x y:dx):vJ x y=true↔x=y:=by
 unfold vJ;simp only[ae,sW,rf afz,rf aq8,rf an9]
 cases x;cases y
 simp only[dx.mk.injEq];exact afX
theorem adX (x:dx):vJ x x=true:=(aog x x).2 rfl
end Md
namespace Md
open Go.RowKit
set_option maxHeartbeats 1000000
theorem ZF:Big 177 2:=⟨⟨_,Tryz.underlying177,rfl⟩,by kernel_rfl⟩
end Md
namespace Ps
open Ps.P (rt fl bd acc see kd kw tk exp len)
open Lx (Tk)
def down (d:Int) (x:Tk):Tk:=⟨x.k,x.t,x.n,x.l+d⟩
def R.down {α:Type} (d:Int):R α->R α
 | .ok x u=>.ok x (u.map (Ps.down d))
 | .no u=>.no (u.map (Ps.down d))
theorem Gx (d:Int) (t:List Tk):(hd (t.map (down d))).k=(hd t).k/\(hd (t.map (down d))).t=(hd t).t/\(hd (t.map (down d))).n=(hd t).n:=by
 cases t with
 | nil=>exact⟨rfl,rfl,rfl⟩
 | cons x r=>exact⟨rfl,rfl,rfl⟩
theorem Us (d:Int) (s:ByteArray) (t:List Tk):is s (t.map (down d))=is s t:=by unfold is;rw[(Gx d t).2.1]
theorem WI (d:Int) (t:List Tk):(t.map (down d)).tail=t.tail.map (down d):=by cases t <;> rfl
theorem aqz {α:Type} (d:Int) (m:P α):∀t:List Tk,run m (t.map (down d))=(run m t).down d:=by
 induction m with
 | rt x=>intro t;rfl
 | fl=>intro t;rfl
 | bd m k ih1 ih2=>
  intro t;rw[run,run,ih1 t]
  cases run m t with
  | ok y v=>exact ih2 y v
  | no v=>rfl
 | acc s A B ih1 ih2=>
  intro t;rw[run,run,Us,WI]
  split
  · exact ih1 _
  · exact ih2 t
 | see s A B ih1 ih2=>
  intro t;rw[run,run,Us]
  split
  · exact ih1 t
  · exact ih2 t
 | kd k A B ih1 ih2=>
  intro t;rw[run,run,(Gx d t).1]
  split
  · exact ih1 t
  · exact ih2 t
 | kw A B ih1 ih2=>
  intro t;rw[run,run,(Gx d t).2.1]
  split
  · exact ih1 t
  · exact ih2 t
 | tk k=>intro t;rw[run,run,(Gx d t).1,(Gx d t).2.1,(Gx d t).2.2,WI];split <;> rfl
 | exp s=>intro t;rw[run,run,Us,WI];split <;> rfl
 | len m f ih=>
  intro t;rw[run,run,ih t]
  cases run m t with
  | ok y v=>simp only[R.down,List.length_map]
  | no v=>rfl
end Ps
end Go.Proofs.YtbgodajefaahdaaGreatDoor
