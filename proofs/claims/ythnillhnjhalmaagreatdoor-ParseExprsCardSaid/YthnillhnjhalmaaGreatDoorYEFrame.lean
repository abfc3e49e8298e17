/-
  Parts of this proof: The last step of a law's row; what an expression. Mathematics of tokens. Mathematics of lists of names. Plain facts about fractions, about division by d. The contracts of package frac's small functions. Words for slices of ints in memory; the contract. The contracts of slices.Equal, of the reference'. The contracts of package dist's unused, checkLen. The contract of package dist's Check, at every d. Words for lists of texts in memory; the contract.
-/
import Derived.Test.YthnillhnjhalmaaGreatDoorYNuMath
open Go.Proofs.Tryz
open Go.Proofs.Tryz renaming prog->ae
open Option renaming none->X,some->ag
open Go renaming World->af,Value->ai,Addr->aj,Calls->ak,bodyPost_ret->ay
open Go.RowKit renaming Below->ah
open Nat renaming le_refl->au,lt_of_lt_of_le->az
open List renaming length_cons->av
open Go.Lib renaming hid->ax
set_option linter.unusedVariables false
set_option maxHeartbeats 2000000
open Go.Lib (hid)
namespace Go.Proofs.YthnillhnjhalmaaGreatDoor
namespace Ex
open Go.ChangeShapes Go.WideShapes Go.ChangeAt Go.RowKit Go.Joins Go.Deep
section
variable {H:Type} {enc:TypeId×ai->H}
theorem Tv {f:Func} {s:ChangeSpec} {W W':af} {args:Array ai} {b:Bool} {ds:List (DataW H)} {before:List MemPlace}
 (hW:DataW.Whole enc ae f.params.toList s.vars false W args.toList ds [] before)
 (hres:DataW.TrodAll enc ae W' W.heap.size (fun _=>false) false f.resultTypes.toList ((Value.bool b).resultList f.resultTypes.size) (s.fn H (ds++[])).results [])
 (hargs:DataW.TrodAll enc ae W' 0 (fun k=>decide (k<W.heap.size)) true f.params.toList args.toList (s.fn H (ds++[])).args before)
 (hvars:DataW.TrodVars enc ae W' (fun k=>decide (k<W.heap.size)) s.vars (s.fn H (ds++[])).vars [])
 (hb:ah W.heap.size W W'):s.post enc ae f false true false false W args (.bool b) W':=
 ⟨ds,[],before,[],before,[],hW,hres,hargs,hvars,World.keptBut_mono (fun _ hp=>⟨hp,Or.inr (Or.inl hp)⟩) (hb.frame (· ∈ before)),fun h=>by cases h⟩
theorem own:ownKnob Tryz.prog.godebug=X:=by kernel_rfl
theorem laidOut:laidOutB ae=true:=by kernel_rfl
theorem agb {W W':af} {v:ai} {d:DataW H} {ps:List MemPlace} {t:TypeId} (hr:Tryz.prog.readableRec t=true) (ht:t<Tryz.prog.types.size) (h:DataW.Trod enc ae W 0 (fun _=>true) true t v d ps) (hb:ah W.heap.size W W') (hlt:∀y∈ps,y.block<W.heap.size) :
 DataW.Trod enc ae W' 0 (fun k=>decide (k<W.heap.size)) true t v d ps:=Below.trod laidOut hr ht h hb hlt
end
end Ex
namespace Lx
open Nu
abbrev bs (s:ByteArray):List UInt8:=s.data.toList
theorem eF (s:ByteArray):(bs s).length=s.size:=by simp[bs]
theorem kH {a b:ByteArray} (h:bs a=bs b):a=b:=by
 cases a;cases b
 simp only[bs,ByteArray.mk.injEq] at *
 exact Array.ext' h
theorem Ir (s:ByteArray) (a b:Nat):bs (s.extract a b)=((bs s).drop a).take (b-a):=by
 show(s.extract a b).data.toList=_
 rw[ByteArray.data_extract,Array.toList_extract]
def mkS (l:List UInt8):ByteArray:=⟨l.toArray⟩
theorem rD (l:List UInt8):bs (mkS l)=l:=rfl
abbrev mt:ByteArray:=⟨#[]⟩
theorem ail (s:ByteArray) (a n:Nat):s.extract a (a+n)=mkS (((bs s).drop a).take n):=by
 apply kH
 rw[Ir,rD,Nat.add_sub_cancel_left]
theorem Ja (s:ByteArray) (n:Nat):s.extract 0 n=mkS ((bs s).take n):=by
 apply kH
 rw[Ir,rD,List.drop_zero,Nat.sub_zero]
theorem adh (s:ByteArray) (a:Nat):s.extract a s.size=mkS ((bs s).drop a):=by
 apply kH
 rw[Ir,rD,List.take_of_length_le (by rw[List.length_drop,eF];exact au _)]
def gM (x:Int):Bool:=decide (97<=x)&&decide (x<=122)
def gV (x:Int):Bool:=decide (48<=x)&&decide (x<=57)
def vk (x:Int):Bool:=gM x||gV x||decide (x=95)
def BL (x:Int):Bool:=!decide (x=10)
def gq (c:UInt8):Bool:=gM (c.toNat:Int)
def dY (c:UInt8):Bool:=gV (c.toNat:Int)
def iU (c:UInt8):Bool:=vk (c.toNat:Int)
def gL (c:UInt8):Bool:=BL (c.toNat:Int)
def dm (p:UInt8->Bool) (l:List UInt8):Nat:=(l.takeWhile p).length
theorem qY (p:UInt8->Bool) (l:List UInt8):dm p l<=l.length:=by
 unfold dm
 induction l with
 | nil=>simp
 | cons c t ih=>
  rw[List.takeWhile_cons]
  split
  · simp only[av];omega
  · simp
theorem ac4 (p:UInt8->Bool):dm p []=0:=rfl
theorem ED {p:UInt8->Bool} {c:UInt8} {t:List UInt8} (h:p c=true):dm p (c::t)=dm p t+1:=by unfold dm;rw[List.takeWhile_cons,if_pos h];rfl
theorem Cg {p:UInt8->Bool} {c:UInt8} {t:List UInt8} (h:p c=false):dm p (c::t)=0:=by unfold dm;rw[List.takeWhile_cons,if_neg (by simp[h])];rfl
theorem ac3 {p:UInt8->Bool}:∀{l:List UInt8} {k:Nat} (hk:k<l.length),(∀j,j<k->(h:j<l.length)->p l[j]=true)->p l[k]=false->dm p l=k
 | [],k,hk,_,_=>absurd hk (Nat.not_lt_zero _)
 | c::t,0,_,_,e=>Cg e
 | c::t,k+1,hk,h,e=>by
  rw[ED (c:=c) (h 0 (Nat.succ_pos _) cz),ac3 (l:=t) (k:=k) (by simpa using hk) (fun j hj hl=>h (j+1) bU (by simpa using hl)) e]
theorem Od {p:UInt8->Bool}:∀{l:List UInt8},(∀j,(h:j<l.length)->p l[j]=true)->dm p l=l.length
 | [],_=>rfl
 | c::t,h=>by
  rw[ED (c:=c) (h 0 cz),Od (l:=t) (fun j hl=>h (j+1) (by simpa using hl))];rfl
theorem Kb {p:UInt8->Bool}:∀{l:List UInt8} {j:Nat},j<dm p l->(h:j<l.length)->p l[j]=true
 | [],j,_,h=>absurd h (Nat.not_lt_zero _)
 | c::t,j,hj,h=>by
  cases hc:p c with
  | false=>rw[Cg hc] at hj;omega
  | true=>
   rw[ED hc] at hj
   cases j with
   | zero=>exact hc
   | succ j=>exact Kb (l:=t) bU Ad
theorem Ux {p:UInt8->Bool}:∀{l:List UInt8} (h:dm p l<l.length),p (l[dm p l])=false
 | [],h=>absurd h (Nat.not_lt_zero _)
 | c::t,h=>by
  cases hc:p c with
  | false=>
   have e:=Cg (t:=t) hc;simp only[e,List.getElem_cons_zero,hc]
  | true=>
   have e:=ED (t:=t) hc;simp only[e,List.getElem_cons_succ];rw[e] at h;exact Ux (l:=t) Ad
theorem ac5 {p:UInt8->Bool} {l:List UInt8}:∀c∈l.take (dm p l),p c=true:=by
 intro c hc;obtain⟨j,hj,rfl⟩:=List.getElem_of_mem hc;rw[List.length_take] at hj;rw[List.getElem_take];exact Kb bU bU
def J9:List (List UInt8):=[[43],[45],[42],[47],[37],[61],[33,61],[60],[60,61],[62],[62,61],[40],[41],[44],[58],[46]]
def fZ (l:List UInt8):Bool:=J9.contains l
def jG (l:List UInt8):Bool:=decide (dm gq l≠0)&&decide (dm iU l=l.length)
def nU (l:List UInt8):Bool:=decide (l ≠ [])&&l.all dY
def jL (l:List UInt8):Option Int:=if l.length=0∨13<l.length∨(1<l.length/\l.headD 0=48)∨l.all dY=false∨1000000000000<iA l then X else ag (iA l)
structure Tk where
 k:Int
 t:ByteArray
 n:Int
 l:Int
def iN (l:List UInt8):Option (Tk×Nat):=
 if dm gq l=0 then
  if dm dY l=0 then
   if 2<=l.length/\fZ (l.take 2)=true then ag (⟨3,mkS (l.take 2),0,0⟩,2)
   else if fZ (l.take 1)=true then ag (⟨3,mkS (l.take 1),0,0⟩,1) else X
  else match jL (l.take (dm dY l)) with
   | some v=>ag (⟨2,mt,v,0⟩,dm dY l)
   | none=>X
 else ag (⟨1,mkS (l.take (dm iU l)),0,0⟩,dm iU l)
theorem Jf {l:List UInt8} (h:fZ l=true):1<=l.length/\l.length<=2:=by
 exact Wt
theorem Oy {c:UInt8} (h:gq c=true):iU c=true:=by unfold iU vk;unfold gq at h;rw[h];rfl
theorem Kc {p:UInt8->Bool} {l:List UInt8} (h:dm p l≠0):∃c t,l=c::t/\p c=true:=by
 cases l with
 | nil=>exact absurd rfl h
 | cons c t=>
  cases hc:p c with
  | false=>exact absurd (Cg hc) h
  | true=>exact⟨c,t,rfl,hc⟩
theorem yw {p:UInt8->Bool} {c:UInt8} {t:List UInt8} (h:p c=true):1<=dm p (c::t):=by rw[ED h];omega
theorem DJ {l:List UInt8} {x:Tk} {k:Nat} (h:iN l=ag (x,k)):1<=k/\k<=l.length:=by
 unfold iN at h;by_cases h1:dm gq l=0
 · rw[if_pos h1] at h;by_cases h2:dm dY l=0
   · rw[if_pos h2] at h;by_cases h3:2<=l.length/\fZ (l.take 2)=true
     · rw[if_pos h3] at h;cases h;exact⟨by omega,h3.1⟩
     · rw[if_neg h3] at h;by_cases h4:fZ (l.take 1)=true
       · rw[if_pos h4] at h;cases h;have:=Jf h4;rw[List.length_take] at this;omega
       · rw[if_neg h4] at h;cases h
   · rw[if_neg h2] at h
     split at h
     · cases h;exact⟨by omega,qY _ _⟩
     · cases h
 · rw[if_neg h1] at h;cases h
   obtain⟨c,t,rfl,hc⟩:=Kc h1;exact⟨yw (Oy hc),qY _ _⟩
def opn (a:List Tk):Bool:=match a.getLast? with|none=>false|some x=>decide (x.k≠4)
def iD (a:List Tk) (n:Nat):List Tk:=if opn a=true then a++[⟨4,mt,0,(n:Int)⟩] else a
structure dx where
 a:List Tk
 n:Nat
 bad:Bool
def su (x:Tk) (n:Nat):Tk:=⟨x.k,x.t,x.n,(n:Int)⟩
def tu:Nat->List UInt8->List Tk->Nat->dx
 | 0,_,a,n=>⟨a,n,false⟩
 | _+1,[],a,n=>⟨a,n,false⟩
 | f+1,c::t,a,n=>
  if c=32∨c=9 then tu f t a n
  else if c=35 then tu f ((c::t).drop (dm gL (c::t))) a n
  else if c=10 then tu f t (iD a n) (n+1)
  else match iN (c::t) with
   | none=>⟨a,n,true⟩
   | some (x,k)=>tu f ((c::t).drop k) (a++[su x n]) n
def eG (l:List UInt8) (a:List Tk) (n:Nat):dx:=tu l.length l a n
theorem F8:gL 35=true:=by decide
theorem atE {p:Prop} (h:p:=by rw[List.length_drop,av];omega):p:=h
theorem abt:∀(f:Nat) (l:List UInt8) (a:List Tk) (n:Nat),l.length<=f->tu f l a n=tu l.length l a n:=by
 intro f
 induction f using Nat.strongRecOn with
 | _ f ih=>
  intro l a n hf
  cases l with
  | nil=>cases f <;> rfl
  | cons c t=>
   obtain⟨g,rfl⟩:∃g,f=g+1:=⟨f-1,by simp only[av] at hf;omega⟩
   have hg:t.length<=g:=by simpa using hf
   by_cases e:g=t.length
   · subst e;rfl
   have hlt:t.length<g+1:=by omega
   have key:∀m (b:List Tk) q,m.length<=t.length->tu g m b q=tu t.length m b q:=fun m b q hm=>by
    rw[ih g bU m b q bU,ih t.length bU m b q hm]
   show tu (g+1) (c::t) a n=tu (t.length+1) (c::t) a n
   unfold tu;by_cases h1:c=32∨c=9
   · rw[if_pos h1,if_pos h1];exact key _ _ _ (au _)
   rw[if_neg h1,if_neg h1];by_cases h2:c=35
   · rw[if_pos h2,if_pos h2];refine key _ _ _ ?_;have:=yw (p:=gL) (c:=c) (t:=t) (by rw[h2];exact F8);rw[List.length_drop,av];omega
   rw[if_neg h2,if_neg h2];by_cases h3:c=10
   · rw[if_pos h3,if_pos h3];exact key _ _ _ (au _)
   rw[if_neg h3,if_neg h3]
   cases h4:iN (c::t) with
   | none=>rfl
   | some y=>
    obtain⟨x,k⟩:=y;have:=DJ h4;exact key _ _ _ atE
theorem Nj (a:List Tk) (n:Nat):eG [] a n=⟨a,n,false⟩:=rfl
theorem D6 (c:UInt8) (t:List UInt8) (a:List Tk) (n:Nat):eG (c::t) a n =
 if c=32∨c=9 then eG t a n
 else if c=35 then eG ((c::t).drop (dm gL (c::t))) a n
 else if c=10 then eG t (iD a n) (n+1)
 else match iN (c::t) with
  | none=>⟨a,n,true⟩
  | some (x,k)=>eG ((c::t).drop k) (a++[su x n]) n:=by
 show tu (t.length+1) (c::t) a n=_
 unfold tu eG;by_cases h1:c=32∨c=9
 · rw[if_pos h1,if_pos h1]
 rw[if_neg h1,if_neg h1];by_cases h2:c=35
 · rw[if_pos h2,if_pos h2];have:=yw (p:=gL) (c:=c) (t:=t) (by rw[h2];exact F8);exact abt _ _ _ _ atE
 rw[if_neg h2,if_neg h2];by_cases h3:c=10
 · rw[if_pos h3,if_pos h3]
 rw[if_neg h3,if_neg h3]
 cases h4:iN (c::t) with
 | none=>rfl
 | some y=>
  obtain⟨x,k⟩:=y;have:=DJ h4;exact abt _ _ _ _ atE
theorem abv {c:UInt8} {t:List UInt8} {a:List Tk} {n:Nat} (h:c=32∨c=9):eG (c::t) a n=eG t a n:=by rw[D6,if_pos h]
theorem alp {t:List UInt8} {a:List Tk} {n:Nat}:eG (35::t) a n=eG ((35::t).drop (dm gL (35::t))) a n:=by rw[D6,if_neg bS,if_pos rfl]
theorem abw {t:List UInt8} {a:List Tk} {n:Nat}:eG (10::t) a n=eG t (iD a n) (n+1):=by rw[D6,if_neg bS,if_neg bS,if_pos rfl]
def Cm (c:UInt8):Prop:=¬(c=32∨c=9)/\¬c=35/\¬c=10
theorem abu {c:UInt8} {t:List UInt8} {a:List Tk} {n:Nat} (h:Cm c) (e:iN (c::t)=X):eG (c::t) a n=⟨a,n,true⟩:=by rw[D6,if_neg h.1,if_neg h.2.1,if_neg h.2.2,e]
theorem abx {c:UInt8} {t:List UInt8} {a:List Tk} {n:Nat} {x:Tk} {k:Nat} (h:Cm c) (e:iN (c::t)=ag (x,k)):eG (c::t) a n=eG ((c::t).drop k) (a++[su x n]) n:=by rw[D6,if_neg h.1,if_neg h.2.1,if_neg h.2.2,e]
end Lx
namespace Ex
abbrev Nm:=List UInt8
def wt (q:List Nm×Bool):Nat:=q.1.length+(match q.2 with|true=>0|false=>1)
end Ex
section
def okF (n d:Int):Bool:=decide (1<=d/\d<=1000000000000000/\-4611686018427387904<=n/\n<=4611686018427387904/\Nat.gcd n.natAbs d.natAbs=1)
def cut (n:Int) (d:Nat):Option (Int×Int):=if n.natAbs<=4611686018427387904/\d<=1000000000000000 then ag (n,(d:Int)) else X
def keep (r:Rat):Option (Int×Int):=cut r.num r.den
def qv (n d:Int):Rat:=mkRat n d.natAbs
def sg (m:Bool) (t:Nat):Int:=if m then -(t:Int) else (t:Int)
def uN (n d:Int):Int:=if okF n d then n else 0
def uD (n d:Int):Int:=if okF n d then d else 1
def qz (n d:Int):Rat:=qv (uN n d) (uD n d)
end
section
open Go.RowKit
theorem nZ {k:IntKind} {a b:Int} (h:a=b):Ending.returned (.int k a)=.returned (.int k b):=by rw[h]
theorem lJ {a b:Bool} (h:a=b):Ending.returned (.bool a)=.returned (.bool b):=by rw[h]
def Quiet (v:ai) (w:af) (e:Ending) (w':af):Prop:=e=.returned v/\∃n,w'=w.drewN n
def Gives (v:ai) (w:af) (e:Ending) (w':af):Prop:=e=.returned v/\ah w.heap.size w w'
theorem below_drewN {B:Nat} {a w:af} (h:ah B a w) (n:Nat):ah B a (w.drewN n):=⟨h.os,h.tape,h.output,h.size,h.block⟩
section
variable {a w w2:af}
theorem iw {o:Obj} (h:ah a.heap.size a w):ah a.heap.size a (w.alloc o):=h.alloc h.size o
theorem vN {n:Nat} (h:ah a.heap.size a w):ah a.heap.size a (w.drewN n):=below_drewN h n
theorem rC (h:ah a.heap.size a w):ah a.heap.size a w.drew:=h.drew
theorem zf {p:aj} (h:ah a.heap.size a w) (hp:a.heap.size<=p.block) (u:ai):ah a.heap.size a (w.setCell p u):=h.setCell hp u
theorem sQ (h:ah a.heap.size a w) (hb:ah w.heap.size w w2):ah a.heap.size a w2:=h.trans (hb.mono h.size)
end
def two (w:af) (b:Nat) (x y:ai):Prop:=w.cell? ⟨b,0,X⟩=ag x/\w.cell? ⟨b,1,X⟩=ag y/\w.frozen? ⟨b,0,X⟩=false/\w.frozen? ⟨b,1,X⟩=false/\b<w.heap.size
theorem two.call {w w2:af} {b:Nat} {x y:ai} (h:two w b x y) (hb:ah w.heap.size w w2):two w2 b x y:=by
 obtain⟨h1,h2,h3,h4,h5⟩:=h;exact⟨(hb.cell (p:=⟨b,0,X⟩) h5).trans h1,(hb.cell (p:=⟨b,1,X⟩) h5).trans h2,(hb.frozen (p:=⟨b,0,X⟩) h5).trans h3,(hb.frozen (p:=⟨b,1,X⟩) h5).trans h4,az h5 hb.size⟩
theorem two.on {w w2:af} {b:Nat} {x y:ai} (hb:ah w.heap.size w w2) (h:two w b x y):two w2 b x y:=h.call hb
theorem two.drew {w:af} {b:Nat} {x y:ai} (h:two w b x y):two w.drew b x y:=h
theorem two.drewN {w:af} {b:Nat} {x y:ai} (h:two w b x y) (n:Nat):two (w.drewN n) b x y:=h
theorem two.alloc {w:af} {b:Nat} {x y:ai} {o:Obj} (h:two w b x y):two (w.alloc o) b x y:=h.call ((Below.refl _ _).alloc (au _) o)
theorem two.new {w:af} {x y:ai} {t:TypeId}:two (w.alloc (.cells #[x,y] t)) w.heap.size x y:=by
 refine⟨?_,?_,?_,?_,?_⟩ <;> first|(go_simp;done)|(simp;done)|(simp;omega)
theorem xE {w:af} {g b o:Nat} {x y v:ai} (h:w.cell? ⟨b,o,X⟩=ag v) (hne:b≠g):((w.setCell ⟨g,0,X⟩ x).setCell ⟨g,1,X⟩ y).cell? ⟨b,o,X⟩=ag v:=by
 rw[World.cell?_setCell_other _ _ _ _ (fun e=>hne (by injection e with e;first|exact e|exact e.symm)),World.cell?_setCell_other _ _ _ _ (fun e=>hne (by injection e with e;first|exact e|exact e.symm))];exact h
theorem two.far {w:af} {g b:Nat} {x y u v:ai} (h:two w b u v) (hne:b≠g):two ((w.setCell ⟨g,0,X⟩ x).setCell ⟨g,1,X⟩ y) b u v:=by
 obtain⟨h1,h2,h3,h4,h5⟩:=h;refine⟨xE h1 hne,xE h2 hne,?_,?_,by simp[World.setCell];exact h5⟩
 · go_simp
 · go_simp
theorem bq {p:Prop} (h:p:=by(repeat (first|(with_reducible exact Below.refl _ _)|(with_reducible assumption)|(with_reducible apply iw)|(with_reducible apply vN)|(with_reducible apply rC)|(with_reducible refine zf ?_ (by first|(simp;done)|(simp;omega)) _)|(with_reducible refine sQ ?_ (by assumption))))):p:=h
end
namespace Di
open Go.RowKit
def iO (lo n hi:Int):Bool:=decide (lo<=n)&&decide (n<=hi)
def sP (lo hi:Int) (V:Nat->Int):Nat->Bool
 | 0=>true
 | k+1=>sP lo hi V k&&iO lo (V k) hi
def rH (V W:Nat->Int):Nat->Bool
 | 0=>true
 | k+1=>rH V W k&&(V k==W k)
def nk (n m:Nat) (V W:Nat->Int):Bool:=n==m&&rH V W n
theorem af8 {lo hi:Int} {V:Nat->Int} {k n:Nat} (h:sP lo hi V k=false) (hk:k<=n):sP lo hi V n=false:=by
 induction n with
 | zero => obtain rfl : k = 0 := by omega
           exact h
 | succ m ih=>
  by_cases e:k=m+1
  · subst e;exact h
  · show(sP lo hi V m&&_)=false
    rw[ih bU];rfl
theorem ajq {V W:Nat->Int} {k n:Nat} (h:rH V W k=false) (hk:k<=n):rH V W n=false:=by
 induction n with
 | zero => obtain rfl : k = 0 := by omega
           exact h
 | succ m ih=>
  by_cases e:k=m+1
  · subst e;exact h
  · show(rH V W m&&_)=false
    rw[ih bU];rfl
def Row (w:af) (p:Option aj) (n:Nat) (V:Nat->Int):Prop:=
 n<=9223372036854775807/\(n=0∨∃b o,p=ag ⟨b,o,X⟩/\b<w.heap.size/\Hid (∀i,i<n->w.cell? ⟨b,o+i,X⟩=ag (.int .i64 (V i))))
theorem Row.on {w w2:af} {p:Option aj} {n:Nat} {V:Nat->Int} (hb:ah w.heap.size w w2) (h:Row w p n V):Row w2 p n V:=by
 obtain⟨hl,h|⟨b,o,rfl,h1,h2⟩⟩:=h
 · exact⟨hl,.inl h⟩
 · exact⟨hl,.inr ⟨b,o,rfl,az h1 hb.size,ax fun i hi=>(hb.cell (p:=⟨b,o+i,X⟩) h1).trans (h2.out i hi)⟩⟩
theorem Row.alloc {w:af} {o:Obj} {p:Option aj} {n:Nat} {V:Nat->Int} (h:Row w p n V):Row (w.alloc o) p n V:=h.on ((Below.refl _ _).alloc (au _) o)
theorem Row.drew {w:af} {p:Option aj} {n:Nat} {V:Nat->Int} (h:Row w p n V):Row w.drew p n V:=h
theorem Row.drewN {w:af} {p:Option aj} {n:Nat} {V:Nat->Int} (h:Row w p n V) (m:Nat):Row (w.drewN m) p n V:=h
theorem BA (x y z:Int) (w:af):ak ae 202 #[.int .i64 x,.int .i64 y,.int .i64 z] w fun e w'=>e=.returned (.bool (iO x y z))/\w=w':=by
 by_cases h1:x<=y <;> by_cases h2:y<=z
 all_goals
  go_enter func202,ntmps202
  go_wp2
  go_ret;exact⟨lJ (by simp[iO, *]),rfl⟩
theorem af7 {lo hi:Int} {V:Nat->Int} {k n:Nat} (h:k<n) (h2:iO lo (V k) hi=false):false=sP lo hi V n:=
 (af8 (k:=k+1) (by show(_&&_)=false;rw[h2,Bool.and_false]) h).symm
theorem af9 {lo hi:Int} {V:Nat->Int} {k:Nat} (h1:sP lo hi V k=true) (h2:iO lo (V k) hi=true):sP lo hi V (k+1)=true:=by
 show(_&&_)=true;rw[h1,h2];rfl
theorem Qr (lo hi:Int) (p:Option aj) (n c:Nat) (V:Nat->Int) (w:af) (hR:Row w p n V):ak ae 203 #[.int .i64 lo,.slice p n c,.int .i64 hi] w fun e w'=>e=.returned (.bool (sP lo hi V n))/\w=w':=by
 obtain⟨hl,h|⟨b,o,rfl,hb,hc⟩⟩:=hR
 · subst h;go_enter func203,ntmps203;go_wp2_with fail;go_loop [11] (fun i=>i=.int .i64 0) (fun _=>0)
   case atStart=>rfl
   case round=>
    obtain rfl:=hrel;exact CQ
 · go_enter func203,ntmps203;go_wp2_with fail;go_loop [11] (fun i=>∃k:Nat,k<=n/\i=.int .i64 k/\Hid (sP lo hi V k=true)) (fun i=>n-(intOf i).toNat)
   case atStart=>exact⟨0,Nat.zero_le _,rfl,ax rfl⟩
   case round=>
    obtain⟨k,hk,rfl,HA⟩:=hrel;rcases Nat.lt_or_ge k n with h|h
    · have e1:=hc.out k h;have c1:(0:Int)<=(k:Int):=by omega
      have c2:(k:Int)<(n:Int):=by omega
      cases hi':iO lo (V k) hi
      · have H:=ax hi';clear hi';go_wp2_with fail;refine(BA _ _ _ _).mono ?_;rintro e w1 ⟨rfl,rfl⟩;rw[H.out];go_wp2_with fail;go_ret;exact⟨lJ (af7 h H.out),rfl⟩
      · have H:=ax hi';clear hi';go_wp2_with fail;refine(BA _ _ _ _).mono ?_;rintro e w1 ⟨rfl,rfl⟩;rw[H.out];go_wp2_with fail;go_round
        case rel=>exact⟨k+1,by omega,by go_num,ax (af9 HA.out H.out)⟩
        case measure=>simp[intOf];omega
    · obtain rfl:n=k:=by omega
      go_wp2_with fail;go_ret;exact⟨lJ HA.out.symm,rfl⟩
end Di
namespace Di
open Go.RowKit
theorem ajp {V W:Nat->Int} {k n:Nat} (h:k<n) (h2:(V k==W k)=false):rH V W n=false:=
 ajq (k:=k+1) (by show(_&&_)=false;rw[h2,Bool.and_false]) h
theorem ajr {V W:Nat->Int} {k:Nat} (h1:rH V W k=true) (h2:(V k==W k)=true):rH V W (k+1)=true:=by
 show(_&&_)=true;rw[h1,h2];rfl
theorem Zp {V W:Nat->Int} {n:Nat}:nk n n V W=rH V W n:=by unfold nk;rw[beq_self_eq_true];rfl
theorem atX {p:Prop} (h:p:=by
 obtain⟨k,t,hk,rfl,rfl,HA⟩:=hrel;rcases Nat.lt_or_ge k n with h|h
 · have e1:=hc.out k h;have e2:=hc2.out k h;have c1:(0:Int)<=(k:Int):=by omega
   have c2:(k:Int)<(n:Int):=by omega
   have c3:IntKind.i64.wrap ((k:Int)+1)=((k+1:Nat):Int):=by rw[IntKind.wrap_i64];omega
   cases hi:(V k==W k)
   · have H:=ax hi;have hx:(V k != W k)=true:=by unfold bne;rw[hi];rfl
     clear hi;go_wp2_with fail
     go_quiet (fail)
     go_wp2_with fail;go_ret;exact⟨lJ (ajp h H.out).symm,_,(by first|rfl|exact World.drewN_drewN _ _ _)⟩
   · have H:=ax hi;have hx:(V k != W k)=false:=by unfold bne;rw[hi];rfl
     clear hi;go_wp2_with fail
     go_quiet (fail)
     go_wp2_with fail;go_roundw
     case rel=>exact⟨k+1,_,by omega,by go_num,(by first|rfl|exact World.drewN_drewN _ _ _),ax (ajr HA.out H.out)⟩
     case measure=>simp[intOf];omega
 · obtain rfl:n=k:=by omega
   go_wp2_with fail;go_ret;exact⟨lJ HA.out.symm,_,rfl⟩
 ):p:=h
theorem ayi {p:Prop} (h:p:=by
 subst h;go_enter func201,ntmps201;go_wp2_with fail;go_loop [13] (fun i=>i=.int .i64 0) (fun _=>0)
 case atStart=>rfl
 case round=>
  obtain rfl:=hrel;exact afl
 ):p:=h
theorem RQ (p q:Option aj) (n m c f:Nat) (V W:Nat->Int) (w:af) (hp:Row w p n V) (hq:Row w q m W):ak ae 201 #[.slice p n c,.slice q m f] w (Quiet (.bool (nk n m V W)) w):=by
 by_cases hnm:n=m
 · subst hnm;obtain⟨hl,h|⟨b,o,rfl,hb,hc⟩⟩:=hp
   · exact ayi
   · obtain⟨-,h|⟨b2,o2,rfl,hb2,hc2⟩⟩:=hq
     · exact ayi
     rw[Zp];go_enter func201,ntmps201;go_wp2_with fail;go_loopw [13] (fun i wr=>∃k t:Nat,k<=n/\i=.int .i64 k/\wr=w.drewN t/\Hid (rH V W k=true)) (fun i _=>n-(intOf i).toNat)
     case atStart=>exact⟨0,0,Nat.zero_le _,rfl,rfl,ax rfl⟩
     case round=>
      exact atX
 · have hx:((n:Int) != (m:Int))=true:=by rw[bne_iff_ne];omega
   have hx2:(n != m)=true:=by rw[bne_iff_ne];exact hnm
   have hr:nk n m V W=false:=by unfold nk;rw[show(n==m)=false from by rw[beq_eq_false_iff_ne];exact hnm];rfl
   rw[hr];clear hr hp hq;go_enter func201,ntmps201;exact afl
theorem ayj {p:Prop} (h:p:=by
 subst h;go_enter func61,ntmps61;go_wp2_with fail;go_loop [5] (fun i=>i=.int .i64 0) (fun _=>0)
 case atStart=>rfl
 case round=>
  obtain rfl:=hrel;exact afl
 ):p:=h
theorem Ud (p q:Option aj) (n m c f:Nat) (V W:Nat->Int) (w:af) (hp:Row w p n V) (hq:Row w q m W):ak ae 61 #[.slice p n c,.slice q m f] w (Quiet (.bool (nk n m V W)) w):=by
 by_cases hnm:n=m
 · subst hnm;obtain⟨hl,h|⟨b,o,rfl,hb,hc⟩⟩:=hp
   · exact ayj
   · obtain⟨-,h|⟨b2,o2,rfl,hb2,hc2⟩⟩:=hq
     · exact ayj
     rw[Zp];go_enter func61,ntmps61;go_wp2_with fail;go_loopw [5] (fun i wr=>∃k t:Nat,k<=n/\i=.int .i64 k/\wr=w.drewN t/\Hid (rH V W k=true)) (fun i _=>n-(intOf i).toNat)
     case atStart=>exact⟨0,0,Nat.zero_le _,rfl,rfl,ax rfl⟩
     case round=>
      exact atX
 · have hx:((n:Int) != (m:Int))=true:=by rw[bne_iff_ne];omega
   have hx2:(n != m)=true:=by rw[bne_iff_ne];exact hnm
   have hr:nk n m V W=false:=by unfold nk;rw[show(n==m)=false from by rw[beq_eq_false_iff_ne];exact hnm];rfl
   rw[hr];clear hr hp hq;go_enter func61,ntmps61;exact afl
def qU (op a b n:Int) (lv lw:Nat) (V W:Nat->Int) (tC a2 b2 n2:Int) (nV rU:Nat) (V2 W2:Nat->Int):Bool:=
 op==tC&&(a==a2&&(b==b2&&(n==n2&&(nk lv nV V V2&&nk lw rU W W2))))
theorem zK (op a b n:Int) (p:Option aj) (lv c:Nat) (q:Option aj) (lw f:Nat) (V W:Nat->Int) (tC a2 b2 n2:Int) (p2:Option aj) (nV c2:Nat) (q2:Option aj) (rU f2:Nat) (V2 W2:Nat->Int) (w:af) (hV:Row w p lv V) (hW:Row w q lw W) (hV2:Row w p2 nV V2) (hW2:Row w q2 rU W2) :
 ak ae 168 #[.agg #[.int .i64 op,.int .i64 a,.int .i64 b,.int .i64 n,.slice p lv c,.slice q lw f],.agg #[.int .i64 tC,.int .i64 a2,.int .i64 b2,.int .i64 n2,.slice p2 nV c2,.slice q2 rU f2]] w (Gives (.bool (qU op a b n lv lw V W tC a2 b2 n2 nV rU V2 W2)) w):=by
 cases h0:(op==tC)
 · go_enter func168,ntmps168;go_wp2_with fail;go_ret;exact⟨lJ (by simp only[qU,h0,Bool.false_and]),bq⟩
 cases h1:(a==a2)
 · go_enter func168,ntmps168;exact afq
 cases h2:(b==b2)
 · go_enter func168,ntmps168;exact V_
 cases h3:(n==n2)
 · go_enter func168,ntmps168;exact Pt
 have hs:qU op a b n lv lw V W tC a2 b2 n2 nV rU V2 W2=(nk lv nV V V2&&nk lw rU W W2):=by simp only[qU,h0,h1,h2,h3,Bool.true_and]
 rw[hs]
 cases h4:nk lv nV V V2
 · have H4:=ax h4;clear h4 hs;go_enter func168,ntmps168;go_wp2_with fail;refine(RQ p p2 lv nV c c2 V V2 _ hV.alloc.alloc hV2.alloc.alloc).mono ?_;rintro e w1 ⟨rfl,t1,rfl⟩;rw[H4.out];exact Wd
 · have H4:=ax h4;rw[Bool.true_and];clear h4 hs;go_enter func168,ntmps168;go_wp2_with fail;refine(RQ p p2 lv nV c c2 V V2 _ hV.alloc.alloc hV2.alloc.alloc).mono ?_;rintro e w1 ⟨rfl,t1,rfl⟩;rw[H4.out];go_wp2_with fail;refine(RQ q q2 lw rU f f2 W W2 _ (hW.alloc.alloc.drewN t1) (hW2.alloc.alloc.drewN t1)).mono ?_;rintro e w1 ⟨rfl,t2,rfl⟩;exact Wd
theorem Gv (op a b n:Int) (p:Option aj) (lv c:Nat) (q:Option aj) (lw f:Nat) (V W:Nat->Int) (tC a2 b2 n2:Int) (p2:Option aj) (nV c2:Nat) (q2:Option aj) (rU f2:Nat) (V2 W2:Nat->Int) (w:af) (hV:Row w p lv V) (hW:Row w q lw W) (hV2:Row w p2 nV V2) (hW2:Row w q2 rU W2) :
 ak ae 27 #[.agg #[.int .i64 op,.int .i64 a,.int .i64 b,.int .i64 n,.slice p lv c,.slice q lw f],.agg #[.int .i64 tC,.int .i64 a2,.int .i64 b2,.int .i64 n2,.slice p2 nV c2,.slice q2 rU f2]] w (Gives (.bool (qU op a b n lv lw V W tC a2 b2 n2 nV rU V2 W2)) w):=by
 cases h0:(op==tC)
 · go_enter func27,ntmps27;go_wp2_with fail;go_ret;exact⟨lJ (by simp only[qU,h0,Bool.false_and]),bq⟩
 cases h1:(a==a2)
 · go_enter func27,ntmps27;exact afq
 cases h2:(b==b2)
 · go_enter func27,ntmps27;exact V_
 cases h3:(n==n2)
 · go_enter func27,ntmps27;exact Pt
 have hs:qU op a b n lv lw V W tC a2 b2 n2 nV rU V2 W2=(nk lv nV V V2&&nk lw rU W W2):=by simp only[qU,h0,h1,h2,h3,Bool.true_and]
 rw[hs]
 cases h4:nk lv nV V V2
 · have H4:=ax h4;clear h4 hs;go_enter func27,ntmps27;go_wp2_with fail;refine(Ud p p2 lv nV c c2 V V2 _ hV.alloc.alloc hV2.alloc.alloc).mono ?_;rintro e w1 ⟨rfl,t1,rfl⟩;rw[H4.out];exact Wd
 · have H4:=ax h4;rw[Bool.true_and];clear h4 hs;go_enter func27,ntmps27;go_wp2_with fail;refine(Ud p p2 lv nV c c2 V V2 _ hV.alloc.alloc hV2.alloc.alloc).mono ?_;rintro e w1 ⟨rfl,t1,rfl⟩;rw[H4.out];go_wp2_with fail;refine(Ud q q2 lw rU f f2 W W2 _ (hW.alloc.alloc.drewN t1) (hW2.alloc.alloc.drewN t1)).mono ?_;rintro e w1 ⟨rfl,t2,rfl⟩;exact Wd
end Di
namespace Di
open Go.RowKit
def six (w:af) (b:Nat) (x0 x1 x2 x3 x4 x5:ai):Prop:=
 w.cell? ⟨b,0,X⟩=ag x0/\w.cell? ⟨b,1,X⟩=ag x1/\w.cell? ⟨b,2,X⟩=ag x2/\w.cell? ⟨b,3,X⟩=ag x3/\w.cell? ⟨b,4,X⟩=ag x4/\w.cell? ⟨b,5,X⟩=ag x5/\b<w.heap.size
def S6 (b:Nat) (x0 x1 x2 x3 x4 x5:ai) (w:af):Prop:=
 w.cell? ⟨b,0,X⟩=ag x0/\w.cell? ⟨b,1,X⟩=ag x1/\w.cell? ⟨b,2,X⟩=ag x2/\w.cell? ⟨b,3,X⟩=ag x3/\w.cell? ⟨b,4,X⟩=ag x4/\w.cell? ⟨b,5,X⟩=ag x5
section
variable {w w2:af} {b:Nat} {x0 x1 x2 x3 x4 x5:ai}
theorem six.call (h:six w b x0 x1 x2 x3 x4 x5) (hb:ah w.heap.size w w2):six w2 b x0 x1 x2 x3 x4 x5:=by
 obtain⟨h0,h1,h2,h3,h4,h5,h6⟩:=h;exact⟨(hb.cell (p:=⟨b,0,X⟩) h6).trans h0,(hb.cell (p:=⟨b,1,X⟩) h6).trans h1,(hb.cell (p:=⟨b,2,X⟩) h6).trans h2,(hb.cell (p:=⟨b,3,X⟩) h6).trans h3,
  (hb.cell (p:=⟨b,4,X⟩) h6).trans h4,(hb.cell (p:=⟨b,5,X⟩) h6).trans h5,az h6 hb.size⟩
theorem six.on (hb:ah w.heap.size w w2) (h:six w b x0 x1 x2 x3 x4 x5):six w2 b x0 x1 x2 x3 x4 x5:=h.call hb
theorem six.drew (h:six w b x0 x1 x2 x3 x4 x5):six w.drew b x0 x1 x2 x3 x4 x5:=h
theorem six.drewN (h:six w b x0 x1 x2 x3 x4 x5) (n:Nat):six (w.drewN n) b x0 x1 x2 x3 x4 x5:=h
theorem six.alloc {o:Obj} (h:six w b x0 x1 x2 x3 x4 x5):six (w.alloc o) b x0 x1 x2 x3 x4 x5:=h.call ((Below.refl _ _).alloc (au _) o)
theorem six.new {t:TypeId}:six (w.alloc (.cells #[x0,x1,x2,x3,x4,x5] t)) w.heap.size x0 x1 x2 x3 x4 x5:=by
 refine⟨?_,?_,?_,?_,?_,?_,?_⟩ <;> first|(go_simp;done)|(simp;done)|(simp;omega)
theorem six.keep (h:six w b x0 x1 x2 x3 x4 x5):w.cell? ⟨b,0,X⟩=ag x0/\w.cell? ⟨b,1,X⟩=ag x1/\w.cell? ⟨b,2,X⟩=ag x2/\w.cell? ⟨b,3,X⟩=ag x3/\w.cell? ⟨b,4,X⟩=ag x4/\w.cell? ⟨b,5,X⟩=ag x5:=
 ⟨h.1,h.2.1,h.2.2.1,h.2.2.2.1,h.2.2.2.2.1,h.2.2.2.2.2.1⟩
end
theorem ath {p:Prop} (h:p:=by simp[results,results169,go_sem, *]):p:=h
theorem ap4 (a b n:Int) (p:Option aj) (lv c:Nat) (q:Option aj) (lw f:Nat) (w:af):ak ae 169 #[.agg #[.int .i64 1,.int .i64 a,.int .i64 b,.int .i64 n,.slice p lv c,.slice q lw f]] w (Gives (.agg #[.int .i64 1,.int .i64 0,.int .i64 b,.int .i64 n,.slice p lv c,.slice q lw f]) w):=by
 go_enter func169,ntmps169;go_wp2_with fail;exact ay (v:=.agg #[.int .i64 1,.int .i64 0,.int .i64 b,.int .i64 n,.slice p lv c,.slice q lw f]) ath rfl ⟨rfl,bq⟩
theorem ap5 (a b n:Int) (p:Option aj) (lv c:Nat) (q:Option aj) (lw f:Nat) (w:af):ak ae 169 #[.agg #[.int .i64 2,.int .i64 a,.int .i64 b,.int .i64 n,.slice p lv c,.slice q lw f]] w (Gives (.agg #[.int .i64 2,.int .i64 0,.int .i64 0,.int .i64 n,.slice p lv c,.slice q lw f]) w):=by
 go_enter func169,ntmps169;go_wp2_with fail;exact ay (v:=.agg #[.int .i64 2,.int .i64 0,.int .i64 0,.int .i64 n,.slice p lv c,.slice q lw f]) ath rfl ⟨rfl,bq⟩
theorem ap6 (a b n:Int) (p:Option aj) (lv c:Nat) (q:Option aj) (lw f:Nat) (w:af):ak ae 169 #[.agg #[.int .i64 3,.int .i64 a,.int .i64 b,.int .i64 n,.slice p lv c,.slice q lw f]] w (Gives (.agg #[.int .i64 3,.int .i64 a,.int .i64 b,.int .i64 n,.slice X 0 0,.slice X 0 0]) w):=by
 go_enter func169,ntmps169;go_wp2_with fail;exact ay (v:=.agg #[.int .i64 3,.int .i64 a,.int .i64 b,.int .i64 n,.slice X 0 0,.slice X 0 0]) ath rfl ⟨rfl,bq⟩
theorem ap7 (a b n:Int) (p:Option aj) (lv c:Nat) (q:Option aj) (lw f:Nat) (w:af):ak ae 169 #[.agg #[.int .i64 4,.int .i64 a,.int .i64 b,.int .i64 n,.slice p lv c,.slice q lw f]] w (Gives (.agg #[.int .i64 4,.int .i64 0,.int .i64 0,.int .i64 0,.slice p lv c,.slice q lw f]) w):=by
 go_enter func169,ntmps169;go_wp2_with fail;exact ay (v:=.agg #[.int .i64 4,.int .i64 0,.int .i64 0,.int .i64 0,.slice p lv c,.slice q lw f]) ath rfl ⟨rfl,bq⟩
theorem ap8 (a b n:Int) (p:Option aj) (lv c:Nat) (q:Option aj) (lw f:Nat) (w:af):ak ae 169 #[.agg #[.int .i64 5,.int .i64 a,.int .i64 b,.int .i64 n,.slice p lv c,.slice q lw f]] w (Gives (.agg #[.int .i64 5,.int .i64 0,.int .i64 0,.int .i64 n,.slice p lv c,.slice q lw f]) w):=by
 go_enter func169,ntmps169;go_wp2_with fail;exact ay (v:=.agg #[.int .i64 5,.int .i64 0,.int .i64 0,.int .i64 n,.slice p lv c,.slice q lw f]) ath rfl ⟨rfl,bq⟩
def Tx (n m:Nat):Int:=if n=m then (if n=0 then 7 else if 20<n then 6 else 0) else 8
theorem atq {p:Prop} (h:p:=by
 go_enter func170,ntmps170;exact CQ
 ):p:=h
theorem JB (n m:Nat) (w:af):ak ae 170 #[.int .i64 n,.int .i64 m] w fun e w'=>e=.returned (.int .i64 (Tx n m))/\w=w':=by
 unfold Tx;by_cases h:n=m
 · subst h;rw[if_pos rfl];by_cases h0:n=0
   · subst h0;rw[if_pos rfl];exact atq
   · rw[if_neg h0];have h1:((n:Int)==0)=false:=by rw[beq_eq_false_iff_ne];omega
     by_cases h2:20<n
     · rw[if_pos h2];have h3:(20:Int)<(n:Int):=by omega
       clear h0;exact atq
     · rw[if_neg h2];have h3:(n:Int)<=20:=by omega
       clear h0;exact atq
 · rw[if_neg h];have h1:((n:Int) != (m:Int))=true:=by rw[bne_iff_ne];omega
   have h2:(n != m)=true:=by rw[bne_iff_ne];exact h
   exact atq
theorem as9 {p:Prop} (h:p:=by
 go_wp2_with fail
 (go_ret;exact⟨rfl,bq⟩)
 ):p:=h
theorem an5 (a:Int) (x2 x3 x4 x5:ai) (w:af):ak ae 171 #[.agg #[.int .i64 1,.int .i64 a,x2,x3,x4,x5]] w (Gives (.bool (iO 0 a 1000000000)) w):=by
 go_enter func171,ntmps171;go_wp2_with fail;refine(BA _ _ _ _).mono ?_;rintro e w1 ⟨rfl,rfl⟩;exact as9
theorem atp {p:Prop} (h:p:=by
 go_enter func171,ntmps171;go_wp2_with fail;refine(BA _ _ _ _).mono ?_;rintro e w1 ⟨rfl,rfl⟩;rw[H.out];exact as9
 ):p:=h
theorem an6 (a b:Int) (x3 x4 x5:ai) (w:af):ak ae 171 #[.agg #[.int .i64 2,.int .i64 a,.int .i64 b,x3,x4,x5]] w (Gives (.bool (iO 0 a b&&decide (b<=1000000000))) w):=by
 cases h:iO 0 a b
 · have H:=ax h;clear h;rw[Bool.false_and];exact atp
 · have H:=ax h;clear h;rw[Bool.true_and];exact atp
theorem an7 (x1 x2 x3:ai) (p:Option aj) (lv c:Nat) (q:Option aj) (lw f:Nat) (V W:Nat->Int) (w:af) (hV:Row w p lv V) (hW:Row w q lw W) :
 ak ae 171 #[.agg #[.int .i64 3,x1,x2,x3,.slice p lv c,.slice q lw f]] w (Gives (.bool (sP 0 1000000000 V lv&&sP 1 1000 W lw)) w):=by
 cases h:sP 0 1000000000 V lv
 · have H:=ax h;clear h;rw[Bool.false_and];go_enter func171,ntmps171;go_wp2_with fail;refine(Qr _ _ _ _ _ V _ hV.alloc).mono ?_;rintro e w1 ⟨rfl,rfl⟩;rw[H.out];exact as9
 · have H:=ax h;clear h;rw[Bool.true_and];go_enter func171,ntmps171;go_wp2_with fail;refine(Qr _ _ _ _ _ V _ hV.alloc).mono ?_;rintro e w1 ⟨rfl,rfl⟩;rw[H.out];go_wp2_with fail;refine(Qr _ _ _ _ _ W _ hW.alloc).mono ?_;rintro e w1 ⟨rfl,rfl⟩;exact as9
theorem at0 {p:Prop} (h:p:=by
 go_enter func171,ntmps171;go_wp2_with fail;refine(BA _ _ _ _).mono ?_;rintro e w1 ⟨rfl,rfl⟩;rw[H.out];go_wp2_with fail;refine(BA _ _ _ _).mono ?_;rintro e w1 ⟨rfl,rfl⟩;rw[H2.out];exact as9
 ):p:=h
theorem an8 (a b n:Int) (x4 x5:ai) (w:af):ak ae 171 #[.agg #[.int .i64 4,.int .i64 a,.int .i64 b,.int .i64 n,x4,x5]] w (Gives (.bool (iO 1 n 20&&iO 0 a b&&decide (b<=1000000))) w):=by
 cases h:iO 1 n 20
 · have H:=ax h;clear h;rw[Bool.false_and,Bool.false_and];exact atp
 · have H:=ax h;clear h;rw[Bool.true_and]
   cases h2:iO 0 a b
   · have H2:=ax h2;clear h2;rw[Bool.false_and];exact at0
   · have H2:=ax h2;clear h2;rw[Bool.true_and];exact at0
theorem an9 (a b:Int) (x3 x4 x5:ai) (w:af):ak ae 171 #[.agg #[.int .i64 5,.int .i64 a,.int .i64 b,x3,x4,x5]] w (Gives (.bool (iO 1 a 1000&&iO 1 b 1000)) w):=by
 cases h:iO 1 a 1000
 · have H:=ax h;clear h;rw[Bool.false_and];exact atp
 · have H:=ax h;clear h;rw[Bool.true_and];go_enter func171,ntmps171;go_wp2_with fail;refine(BA _ _ _ _).mono ?_;rintro e w1 ⟨rfl,rfl⟩;rw[H.out];go_wp2_with fail;refine(BA _ _ _ _).mono ?_;rintro e w1 ⟨rfl,rfl⟩;exact as9
theorem ahK (op:Int) (x1 x2 x3 x4 x5:ai) (h:op<1∨5<op) (w:af):ak ae 113 #[.agg #[.int .i64 op,x1,x2,x3,x4,x5]] w (Gives (.int .i64 1) w):=by
 rcases h with h|h
 · have k1:decide (op<1)=true:=decide_eq_true h;go_enter func113,ntmps113;go_wp2_with fail
   go_quiet (fail)
   exact as9
 · have k1:decide (op<1)=false:=decide_eq_false bU;have k2:decide (5<op)=true:=decide_eq_true h;go_enter func113,ntmps113;go_wp2_with fail
   go_quiet (fail)
   exact as9
end Di
namespace Di
open Go.RowKit
def MC (op:Int) (u:Bool) (E:Int) (r:Bool):Int:=if u=true then (if op=3 then (if E=0 then (if r=true then 0 else 2) else E) else (if r=true then 0 else 2)) else 1
theorem at1 {p:Prop} (h:p:=by
 go_enter func113,ntmps113;go_wp2_with fail;go_region_held3 (fun w'=>w'.cell? ⟨w.heap.size,0,X⟩=ag (.int .i64 3)/\w'.cell? ⟨w.heap.size,1,X⟩=ag (.int .i64 a)/\w'.cell? ⟨w.heap.size,2,X⟩=ag (.int .i64 b)/\w'.cell? ⟨w.heap.size,3,X⟩=ag (.int .i64 n)/\w'.cell? ⟨w.heap.size,4,X⟩=ag (.slice p lv c)/\w'.cell? ⟨w.heap.size,5,X⟩=ag (.slice q lw f)) (first|(with_reducible exact six.keep D2)|(with_reducible exact six.keep D1)|(with_reducible exact six.keep six.new.drew)|(with_reducible exact six.keep six.new)|(go_keep;done)) (first|(go_at_call 169;refine(U.out _).mono ?_;rintro e w1 ⟨rfl,hb1⟩;have D1:=six.on hb1 six.new.drew)|(go_at_call 168;refine(S.out _ bq).mono ?_;rintro e w2 ⟨rfl,hb2⟩;have D2:=six.on hb2 D1))
 all_goals
  obtain⟨d0,d1,d2,d3,d4,d5,d6⟩:=D2;have D2:six _ _ _ _ _ _ _ _:=⟨d0,d1,d2,d3,d4,d5,d6⟩
  go_wp2_with fail;refine(L.out _).mono ?_;rintro e w3 ⟨rfl,rfl⟩;go_wp2_with fail;refine(I.out _ bq).mono ?_;rintro e w4 ⟨rfl,hb4⟩;go_wp2_with fail;go_ret;exact⟨rfl,bq⟩
 ):p:=h
theorem at5 {p:Prop} (h:p:=by
 go_enter func113,ntmps113;go_wp2_with fail;go_region_held3 (fun w'=>w'.cell? ⟨w.heap.size,0,X⟩=ag (.int .i64 op)/\w'.cell? ⟨w.heap.size,1,X⟩=ag (.int .i64 a)/\w'.cell? ⟨w.heap.size,2,X⟩=ag (.int .i64 b)/\w'.cell? ⟨w.heap.size,3,X⟩=ag (.int .i64 n)/\w'.cell? ⟨w.heap.size,4,X⟩=ag (.slice p lv c)/\w'.cell? ⟨w.heap.size,5,X⟩=ag (.slice q lw f)) (first|(with_reducible exact six.keep D2)|(with_reducible exact six.keep D1)|(with_reducible exact six.keep six.new.drew)|(with_reducible exact six.keep six.new)|(go_keep;done)) (first|(go_at_call 169;refine(U.out _).mono ?_;rintro e w1 ⟨rfl,hb1⟩;have D1:=six.on hb1 six.new.drew)|(go_at_call 168;refine(S.out _ bq).mono ?_;rintro e w2 ⟨rfl,hb2⟩;have D2:=six.on hb2 D1))
 all_goals
  obtain⟨d0,d1,d2,d3,d4,d5,d6⟩:=D2;have D2:six _ _ _ _ _ _ _ _:=⟨d0,d1,d2,d3,d4,d5,d6⟩
  go_wp2_with fail;refine(I.out _ bq).mono ?_;rintro e w4 ⟨rfl,hb4⟩;go_wp2_with fail;go_ret;exact⟨rfl,bq⟩
 ):p:=h
theorem Iu (op a b n:Int) (p:Option aj) (lv c:Nat) (q:Option aj) (lw f:Nat) (k1:decide (op<1)=false) (k5:decide (5<op)=false) (x:ai) (u r:Bool) (E:Int) (w:af)
 (U:Hid (∀w2,ak ae 169 #[.agg #[.int .i64 op,.int .i64 a,.int .i64 b,.int .i64 n,.slice p lv c,.slice q lw f]] w2 (Gives x w2)))
 (S:Hid (∀w2,ah w.heap.size w w2->ak ae 168 #[x,.agg #[.int .i64 op,.int .i64 0,.int .i64 0,.int .i64 0,.slice X 0 0,.slice X 0 0]] w2 (Gives (.bool u) w2)))
 (I:Hid (∀w2,ah w.heap.size w w2->ak ae 171 #[.agg #[.int .i64 op,.int .i64 a,.int .i64 b,.int .i64 n,.slice p lv c,.slice q lw f]] w2 (Gives (.bool r) w2)))
 (L:Hid (∀w2,ak ae 170 #[.int .i64 lv,.int .i64 lw] w2 fun e w'=>e=.returned (.int .i64 E)/\w2=w')) :
 ak ae 113 #[.agg #[.int .i64 op,.int .i64 a,.int .i64 b,.int .i64 n,.slice p lv c,.slice q lw f]] w (Gives (.int .i64 (MC op u E r)) w):=by
 unfold MC;cases u
 · rw[if_neg bS];go_enter func113,ntmps113;go_wp2_with fail;go_region_held3 (fun w'=>w'.cell? ⟨w.heap.size,0,X⟩=ag (.int .i64 op)/\w'.cell? ⟨w.heap.size,1,X⟩=ag (.int .i64 a)/\w'.cell? ⟨w.heap.size,2,X⟩=ag (.int .i64 b)/\w'.cell? ⟨w.heap.size,3,X⟩=ag (.int .i64 n)/\w'.cell? ⟨w.heap.size,4,X⟩=ag (.slice p lv c)/\w'.cell? ⟨w.heap.size,5,X⟩=ag (.slice q lw f)) (first|(with_reducible exact six.keep D2)|(with_reducible exact six.keep D1)|(with_reducible exact six.keep six.new.drew)|(with_reducible exact six.keep six.new)|(go_keep;done)) (first|(go_at_call 169;refine(U.out _).mono ?_;rintro e w1 ⟨rfl,hb1⟩;have D1:=six.on hb1 six.new.drew)|(go_at_call 168;refine(S.out _ bq).mono ?_;rintro e w2 ⟨rfl,hb2⟩;have D2:=six.on hb2 D1))
   all_goals
    go_wp2_with fail;go_ret;exact⟨rfl,bq⟩
 · rw[if_pos rfl];by_cases h3:op=3
   · subst h3;rw[if_pos rfl];by_cases hE:E=0
     · subst hE;rw[if_pos rfl];cases r
       · rw[if_neg bS];exact at1
       · rw[if_pos rfl];exact at1
     · rw[if_neg hE];have hE2:(E != 0)=true:=by rw[bne_iff_ne];exact hE
       clear hE;go_enter func113,ntmps113;go_wp2_with fail;go_region_held3 (fun w'=>w'.cell? ⟨w.heap.size,0,X⟩=ag (.int .i64 3)/\w'.cell? ⟨w.heap.size,1,X⟩=ag (.int .i64 a)/\w'.cell? ⟨w.heap.size,2,X⟩=ag (.int .i64 b)/\w'.cell? ⟨w.heap.size,3,X⟩=ag (.int .i64 n)/\w'.cell? ⟨w.heap.size,4,X⟩=ag (.slice p lv c)/\w'.cell? ⟨w.heap.size,5,X⟩=ag (.slice q lw f)) (first|(with_reducible exact six.keep D2)|(with_reducible exact six.keep D1)|(with_reducible exact six.keep six.new.drew)|(with_reducible exact six.keep six.new)|(go_keep;done)) (first|(go_at_call 169;refine(U.out _).mono ?_;rintro e w1 ⟨rfl,hb1⟩;have D1:=six.on hb1 six.new.drew)|(go_at_call 168;refine(S.out _ bq).mono ?_;rintro e w2 ⟨rfl,hb2⟩;have D2:=six.on hb2 D1))
       all_goals
        obtain⟨d0,d1,d2,d3,d4,d5,d6⟩:=D2;have D2:six _ _ _ _ _ _ _ _:=⟨d0,d1,d2,d3,d4,d5,d6⟩
        go_wp2_with fail;refine(L.out _).mono ?_;rintro e w3 ⟨rfl,rfl⟩;go_wp2_with fail;go_ret;exact⟨rfl,bq⟩
   · rw[if_neg h3];have h4:(op==3)=false:=by rw[beq_eq_false_iff_ne];exact h3
     clear h3;cases r
     · rw[if_neg bS];exact at5
     · rw[if_pos rfl];exact at5
def Ot (op a b n:Int) (lv lw:Nat):Bool:=
 if op=1 then b==0&&(n==0&&(lv==0&&lw==0))
 else if op=2 then n==0&&(lv==0&&lw==0)
 else if op=3 then a==0&&(b==0&&n==0)
 else if op=4 then lv==0&&lw==0
 else if op=5 then n==0&&(lv==0&&lw==0)
 else false
def an_ (op a b n:Int) (lv lw:Nat) (V W:Nat->Int):Bool:=
 if op=1 then iO 0 a 1000000000
 else if op=2 then iO 0 a b&&decide (b<=1000000000)
 else if op=3 then sP 0 1000000000 V lv&&sP 1 1000 W lw
 else if op=4 then iO 1 n 20&&iO 0 a b&&decide (b<=1000000)
 else iO 1 a 1000&&iO 1 b 1000
def DD (op a b n:Int) (lv lw:Nat) (V W:Nat->Int):Int:=MC op (Ot op a b n lv lw) (Tx lv lw) (an_ op a b n lv lw V W)
theorem Zq (m:Nat) (V Z:Nat->Int):nk m 0 V Z=(m==0):=by
 unfold nk
 cases h:(m==0)
 · rfl
 · rw[beq_iff_eq.1 h];rfl
theorem tL (w:af) (V:Nat->Int):Row w X 0 V:=⟨Nat.zero_le _,.inl rfl⟩
theorem J7 (op a b n tC a2 b2 n2:Int) (lv lw:Nat) (V W Z:Nat->Int):qU op a b n lv lw V W tC a2 b2 n2 0 0 Z Z=(op==tC&&(a==a2&&(b==b2&&(n==n2&&(lv==0&&lw==0))))):=by
 unfold qU;rw[Zq,Zq]
def Z0 (_:Nat):Int:=0
theorem oC (op a b n:Int) (p:Option aj) (lv c:Nat) (q:Option aj) (lw f:Nat) (V W:Nat->Int) (w:af) (hV:Row w p lv V) (hW:Row w q lw W):ak ae 113 #[.agg #[.int .i64 op,.int .i64 a,.int .i64 b,.int .i64 n,.slice p lv c,.slice q lw f]] w (Gives (.int .i64 (DD op a b n lv lw V W)) w):=by
 by_cases ho:op<1∨5<op
 · have e:DD op a b n lv lw V W=1:=by
    have:Ot op a b n lv lw=false:=by unfold Ot;rw[if_neg bU,if_neg bU,if_neg bU,if_neg bU,if_neg bU]
    unfold DD MC;rw[this];rfl
   rw[e];exact ahK op _ _ _ _ _ ho w
 · have h:op=1∨op=2∨op=3∨op=4∨op=5:=by omega
   clear ho;rcases h with rfl|rfl|rfl|rfl|rfl
   · have S1:=fun(w2:af) (hb:ah w.heap.size w w2)=>zK 1 0 b n p lv c q lw f V W 1 0 0 0 X 0 0 X 0 0 Z0 Z0 w2 (hV.on hb) (hW.on hb) (tL _ _) (tL _ _);simp only[J7] at S1;exact Iu 1 a b n p lv c q lw f bS bS _ _ _ _ w (ax (ap4 a b n p lv c q lw f)) (ax S1) (ax fun w2 _=>an5 a _ _ _ _ w2) (ax (JB lv lw))
   · have S1:=fun(w2:af) (hb:ah w.heap.size w w2)=>zK 2 0 0 n p lv c q lw f V W 2 0 0 0 X 0 0 X 0 0 Z0 Z0 w2 (hV.on hb) (hW.on hb) (tL _ _) (tL _ _);simp only[J7] at S1;exact Iu 2 a b n p lv c q lw f bS bS _ _ _ _ w (ax (ap5 a b n p lv c q lw f)) (ax S1) (ax fun w2 _=>an6 a b _ _ _ w2) (ax (JB lv lw))
   · have S1:=fun(w2:af) (_:ah w.heap.size w w2)=>zK 3 a b n X 0 0 X 0 0 Z0 Z0 3 0 0 0 X 0 0 X 0 0 Z0 Z0 w2 (tL _ _) (tL _ _) (tL _ _) (tL _ _);have e:Ot 3 a b n lv lw=qU 3 a b n 0 0 Z0 Z0 3 0 0 0 0 0 Z0 Z0:=by
      rw[J7];show(a==0&&(b==0&&n==0))=_
      simp
     unfold DD;rw[e];exact Iu 3 a b n p lv c q lw f bS bS _ _ _ _ w (ax (ap6 a b n p lv c q lw f)) (ax S1) (ax fun w2 hb=>an7 _ _ _ p lv c q lw f V W w2 (hV.on hb) (hW.on hb)) (ax (JB lv lw))
   · have S1:=fun(w2:af) (hb:ah w.heap.size w w2)=>zK 4 0 0 0 p lv c q lw f V W 4 0 0 0 X 0 0 X 0 0 Z0 Z0 w2 (hV.on hb) (hW.on hb) (tL _ _) (tL _ _);simp only[J7] at S1;exact Iu 4 a b n p lv c q lw f bS bS _ _ _ _ w (ax (ap7 a b n p lv c q lw f)) (ax S1) (ax fun w2 _=>an8 a b n _ _ w2) (ax (JB lv lw))
   · have S1:=fun(w2:af) (hb:ah w.heap.size w w2)=>zK 5 0 0 n p lv c q lw f V W 5 0 0 0 X 0 0 X 0 0 Z0 Z0 w2 (hV.on hb) (hW.on hb) (tL _ _) (tL _ _);simp only[J7] at S1;exact Iu 5 a b n p lv c q lw f bS bS _ _ _ _ w (ax (ap8 a b n p lv c q lw f)) (ax S1) (ax fun w2 _=>an9 a b _ _ _ w2) (ax (JB lv lw))
end Di
namespace Ex
open Go.RowKit
def tb (l:Nm):ByteArray:=⟨l.toArray⟩
def Ig (w:af) (p:Option aj) (n:Nat) (l:List Nm):Prop:=
 l.length=n/\n<=9223372036854775807/\(n=0∨∃b o,p=ag ⟨b,o,X⟩/\b<w.heap.size/\Hid (∀i,(h:i<l.length)->w.cell? ⟨b,o+i,X⟩=ag (.string (tb l[i]))))
theorem Ig.on {w w2:af} {p:Option aj} {n:Nat} {l:List Nm} (hb:ah w.heap.size w w2) (h:Ig w p n l):Ig w2 p n l:=by
 exact Wy
theorem Ig.nil {w:af} {p:Option aj}:Ig w p 0 []:=⟨rfl,by omega,.inl rfl⟩
abbrev tbs (l:List Nm):List ai:=l.map fun x=>.string (tb x)
abbrev Fb (lo:Nat) (w:af) (v:ai) (l:List Nm):Prop:=w.ownsRow lo 9 1 v l.length (tbs l)
theorem Fb.below {lo:Nat} {w w2:af} {v:ai} {l:List Nm} (h:Fb lo w v l) (hb:ah w.heap.size w w2):Fb lo w2 v l:=
 World.ownsRow.kept h (row:=X) ⟨hb.os,hb.tape,hb.output,hb.size,fun k hk _=>hb.block k hk⟩ (by cases v.ownBlock <;> simp)
end Ex
end Go.Proofs.YthnillhnjhalmaaGreatDoor
