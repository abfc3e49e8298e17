/-
  Parts of this proof: Mathematics of names. Mathematics of expressions. Words for worlds and expressions in memory. The last step of a law's row; what an expression. Words for worlds and lists of texts in memory; h. The contracts of Find, of the library and of the. Closing tactics under a short name. The contracts of letter and digit, of the librar. The contracts of Const, of the reference's Const. The contracts of Depth.
-/
import Derived.Lib.Bytealg
import Derived.Laws.Strings3
import Derived.Test.YtbgodajefaahdaaGreatDoorRows
import Derived.WalkSpells
import Derived.WalkLawsBesides
import Derived.Lib.Hide
import Derived.LoopTactic
import Derived.RegionTactic
import Derived.Deep.QuietTactic
import Derived.BigQuiet
import Derived.Outline
import Derived.Deep.DeepCutAuto
import Derived.Deep.CutBlock
import Derived.Deep.RegionHeld3
import Derived.StillTailTactics
import Derived.Maps.AppendAt
import Derived.Laws.OwnMore
import Derived.OwnWalk
import Derived.ArgAppend
import Derived.Lib.SliceRun
import Derived.Lib.AppendZeros
import Derived.Lib.OthersKept
import Derived.ProofKit
import Derived.LaidMore
import Derived.LaidHandle
import Derived.MakeChecks
import Derived.OpenShut
import Derived.Stop.Joined
import Derived.Lib.SmallJoins
import Derived.Deep.Slices
import Derived.Deep.Fields
import Derived.ChangeSame
import Derived.SliceStrings
import Derived.SizedLaws
import Derived.Maps.OwnSet
import Derived.OrdersHeld
import Derived.RangeFuncRecord
set_option linter.unusedVariables false
open Go.Lib (hid)
namespace Go.Proofs.YtbgodajefaahdaaGreatDoor.Na
def kwl:List (List UInt8):=[
 [97,100,100],
 [97,102,116,101,114],
 [97,110,100],
 [97,116],
 [98,101,108,116],
 [98,111,111,108],
 [99,111,110,115,101,114,118,101],
 [99,111,110,115,116],
 [99,111,117,110,116],
 [99,121,99,108,101],
 [100,111,119,110],
 [100,114,97,119],
 [100,117,114],
 [101,108,115,101],
 [101,110,100],
 [101,118,101,114,121],
 [102,97,108,115,101],
 [102,97,117,108,116],
 [102,105,102,111],
 [102,114,101,101],
 [102,114,111,109],
 [103,101,111,109],
 [103,101,116],
 [104,111,108,100],
 [105,102],
 [105,110,116],
 [105,110,116,111],
 [108,101,97,115,116],
 [108,101,118,101,108],
 [108,105,102,111],
 [108,105,110,107],
 [108,111,99,97,108],
 [109,97,120],
 [109,105,110],
 [109,111,100,101,108],
 [110,111,116],
 [110,111,119],
 [111,98,115,101,114,118,101],
 [111,114],
 [112,97,114,97,109],
 [112,114,101,101,109,112,116],
 [112,114,105,111],
 [112,117,116],
 [113,117,101,117,101],
 [114,101,108,101,97,115,101],
 [114,101,115,111,117,114,99,101],
 [114,105,100,101],
 [114,111,117,116,105,110,101],
 [115,101,105,122,101],
 [115,101,110,100],
 [115,101,116],
 [115,104,105,102,116],
 [115,105,103,110,97,108],
 [115,105,116,101],
 [115,105,122,101],
 [115,112,97,119,110],
 [115,116,97,114,116],
 [115,116,111,112],
 [115,116,111,114,101],
 [115,116,114,101,97,109],
 [115,117,109],
 [116,97,98,108,101],
 [116,97,108,108,121],
 [116,105,99,107,115],
 [116,105,109,101],
 [116,114,117,101],
 [117,110,105,102,111,114,109],
 [117,110,116,105,108],
 [117,112],
 [118,97,114],
 [119,97,105,116],
 [119,97,105,116,105,110,103],
 [119,104,105,108,101]]
def isKw (l:List UInt8):Bool:=kwl.contains l
def ltrI (x:Int):Bool:=decide (97<=x)&&decide (x<=122)
def digI (x:Int):Bool:=decide (48<=x)&&decide (x<=57)
def goodI (x:Int):Bool:=ltrI x||digI x||decide (x=95)
def ltrC (c:UInt8):Bool:=ltrI (c.toNat:Int)
def goodC (c:UInt8):Bool:=goodI (c.toNat:Int)
def nameB (l:List UInt8):Bool:=decide (1<=l.length)&&decide (l.length<=24)&&ltrC (l.headD 0) && !isKw l&&l.all goodC
def chk (l:List UInt8):Int:=if nameB l=true then 0 else 3
theorem chk_yes {l:List UInt8} (h:nameB l=true):chk l=0:=if_pos h
theorem chk_no {l:List UInt8} (h:nameB l=false):chk l=3:=if_neg (by simp[h])
theorem good_let {x:Int} (h:ltrI x=true):goodI x=true:=by unfold goodI;rw[h];rfl
theorem good_dig {x:Int} (h:digI x=true):goodI x=true:=by unfold goodI;rw[h];simp
theorem good_low {x:Int} (h:x=95):goodI x=true:=by unfold goodI;simp[h]
theorem good_not {x:Int} (h1:ltrI x=false) (h2:digI x=false) (h3:¬x=95):goodI x=false:=by unfold goodI;simp[h1,h2,h3]
theorem name_iff {l:List UInt8}:nameB l=true↔1<=l.length/\l.length<=24/\ltrC (l.headD 0)=true/\isKw l=false/\l.all goodC=true:=by
 unfold nameB;simp only[Bool.and_eq_true,decide_eq_true_eq,Bool.not_eq_true'];constructor
 · rintro⟨⟨⟨⟨a,b⟩,c⟩,d⟩,e⟩;exact⟨a,b,c,d,e⟩
 · rintro⟨a,b,c,d,e⟩;exact⟨⟨⟨⟨a,b⟩,c⟩,d⟩,e⟩
theorem name_false {l:List UInt8} (h:¬(1<=l.length/\l.length<=24/\ltrC (l.headD 0)=true/\isKw l=false/\l.all goodC=true)):nameB l=false:=by
 rw[← Bool.not_eq_true,name_iff];exact h
theorem head_at {l:List UInt8} (h:0<l.length):l.headD 0=l[0]:=by
 cases l with
 | nil=>simp at h
 | cons c t=>rfl
theorem bad_short {l:List UInt8} (h:l.length<1):chk l=3:=chk_no (name_false fun g=>by omega)
theorem bad_long {l:List UInt8} (h:24<l.length):chk l=3:=chk_no (name_false fun g=>by omega)
theorem bad_head {l:List UInt8} (h0:0<l.length) (h:ltrC l[0]=false):chk l=3:=chk_no (name_false fun g=>by
 have:=g.2.2.1;rw[head_at h0,h] at this;cases this)
theorem bad_kw {l:List UInt8} (h:isKw l=true):chk l=3:=chk_no (name_false fun g=>by
 have:=g.2.2.2.1;rw[h] at this;cases this)
theorem bad_at {l:List UInt8} {k:Nat} (hk:k<l.length) (h:goodC l[k]=false):chk l=3:=chk_no (name_false fun g=>by
 have:=List.all_eq_true.1 g.2.2.2.2 _ (List.getElem_mem hk);rw[h] at this;cases this)
theorem all_good {l:List UInt8} (h1:1<=l.length) (h2:l.length<=24) (h3:ltrC l[0]=true) (h4:isKw l=false) (h5:∀j,(hj:j<l.length)->goodC l[j]=true):chk l=0:=
 chk_yes (name_iff.2 ⟨h1,h2,by rw[head_at h1];exact h3,h4,List.all_eq_true.2 fun c hc=>by
  obtain⟨j,hj,rfl⟩:=List.getElem_of_mem hc;exact h5 j hj⟩)
abbrev bs (s:ByteArray):List UInt8:=s.data.toList
theorem bs_len (s:ByteArray):(bs s).length=s.size:=by simp[bs]
theorem bs_inj {a b:ByteArray} (h:bs a=bs b):a=b:=by
 cases a;cases b
 simp only[bs,ByteArray.mk.injEq] at *
 exact Array.toList_inj.1 h
def fst:List ByteArray->ByteArray->Int
 | [],_=>-1
 | x::t,s=>if bs x=bs s then 0 else if fst t s = -1 then -1 else fst t s+1
theorem fst_ge (s:ByteArray):∀l:List ByteArray,-1<=fst l s
 | []=>Int.le_refl _
 | x::t=>by
  have:=fst_ge s t;unfold fst
  split
  · omega
  · split <;> omega
theorem fst_hit {s:ByteArray}:∀{l:List ByteArray} {k:Nat} (hk:k<l.length),(∀j,(hj:j<k)->¬bs (l[j]'(by omega))=bs s)->bs l[k]=bs s->fst l s=(k:Int)
 | [],k,hk,_,_=>absurd hk (Nat.not_lt_zero _)
 | x::t,0,hk,_,e=>by
  unfold fst;exact if_pos e
 | x::t,k+1,hk,h,e=>by
  have h0:¬bs x=bs s:=h 0 (Nat.succ_pos _);have hk':k<t.length:=by simp at hk;omega
  have ih:=fst_hit (s:=s) (l:=t) (k:=k) hk' (fun j hj=>h (j+1) (by omega)) e;unfold fst;rw[if_neg h0,ih,if_neg (by omega)];omega
theorem fst_miss {s:ByteArray}:∀{l:List ByteArray},(∀j,(hj:j<l.length)->¬bs l[j]=bs s)->fst l s = -1
 | [],_=>rfl
 | x::t,h=>by
  have h0:¬bs x=bs s:=h 0 (by simp);have ih:=fst_miss (s:=s) (l:=t) (fun j hj=>h (j+1) (by simp;omega));unfold fst;rw[if_neg h0,ih,if_pos rfl]
theorem fst_lt (s:ByteArray):∀l:List ByteArray,fst l s<l.length
 | []=>by show(-1:Int)<0;decide
 | x::t=>by
  have:=fst_lt s t;unfold fst;rw[List.length_cons]
  split
  · omega
  · split <;> omega
def okB (l:List ByteArray) (k:Nat):Bool:=match l[k]? with
 | some x=>nameB (bs x)&&decide (fst l x=(k:Int))
 | none=>true
def dst (l:List ByteArray):Int:=match (List.range l.length).find? (fun k=>!okB l k) with
 | none=>0
 | some k=>if nameB (bs (l.getD k ⟨#[]⟩))=true then 4 else 3
end Go.Proofs.YtbgodajefaahdaaGreatDoor.Na
namespace Go.Proofs.YtbgodajefaahdaaGreatDoor.Ex
open Go.Proofs.YtbgodajefaahdaaGreatDoor.Na (bs bs_inj chk)
inductive Ex where
 | mk (o:Int) (s:ByteArray) (n:Int) (l:List Ex)
def Ex.o:Ex->Int
 | .mk o _ _ _=>o
def Ex.s:Ex->ByteArray
 | .mk _ s _ _=>s
def Ex.n:Ex->Int
 | .mk _ _ n _=>n
def Ex.l:Ex->List Ex
 | .mk _ _ _ l=>l
mutual
def cnt:Ex->Nat
 | .mk _ _ _ l=>cntL l+1
def cntL:List Ex->Nat
 | []=>0
 | x::t=>cnt x+cntL t
end
mutual
def dep:Ex->Nat
 | .mk _ _ _ l=>depL l+1
def depL:List Ex->Nat
 | []=>0
 | x::t=>max (dep x) (depL t)
end
mutual
def pre:Ex->List Ex
 | .mk o s n l=>.mk o s n l::preL l
def preL:List Ex->List Ex
 | []=>[]
 | x::t=>pre x++preL t
end
theorem cnt_pos:∀e:Ex,1<=cnt e
 | .mk _ _ _ l=>by unfold cnt;omega
theorem cntL_app:∀a b:List Ex,cntL (a++b)=cntL a+cntL b
 | [],b=>by simp[cntL]
 | x::t,b=>by simp only[List.cons_append,cntL,cntL_app t b];omega
theorem depL_app:∀a b:List Ex,depL (a++b)=max (depL a) (depL b)
 | [],b=>by simp[depL]
 | x::t,b=>by simp only[List.cons_append,depL,depL_app t b];omega
theorem preL_app:∀a b:List Ex,preL (a++b)=preL a++preL b
 | [],b=>rfl
 | x::t,b=>by simp only[List.cons_append,preL,preL_app t b,List.append_assoc]
theorem take_snoc {α:Type} {l:List α} {k:Nat} (h:k<l.length):l.take (k+1)=l.take k++[l[k]]:=by rw[List.take_add_one,List.getElem?_eq_getElem h];rfl
theorem take_one {α:Type} {l:List α} {k:Nat} {x:α} (h:l[k]?=some x):l.take (k+1)=l.take k++[x]:=by rw[List.take_add_one,h];rfl
theorem cntL_take {l:List Ex} {k:Nat} {x:Ex} (h:l[k]?=some x):cntL (l.take (k+1))=cntL (l.take k)+cnt x:=by rw[take_one h,cntL_app];simp[cntL]
theorem depL_take {l:List Ex} {k:Nat} {x:Ex} (h:l[k]?=some x):depL (l.take (k+1))=max (depL (l.take k)) (dep x):=by rw[take_one h,depL_app];simp[depL]
theorem preL_take {l:List Ex} {k:Nat} {x:Ex} (h:l[k]?=some x):preL (l.take (k+1))=preL (l.take k)++pre x:=by rw[take_one h,preL_app];simp[preL]
theorem cntL_le (l:List Ex) (k:Nat):cntL (l.take k)<=cntL l:=by
 have:=cntL_app (l.take k) (l.drop k);rw[List.take_append_drop] at this;omega
theorem depL_le (l:List Ex) (k:Nat):depL (l.take k)<=depL l:=by
 have:=depL_app (l.take k) (l.drop k);rw[List.take_append_drop] at this;omega
theorem cnt_mem:∀{l:List Ex} {x:Ex},x∈l->cnt x<=cntL l
 | [],x,h=>by cases h
 | y::t,x,h=>by
  unfold cntL;rcases List.mem_cons.1 h with rfl|h
  · omega
  · have:=cnt_mem h;omega
theorem dep_mem:∀{l:List Ex} {x:Ex},x∈l->dep x<=depL l
 | [],x,h=>by cases h
 | y::t,x,h=>by
  unfold depL;rcases List.mem_cons.1 h with rfl|h
  · omega
  · have:=dep_mem h;omega
theorem Ex.ind {P:Ex->Prop} (h:∀o s n l,(∀x∈l,P x)->P (.mk o s n l)) (e:Ex):P e:=by
 have:∀k e,cnt e<=k->P e:=by
  intro k
  induction k with
  | zero=>intro e he;have:=cnt_pos e;omega
  | succ k ih=>
   intro e he;obtain⟨o,s,n,l⟩:=e;refine h o s n l fun x hx=>ih x ?_;have:=cnt_mem hx;unfold cnt at he;omega
 exact this _ e (Nat.le_refl _)
mutual
theorem pre_len:∀e:Ex,(pre e).length=cnt e
 | .mk o s n l=>by unfold pre cnt;simp[preL_len l]
theorem preL_len:∀l:List Ex,(preL l).length=cntL l
 | []=>rfl
 | x::t=>by unfold preL cntL;rw[List.length_append,pre_len x,preL_len t]
end
theorem preL_mem:∀{l:List Ex} {x y:Ex},x∈l->y∈pre x->y∈preL l
 | [],x,y,h,_=>by cases h
 | z::t,x,y,h,g=>by
  unfold preL;rcases List.mem_cons.1 h with rfl|h
  · exact List.mem_append_left _ g
  · exact List.mem_append_right _ (preL_mem h g)
theorem dep_le_cnt (e:Ex):dep e<=cnt e:=by
 have key:∀l:List Ex,(∀x∈l,dep x<=cnt x)->depL l<=cntL l:=by
  intro l
  induction l with
  | nil=>intro _;simp[depL,cntL]
  | cons x t ih=>
   intro h;have h1:=h x List.mem_cons_self;have h2:=ih fun z hz=>h z (List.mem_cons_of_mem _ hz);unfold depL cntL;omega
 induction e using Ex.ind with
 | h o s n l ih=>
  have:=key l ih;unfold dep cnt;omega
theorem pre_self:∀e:Ex,e∈pre e
 | .mk o s n l=>by unfold pre;exact List.mem_cons_self
theorem pre_kid {o:Int} {s:ByteArray} {n:Int} {l:List Ex} {x y:Ex} (hx:x∈l) (hy:y∈pre x):y∈pre (.mk o s n l):=by
 unfold pre;exact List.mem_cons_of_mem _ (preL_mem hx hy)
def ari (o:Int):Int:=if o<1∨26<o then -1 else if 5<=o/\o<=8 then 1 else if 9<=o/\o<=21 then 2 else 0
def obj (o:Int):Bool:=decide (22<=o)&&decide (o<=24)
def most (o:Int):Int:=if o=25 then 15 else if o=26 then 31 else 63
def known (c:Bool) (o:Int):Bool:=decide (0<=ari o)&&(c && !decide (o=3) || !c&&decide (o<=24))
def named (c:Bool) (o:Int):Bool:=!c&&(decide (o=3)||obj o)
def counted (c:Bool) (o:Int):Bool:=c&&(obj o||decide (o=25)||decide (o=26))
def numbered (c:Bool) (o:Int):Bool:=decide (o=1)||decide (o=2)||counted c o
def inI (n:Int):Bool:=decide (-1000000000000<=n)&&decide (n<=1000000000000)
def badF (c:Bool) (o:Int) (s:List UInt8) (n:Int) (m:Nat):Bool:=!known c o || !named c o && !decide (s=[]) || !numbered c o && !decide (n=0) || !decide ((m:Int)=ari o)
def badR (c:Bool) (o n:Int):Bool:=decide (o=1) && !inI n||decide (o=2) && !decide (n=0) && !decide (n=1)||counted c o&&(decide (n<0)||decide (most o<n))
def nd (c:Bool) (o:Int) (s:List UInt8) (n:Int) (m:Nat):Int:=if badF c o s n m then 1 else if badR c o n then 2 else if named c o then chk s else 0
def ndE (c:Bool) (e:Ex):Int:=nd c e.o (bs e.s) e.n e.l.length
def bad (c:Bool):List Ex->Int
 | []=>0
 | x::t=>if ndE c x=0 then bad c t else ndE c x
theorem bad_yes {c:Bool} {x:Ex} {t:List Ex} (h:ndE c x=0):bad c (x::t)=bad c t:=if_pos h
theorem bad_no {c:Bool} {x:Ex} {t:List Ex} (h:¬ndE c x=0):bad c (x::t)=ndE c x:=if_neg h
theorem bad_app_yes {c:Bool}:∀{a b:List Ex},bad c a=0->bad c (a++b)=bad c b
 | [],b,_=>rfl
 | x::t,b,h=>by
  by_cases g:ndE c x=0
  · rw[bad_yes g] at h;rw[List.cons_append,bad_yes g,bad_app_yes h]
  · rw[bad_no g] at h;exact absurd h g
theorem bad_app_no {c:Bool}:∀{a b:List Ex},¬bad c a=0->bad c (a++b)=bad c a
 | [],b,h=>absurd rfl h
 | x::t,b,h=>by
  by_cases g:ndE c x=0
  · rw[bad_yes g] at h;rw[List.cons_append,bad_yes g,bad_yes g,bad_app_no h]
  · rw[List.cons_append,bad_no g,bad_no g]
def chkE (c:Bool) (e:Ex):Int:=if 60<cnt e then 6 else if 12<dep e then 11 else bad c (pre e)
mutual
def same:Ex->Ex->Bool
 | .mk o s n l,.mk o2 s2 n2 l2=>decide (o=o2)&&decide (bs s=bs s2)&&decide (n=n2)&&sameL l l2
def sameL:List Ex->List Ex->Bool
 | [],[]=>true
 | x::t,y::u=>same x y&&sameL t u
 | [],_::_=>false
 | _::_,[]=>false
end
mutual
theorem same_eq:∀{a b:Ex},same a b=true->a=b
 | .mk o s n l,.mk o2 s2 n2 l2,h=>by
  unfold same at h;simp only[Bool.and_eq_true,decide_eq_true_eq] at h;obtain⟨⟨⟨rfl,h1⟩,rfl⟩,h2⟩:=h;rw[bs_inj h1,sameL_eq h2]
theorem sameL_eq:∀{a b:List Ex},sameL a b=true->a=b
 | [],[],_=>rfl
 | x::t,y::u,h=>by
  unfold sameL at h;rw[Bool.and_eq_true] at h;rw[same_eq h.1,sameL_eq h.2]
 | [],_::_,h=>by unfold sameL at h;cases h
 | _::_,[],h=>by unfold sameL at h;cases h
end
mutual
theorem same_self:∀a:Ex,same a a=true
 | .mk o s n l=>by unfold same;simp[sameL_self l]
theorem sameL_self:∀a:List Ex,sameL a a=true
 | []=>by unfold sameL;rfl
 | x::t=>by unfold sameL;rw[same_self x,sameL_self t];rfl
end
theorem same_of {a b:Ex} (h:a=b):same a b=true:=by rw[h];exact same_self b
theorem same_iff {a b:Ex}:same a b=true↔a=b:=⟨same_eq,same_of⟩
theorem sameL_len:∀{a b:List Ex},sameL a b=true->a.length=b.length:=fun h=>by rw[sameL_eq h]
end Go.Proofs.YtbgodajefaahdaaGreatDoor.Ex
namespace Go.Proofs.YtbgodajefaahdaaGreatDoor.Ex
open Go.RowKit
open Go.Proofs.YtbgodajefaahdaaGreatDoor.Na (bs bs_inj)
set_option maxHeartbeats 1000000
theorem ret_int {k:IntKind} {a b:Int} (h:a=b):Ending.returned (.int k a)=.returned (.int k b):=by rw[h]
def Gives (v:Value) (w:World) (e:Ending) (w':World):Prop:=e=.returned v/\Below w.heap.size w w'
theorem below_drewN {B:Nat} {a w:World} (h:Below B a w) (n:Nat):Below B a (w.drewN n):=⟨h.os,h.tape,h.output,h.size,h.block⟩
section
variable {a w w2:World}
theorem bl_alloc {o:Obj} (h:Below a.heap.size a w):Below a.heap.size a (w.alloc o):=h.alloc h.size o
theorem bl_drewN {n:Nat} (h:Below a.heap.size a w):Below a.heap.size a (w.drewN n):=below_drewN h n
theorem bl_drew (h:Below a.heap.size a w):Below a.heap.size a w.drew:=h.drew
theorem bl_set {p:Addr} (h:Below a.heap.size a w) (hp:a.heap.size<=p.block) (u:Value):Below a.heap.size a (w.setCell p u):=h.setCell hp u
theorem bl_call (h:Below a.heap.size a w) (hb:Below w.heap.size w w2):Below a.heap.size a w2:=h.trans (hb.mono h.size)
end
theorem clash {x:Bool} (h:x=true) (g:x=false):False:=by rw[h] at g;cases g
theorem eq_yes {a b:ByteArray} (h:bs a=bs b):(a.toList==b.toList)=true:=by rw[bs_inj h];simp
theorem eq_no {a b:ByteArray} (h:¬bs a=bs b):(a.toList==b.toList)=false:=by
 rw[beq_eq_false_iff_ne,Lib.toList_data,Lib.toList_data];exact h
theorem add_off (b o j:Nat):(⟨b,o,none⟩:Addr).add j=⟨b,o+j,none⟩:=by unfold Addr.add;split <;> simp_all
theorem block_lt {w:World} {b k:Nat} {v:Value} (h:w.cell? ⟨b,k,none⟩=some v):b<w.heap.size:=by
 rcases Nat.lt_or_ge b w.heap.size with g|g
 · exact g
 · unfold World.cell? at h;rw[Array.getElem?_eq_none g] at h;cases h
def c4 (x:Ex) (p:Option Addr) (m c:Nat) (r:Nat):Value:=match r with
 | 0=>.int .i64 x.o
 | 1=>.string x.s
 | 2=>.int .i64 x.n
 | _=>.slice p m c
def cell4 (w:World) (g o:Nat) (x:Ex) (p:Option Addr) (m c:Nat):Prop:=w.cell? ⟨g,o,none⟩=some (.int .i64 x.o)/\w.cell? ⟨g,o+1,none⟩=some (.string x.s)/\w.cell? ⟨g,o+2,none⟩=some (.int .i64 x.n)/\w.cell? ⟨g,o+3,none⟩=some (.slice p m c)
theorem cell4.keep {w w2:World} {g o:Nat} {x:Ex} {p:Option Addr} {m c:Nat} (hb:w2.heap[g]?=w.heap[g]?) (h:cell4 w g o x p m c):cell4 w2 g o x p m c:=by
 obtain⟨h0,h1,h2,h3⟩:=h;exact⟨(World.cell?_of_block (w:=w) (a:=⟨g,o,none⟩) hb).trans h0,(World.cell?_of_block (w:=w) (a:=⟨g,o+1,none⟩) hb).trans h1,(World.cell?_of_block (w:=w) (a:=⟨g,o+2,none⟩) hb).trans h2,(World.cell?_of_block (w:=w) (a:=⟨g,o+3,none⟩) hb).trans h3⟩
theorem cell4.on {w w2:World} {g o:Nat} {x:Ex} {p:Option Addr} {m c:Nat} (hb:Below w.heap.size w w2) (hg:g<w.heap.size) (h:cell4 w g o x p m c):cell4 w2 g o x p m c:=h.keep (hb.block g hg)
theorem cell4_of {w:World} {g o:Nat} {x:Ex} {p:Option Addr} {m c:Nat} (h:∀r,r<4->w.cell? ⟨g,o+r,none⟩=some (c4 x p m c r)):cell4 w g o x p m c:=
 ⟨h 0 (by omega),h 1 (by omega),h 2 (by omega),h 3 (by omega)⟩
mutual
def Kin (G:Nat->Prop) (w:World):Ex->Option Addr->Nat->Prop
 | .mk _ _ _ l,p,m=>l.length=m/\m<=9223372036854775807/\(m=0∨∃b o,p=some ⟨b,o,none⟩/\G b/\b<w.heap.size/\Rows G w l b o)
def Rows (G:Nat->Prop) (w:World):List Ex->Nat->Nat->Prop
 | [],_,_=>True
 | x::t,b,o=>(∃p m c,cell4 w b o x p m c/\Kin G w x p m)/\Rows G w t b (o+4)
end
theorem rows_iff {G:Nat->Prop} {w:World}:∀{l:List Ex} {b o:Nat},Rows G w l b o ↔ ∀k,(h:k<l.length)->∃p m c,cell4 w b (o+k*4) l[k] p m c/\Kin G w l[k] p m
 | [],b,o=>⟨fun _ k h=>absurd h (Nat.not_lt_zero _),fun _=>trivial⟩
 | x::t,b,o=>by
  unfold Rows;constructor
  · rintro⟨h1,h2⟩ k hk
    match k,hk with
    | 0,_=>exact h1
    | k+1,hk=>
     have:=rows_iff.1 h2 k (by simpa using hk);rw[show o+4+k*4=o+(k+1)*4 by omega] at this;exact this
  · intro h;refine⟨h 0 (by simp),rows_iff.2 fun k hk=>?_⟩;have:=h (k+1) (by simpa using hk);rw[show o+(k+1)*4=o+4+k*4 by omega] at this;exact this
theorem kin_def {G:Nat->Prop} {w:World} {o':Int} {s:ByteArray} {n:Int} {l:List Ex} {p:Option Addr} {m:Nat}:Kin G w (.mk o' s n l) p m↔l.length=m/\m<=9223372036854775807/\(m=0∨∃b o,p=some ⟨b,o,none⟩/\G b/\b<w.heap.size/\Rows G w l b o):=by rw[Kin]
theorem kin_iff {G:Nat->Prop} {w:World} {o':Int} {s:ByteArray} {n:Int} {l:List Ex} {p:Option Addr} {m:Nat}:Kin G w (.mk o' s n l) p m↔l.length=m/\m<=9223372036854775807/\(m=0∨∃b o,p=some ⟨b,o,none⟩/\G b/\b<w.heap.size/\Hid (∀k,(h:k<l.length)->∃p m c,cell4 w b (o+k*4) l[k] p m c/\Kin G w l[k] p m)):=by
 rw[kin_def];refine and_congr_right fun _=>and_congr_right fun _=>or_congr_right ?_;constructor
 · rintro⟨b,o,h1,h2,h3,h4⟩;exact⟨b,o,h1,h2,h3,hid (rows_iff.1 h4)⟩
 · rintro⟨b,o,h1,h2,h3,h4⟩;exact⟨b,o,h1,h2,h3,rows_iff.2 h4.out⟩
theorem Kin.map {G H:Nat->Prop} {w w2:World} (hs:w.heap.size<=w2.heap.size) (hk:∀b,G b->b<w.heap.size->H b/\w2.heap[b]?=w.heap[b]?) (e:Ex):∀{p m},Kin G w e p m->Kin H w2 e p m:=by
 induction e using Ex.ind with
 | h o s n l ih=>
  intro p m h;rw[kin_iff] at h ⊢;obtain⟨h1,h2,h3|⟨b,o,rfl,hg,hb,h4⟩⟩:=h
  · exact⟨h1,h2,.inl h3⟩
  · obtain⟨g1,g2⟩:=hk b hg hb;refine⟨h1,h2,.inr ⟨b,o,rfl,g1,by omega,hid fun k hk=>?_⟩⟩;obtain⟨q,j,c,h5,h6⟩:=h4.out k hk;exact⟨q,j,c,h5.keep g2,ih _ (List.getElem_mem hk) h6⟩
theorem Kin.mono {G H:Nat->Prop} {w:World} {e:Ex} {p:Option Addr} {m:Nat} (hk:∀b,G b->b<w.heap.size->H b) (h:Kin G w e p m):Kin H w e p m:=Kin.map (Nat.le_refl _) (fun b g hb=>⟨hk b g hb,rfl⟩) e h
abbrev Lo (B:Nat):Nat->Prop:=fun b=>b<B
abbrev In (w:World) (e:Ex) (p:Option Addr) (m:Nat):Prop:=Kin (Lo w.heap.size) w e p m
theorem Kin.below {B:Nat} {w w2:World} {e:Ex} {p:Option Addr} {m:Nat} (hb:Below B w w2) (h:Kin (Lo B) w e p m):Kin (Lo B) w2 e p m:=Kin.map hb.size (fun b g _=>⟨g,hb.block b g⟩) e h
theorem Kin.all {G:Nat->Prop} {w:World} {e:Ex} {p:Option Addr} {m:Nat} (h:Kin G w e p m):In w e p m:=h.mono fun b _ hb=>hb
theorem Kin.on {w w2:World} {e:Ex} {p:Option Addr} {m:Nat} (hb:Below w.heap.size w w2) (h:In w e p m):In w2 e p m:=(Kin.below hb h).all
theorem Kin.alloc {w:World} {e:Ex} {p:Option Addr} {m:Nat} (o:Obj) (h:In w e p m):In (w.alloc o) e p m:=h.on ((Below.refl _ _).alloc (Nat.le_refl _) o)
theorem Kin.len {G:Nat->Prop} {w:World} {o:Int} {s:ByteArray} {n:Int} {l:List Ex} {p:Option Addr} {m:Nat} (h:Kin G w (.mk o s n l) p m):l.length=m/\m<=9223372036854775807:=⟨(kin_iff.1 h).1,(kin_iff.1 h).2.1⟩
theorem Kin.zero {G:Nat->Prop} {w:World} {o:Int} {s:ByteArray} {n:Int} {p:Option Addr}:Kin G w (.mk o s n []) p 0:=kin_iff.2 ⟨rfl,by omega,.inl rfl⟩
theorem Kin.kids {G:Nat->Prop} {w:World} {o:Int} {s:ByteArray} {n:Int} {l:List Ex} {p:Option Addr} {m:Nat} (h:Kin G w (.mk o s n l) p m) (hm:0<m):∃b o,p=some ⟨b,o,none⟩/\G b/\b<w.heap.size/\Hid (∀k,(h:k<l.length)->∃p m c,cell4 w b (o+k*4) l[k] p m c/\Kin G w l[k] p m):=by
 rcases (kin_iff.1 h).2.2 with h|h
 · omega
 · exact h
def Sz (e:Ex):Prop:=∀x∈pre e,x.s.size<=140737488355328
theorem Sz.kid {o:Int} {s:ByteArray} {n:Int} {l:List Ex} (h:Sz (.mk o s n l)) {x:Ex} (hx:x∈l):Sz x:=fun y hy=>h y (pre_kid hx hy)
theorem Sz.self {o:Int} {s:ByteArray} {n:Int} {l:List Ex} (h:Sz (.mk o s n l)):s.size<=140737488355328:=h _ (pre_self _)
theorem new4 {w:World} {x:Ex} {p:Option Addr} {m c:Nat} {t:TypeId}:cell4 (w.alloc (.cells #[.int .i64 x.o,.string x.s,.int .i64 x.n,.slice p m c] t)) w.heap.size 0 x p m c:=by
 refine cell4_of fun r hr=>?_;rw[World.cell?_alloc_mark,Nat.zero_add]
 match r,hr with
 | 0,_=>rfl
 | 1,_=>rfl
 | 2,_=>rfl
 | 3,_=>rfl
def box4 (w:World) (g:Nat) (o:Int) (s:ByteArray) (n:Int) (p:Option Addr) (m c:Nat):Prop:=w.cell? ⟨g,0,none⟩=some (.int .i64 o)/\w.cell? ⟨g,1,none⟩=some (.string s)/\w.cell? ⟨g,2,none⟩=some (.int .i64 n)/\w.cell? ⟨g,3,none⟩=some (.slice p m c)
theorem box4.lt {w:World} {g:Nat} {o:Int} {s:ByteArray} {n:Int} {p:Option Addr} {m c:Nat} (h:box4 w g o s n p m c):g<w.heap.size:=block_lt h.1
theorem box4.on {w w2:World} {g:Nat} {o:Int} {s:ByteArray} {n:Int} {p:Option Addr} {m c:Nat} (hb:Below w.heap.size w w2) (h:box4 w g o s n p m c):box4 w2 g o s n p m c:=by
 have hg:=h.lt;obtain⟨h0,h1,h2,h3⟩:=h;exact⟨(hb.cell (p:=⟨g,0,none⟩) hg).trans h0,(hb.cell (p:=⟨g,1,none⟩) hg).trans h1,(hb.cell (p:=⟨g,2,none⟩) hg).trans h2,(hb.cell (p:=⟨g,3,none⟩) hg).trans h3⟩
theorem box_new {w:World} {o:Int} {s:ByteArray} {n:Int} {p:Option Addr} {m c:Nat} {t:TypeId}:box4 (w.alloc (.cells #[.int .i64 o,.string s,.int .i64 n,.slice p m c] t)) w.heap.size o s n p m c:=by
 have h:=new4 (w:=w) (x:=.mk o s n []) (p:=p) (m:=m) (c:=c) (t:=t);obtain⟨h0,h1,h2,h3⟩:=h;simp only[Nat.zero_add] at h1 h2 h3;exact⟨h0,h1,h2,h3⟩
theorem box4.alloc {w:World} {g:Nat} {o:Int} {s:ByteArray} {n:Int} {p:Option Addr} {m c:Nat} (ob:Obj) (h:box4 w g o s n p m c):box4 (w.alloc ob) g o s n p m c:=h.on ((Below.refl _ _).alloc (Nat.le_refl _) ob)
theorem depth_one {o n:Int} {s:ByteArray} {l:List Ex}:dep (.mk o s n l)=depL l+1:=by rw[dep]
theorem cnt_one {o n:Int} {s:ByteArray} {l:List Ex}:cnt (.mk o s n l)=cntL l+1:=by rw[cnt]
theorem pre_one {o n:Int} {s:ByteArray} {l:List Ex}:pre (.mk o s n l)=.mk o s n l::preL l:=by rw[pre]
theorem dep_cap {l:List Ex} (k:Nat) {x:Ex} (hx:x∈l) (h:cntL l+1<=1000000):depL (l.take k)<=1000000/\dep x<=1000000:=by
 have h1:=dep_le_cnt (.mk 0 ⟨#[]⟩ 0 l);have h2:=depL_le l k;have h3:=dep_mem hx;rw[depth_one,cnt_one] at h1;omega
theorem dep_cap0 {l:List Ex} (h:cntL l+1<=1000000):depL l<=1000000:=by
 have h1:=dep_le_cnt (.mk 0 ⟨#[]⟩ 0 l);rw[depth_one,cnt_one] at h1;omega
theorem cnt_cap {l:List Ex} (k:Nat) {x:Ex} (hx:l[k]?=some x) (h:cntL l+1<=1000000):cntL (l.take k)+cnt x<=1000000/\cnt x<=1000000:=by
 have h1:=cntL_take hx;have h2:=cntL_le l (k+1);omega
end Go.Proofs.YtbgodajefaahdaaGreatDoor.Ex
namespace Go.Proofs.YtbgodajefaahdaaGreatDoor.Ex
open Go.ChangeShapes Go.WideShapes Go.ChangeAt Go.RowKit Go.Joins Go.Deep
set_option maxHeartbeats 2000000
section
variable {H:Type} {enc:TypeId×Value->H}
theorem law_post {f:Func} {s:ChangeSpec} {W W':World} {args:Array Value} {b:Bool} {ds:List (DataW H)} {before:List MemPlace}
 (hW:DataW.Whole enc Tryz.prog f.params.toList s.vars false W args.toList ds [] before)
 (hres:DataW.TrodAll enc Tryz.prog W' W.heap.size (fun _=>false) false f.resultTypes.toList ((Value.bool b).resultList f.resultTypes.size) (s.fn H (ds++[])).results [])
 (hargs:DataW.TrodAll enc Tryz.prog W' 0 (fun k=>decide (k<W.heap.size)) true f.params.toList args.toList (s.fn H (ds++[])).args before)
 (hvars:DataW.TrodVars enc Tryz.prog W' (fun k=>decide (k<W.heap.size)) s.vars (s.fn H (ds++[])).vars [])
 (hb:Below W.heap.size W W'):s.post enc Tryz.prog f false true false false W args (.bool b) W':=
 ⟨ds,[],before,[],before,[],hW,hres,hargs,hvars,World.keptBut_mono (fun _ hp=>⟨hp,Or.inr (Or.inl hp)⟩) (hb.frame (· ∈ before)),fun h=>by cases h⟩
theorem own:ownKnob Tryz.prog.godebug=none:=by kernel_rfl
theorem laidOut:laidOutB Tryz.prog=true:=by kernel_rfl
theorem arg_back {W W':World} {v:Value} {d:DataW H} {ps:List MemPlace} {t:TypeId} (hr:Tryz.prog.readableRec t=true) (ht:t<Tryz.prog.types.size) (h:DataW.Trod enc Tryz.prog W 0 (fun _=>true) true t v d ps) (hb:Below W.heap.size W W') (hlt:∀y∈ps,y.block<W.heap.size) :
 DataW.Trod enc Tryz.prog W' 0 (fun k=>decide (k<W.heap.size)) true t v d ps:=Below.trod laidOut hr ht h hb hlt
end
end Go.Proofs.YtbgodajefaahdaaGreatDoor.Ex
namespace Go.Proofs.YtbgodajefaahdaaGreatDoor.Na
open Go.RowKit
set_option maxHeartbeats 1000000
theorem ret_int {k:IntKind} {a b:Int} (h:a=b):Ending.returned (.int k a)=.returned (.int k b):=by rw[h]
theorem ret_bool {a b:Bool} (h:a=b):Ending.returned (.bool a)=.returned (.bool b):=by rw[h]
def Gives (v:Value) (w:World) (e:Ending) (w':World):Prop:=e=.returned v/\Below w.heap.size w w'
theorem below_drewN {B:Nat} {a w:World} (h:Below B a w) (n:Nat):Below B a (w.drewN n):=⟨h.os,h.tape,h.output,h.size,h.block⟩
section
variable {a w w2:World}
theorem bl_alloc {o:Obj} (h:Below a.heap.size a w):Below a.heap.size a (w.alloc o):=h.alloc h.size o
theorem bl_drewN {n:Nat} (h:Below a.heap.size a w):Below a.heap.size a (w.drewN n):=below_drewN h n
theorem bl_drew (h:Below a.heap.size a w):Below a.heap.size a w.drew:=h.drew
theorem bl_set {p:Addr} (h:Below a.heap.size a w) (hp:a.heap.size<=p.block) (u:Value):Below a.heap.size a (w.setCell p u):=h.setCell hp u
theorem bl_call (h:Below a.heap.size a w) (hb:Below w.heap.size w w2):Below a.heap.size a w2:=h.trans (hb.mono h.size)
end
def Strs (w:World) (p:Option Addr) (n:Nat) (l:List ByteArray):Prop:=
 l.length=n/\n<=9223372036854775807/\(n=0∨∃b o,p=some ⟨b,o,none⟩/\b<w.heap.size/\Hid (∀i,(h:i<l.length)->w.cell? ⟨b,o+i,none⟩=some (.string (l[i]))))
theorem zBE_0 {p:Prop} (h:p:=by
 obtain⟨h0,hl,h|⟨b,o,rfl,h1,h2⟩⟩:=h
 · exact⟨h0,hl,.inl h⟩
 · exact⟨h0,hl,.inr ⟨b,o,rfl,Nat.lt_of_lt_of_le h1 hb.size,hid fun i hi=>(hb.cell (p:=⟨b,o+i,none⟩) h1).trans (h2.out i hi)⟩⟩
 ):p:=h
theorem Strs.on {w w2:World} {p:Option Addr} {n:Nat} {l:List ByteArray} (hb:Below w.heap.size w w2) (h:Strs w p n l):Strs w2 p n l:=by
 exact zBE_0
theorem Strs.alloc {w:World} {o:Obj} {p:Option Addr} {n:Nat} {l:List ByteArray} (h:Strs w p n l):Strs (w.alloc o) p n l:=h.on ((Below.refl _ _).alloc (Nat.le_refl _) o)
theorem Strs.drew {w:World} {p:Option Addr} {n:Nat} {l:List ByteArray} (h:Strs w p n l):Strs w.drew p n l:=h
theorem Strs.drewN {w:World} {p:Option Addr} {n:Nat} {l:List ByteArray} (h:Strs w p n l) (m:Nat):Strs (w.drewN m) p n l:=h
def Byt (w:World) (p:Option Addr) (n:Nat) (l:List UInt8):Prop:=
 l.length=n/\n<=9223372036854775807/\(n=0∨∃b o,p=some ⟨b,o,none⟩/\b<w.heap.size/\Hid (∀i,(h:i<l.length)->w.cell? ⟨b,o+i,none⟩=some (.int .u8 ((l[i]).toNat:Int))))
theorem Byt.on {w w2:World} {p:Option Addr} {n:Nat} {l:List UInt8} (hb:Below w.heap.size w w2) (h:Byt w p n l):Byt w2 p n l:=by
 exact zBE_0
theorem bytes_S (S:ByteArray) (hl:S.size<=9223372036854775807) (w:World) :
 ∃c w',(convert 9 150 (.string S)).run Tryz.prog w=.ok (.slice (some ⟨w.heap.size,0,none⟩) S.size c) w'/\Byt w' (some ⟨w.heap.size,0,none⟩) S.size (bs S)/\Below w.heap.size w w':=by
 refine⟨_,_,run_bytes_of_string w _ _ 5 _ Tryz.underlying9 Tryz.underlying150 Tryz.underlying5,⟨bs_len S,hl,.inr ⟨_,_,rfl,by simp,hid fun i hi=>?_⟩⟩,bl_alloc (bl_drew (Below.refl _ _))⟩;have e:=World.cell?_alloc_mark w.drew (bytesRow S (grownCap w S.size 0 5)) 5 ((bytesRow S (grownCap w S.size 0 5)).size,(bytesRow S (grownCap w S.size 0 5)).size+1) (0+i);rw[show w.drew.heap.size=w.heap.size from rfl] at e;rw[e,Nat.zero_add,bytesRow_at _ _ _ (by rw[bs_len] at hi;exact hi)];rfl
theorem eq_yes {a b:ByteArray} (h:bs a=bs b):(a.toList==b.toList)=true:=by rw[bs_inj h];simp
theorem eq_no {a b:ByteArray} (h:¬bs a=bs b):(a.toList==b.toList)=false:=by
 rw[beq_eq_false_iff_ne,Lib.toList_data,Lib.toList_data];exact h
end Go.Proofs.YtbgodajefaahdaaGreatDoor.Na
namespace Go.Proofs.YtbgodajefaahdaaGreatDoor.Na
open Go.RowKit
set_option maxHeartbeats 2000000
def Not (l:List ByteArray) (s:ByteArray) (k:Nat):Prop:=∀j,(hj:j<k)->(hl:j<l.length)->¬bs l[j]=bs s
theorem not_step {l:List ByteArray} {s:ByteArray} {k:Nat} (hk:k<l.length) (h:Not l s k) (e:¬bs l[k]=bs s):Not l s (k+1):=by
 intro j hj hl;rcases Nat.lt_or_ge j k with h1|h1
 · exact h j h1 hl
 · obtain rfl:j=k:=by omega
   exact e
theorem not_zero {l:List ByteArray} {s:ByteArray}:Not l s 0:=fun _ hj=>absurd hj (Nat.not_lt_zero _)
theorem not_hit {l:List ByteArray} {s:ByteArray} {k:Nat} (hk:k<l.length) (h:Not l s k) (e:bs l[k]=bs s):(k:Int)=fst l s:=(fst_hit hk (fun j hj=>h j hj (by omega)) e).symm
theorem not_miss {l:List ByteArray} {s:ByteArray} {k:Nat} (hk:l.length=k) (h:Not l s k):(-1:Int)=fst l s:=(fst_miss (fun j hj=>h j (by omega) hj)).symm
theorem index_any (p:Option Addr) (n c:Nat) (l:List ByteArray) (s:ByteArray) (w:World) (hb:Strs w p n l):Calls Tryz.prog 200 #[.slice p n c,.string s] w fun e w'=>e=.returned (.int .i64 (fst l s))/\w'=w:=by
 have HB:=hid hb;have HL:=hid hb.1;have hn:(n:Int)<=9223372036854775807:=by have:=hb.2.1;omega
 clear hb;go_enter Tryz.func200,Tryz.ntmps200;go_wp2_with fail;go_loop [8] (fun i=>∃k:Nat,k<=n/\i=.int .i64 (k:Nat)/\Hid (Not l s k)) (fun i=>n-(intOf i).toNat)
 case atStart=>exact⟨0,Nat.zero_le _,rfl,hid not_zero⟩
 case round=>
  obtain⟨k,hk,rfl,HN⟩:=hrel;have c1:(0:Int)<=(k:Int):=by omega
  rcases Nat.lt_or_ge k n with h|h
  · have hkl:k<l.length:=by rw[HL.out];exact h
    obtain⟨-,-,h0|⟨b,o,rfl,hb,hcell⟩⟩:=HB.out
    · omega
    · have e1:=hcell.out k hkl;have c2:(k:Int)<(n:Int):=by omega
      by_cases he:bs l[k]=bs s
      · have q1:=eq_yes he.symm;have HR:=hid (not_hit hkl HN.out he);obtain⟨x,ex⟩:∃x,l[k]=x:=⟨_,rfl⟩
        rw[ex] at e1 q1;clear he hcell ex hkl;go_wp2_with fail;go_ret;exact⟨ret_int HR.out,rfl⟩
      · have q1:=eq_no (fun g=>he g.symm);have HN2:=hid (not_step hkl HN.out he);obtain⟨x,ex⟩:∃x,l[k]=x:=⟨_,rfl⟩
        rw[ex] at e1 q1;clear he hcell ex hkl;go_wp2_with fail;go_round
        case rel=>exact⟨k+1,by omega,by go_num,HN2⟩
        case measure=>simp[intOf];omega
  · obtain rfl:n=k:=by omega
    have HR:=hid (not_miss HL.out HN.out);go_wp2_with fail;go_ret;exact⟨ret_int HR.out,rfl⟩
theorem find_any (p:Option Addr) (n c:Nat) (l:List ByteArray) (s:ByteArray) (w:World) (hb:Strs w p n l):Calls Tryz.prog 189 #[.slice p n c,.string s] w fun e w'=>e=.returned (.int .i64 (fst l s))/\w'=w:=by
 have I1:=index_any p n c l s w hb;clear hb;go_enter Tryz.func189,Tryz.ntmps189;go_wp2_with fail;refine I1.mono ?_;rintro e w1 ⟨rfl,rfl⟩;go_wp2_with fail;go_ret;exact⟨rfl,rfl⟩
end Go.Proofs.YtbgodajefaahdaaGreatDoor.Na
namespace Go.Proofs.YtbgodajefaahdaaGreatDoor
open Go
theorem bl {p:Prop} (h:p:=by(repeat (first|(with_reducible exact Below.refl _ _)|(with_reducible assumption)|(with_reducible apply Go.Proofs.YtbgodajefaahdaaGreatDoor.Ex.bl_alloc)|(with_reducible apply Go.Proofs.YtbgodajefaahdaaGreatDoor.Ex.bl_drewN)|(with_reducible apply Go.Proofs.YtbgodajefaahdaaGreatDoor.Ex.bl_drew)|(with_reducible refine Go.Proofs.YtbgodajefaahdaaGreatDoor.Ex.bl_set ?_ (by first|(simp;done)|(simp;omega)) _)|(with_reducible refine Go.Proofs.YtbgodajefaahdaaGreatDoor.Ex.bl_call ?_ (by assumption))))):p:=h
theorem htake {P:Program} {md:Region.Mode} {ops:Array Oper} {Q:Exit->Act->World->Prop} {S:World->Prop} (i:Nat) (v:Value) {oi:Oper} {fuel:Nat} {listed:Array Bool} {a:Act} {w:World} (hi:ops[i]?=some oi:=by rfl) (hs:Region.noSelect ops=true:=by kernel_rfl) (hf:Region.free md ops listed i=true:=by kernel_rfl) (hr:(Region.ready md ops listed).contains i=true:=by kernel_rfl) (hQ:∀c a w,Q (.panic c) (a.put oi.dst v) w->Q (.panic c) a w:=by exact fun _ _ _ h=>h) (hw:Region.wanted oi (yielded ops a.tmps)=true:=by rfl) (hy:∀w,S w->(execOp a.eval oi).run P w=.ok (.value v) w:=by(intro w' hS';(try dsimp only at hS');first|(go_simp;done)|(go_simp;with_reducible rfl))) (hS:S w:=by assumption) (h:wpAnyH P md ops Q S fuel (listed.setIfInBounds i true) (a.put oi.dst v) w):wpAnyH P md ops Q S (fuel+1) listed a w:=
 wpAnyH_take hi hs hf hr hQ (Or.inl ⟨hw,hy⟩) hS h
theorem hrdy {P:Program} {md:Region.Mode} {ops:Array Oper} {Q:Exit->Act->World->Prop} {S:World->Prop} (rs:List Nat) {fuel:Nat} {listed:Array Bool} {a:Act} {w:World} (h:AllReadyH P md ops Q S fuel listed a w rs) (hr:Region.ready md ops listed=rs:=by kernel_rfl) (hne:rs ≠ []:=by simp):wpAnyH P md ops Q S (fuel+1) listed a w:=
 wpAnyH_ready hr hne h
theorem hcons {P:Program} {md:Region.Mode} {ops:Array Oper} {Q:Exit->Act->World->Prop} {S:World->Prop} {fuel:Nat} {listed:Array Bool} {a:Act} {w:World} {i:Nat} {o:Oper} {rs:List Nat} (h:∀K':Act->World->Prop,Shut (∀a w,S w->(S w->wpAnyH P md ops Q S fuel (listed.setIfInBounds i true) a w)->K' a w)->if Region.wanted o (yielded ops a.tmps)=true then Oper.wp P o a w K' Q else K' (a.put o.dst undef) w) (hs:AllReadyH P md ops Q S fuel listed a w rs) (ho:ops[i]?=some o:=by rfl):AllReadyH P md ops Q S fuel listed a w (i::rs):=
 AllReadyH.cons ho h hs
theorem hcall {P:Program} {md:Region.Mode} {ops:Array Oper} {Q:Exit->Act->World->Prop} {S:World->Prop} (i:Nat) {fuel:Nat} {listed:Array Bool} {a:Act} {w:World} {o:Oper} (h:∀K':Act->World->Prop,Shut (∀a w,S w->(S w->wpAnyH P md ops Q S fuel (listed.setIfInBounds i true) a w)->K' a w)->if Region.wanted o (yielded ops a.tmps)=true then Oper.wp P o a w K' Q else K' (a.put o.dst undef) w) (hr:Region.ready md ops listed=[i]:=by kernel_rfl) (ho:ops[i]?=some o:=by rfl):wpAnyH P md ops Q S (fuel+1) listed a w:=
 wpAnyH_ready hr (by simp) (AllReadyH.cons ho h AllReadyH.nil)
theorem sA {α:Type _} (l:List α) (i:Nat) (a:α):l.toArray.setIfInBounds i a=(l.set i a).toArray:=List.setIfInBounds_toArray ..
theorem sB {α:Type _} (x:α) (l:List α) (a:α):(x::l).set 0 a=a::l:=rfl
theorem sC {α:Type _} (x:α) (l:List α) (n:Nat) (a:α):(x::l).set (n+1) a=x::l.set n a:=rfl
end Go.Proofs.YtbgodajefaahdaaGreatDoor
namespace Go.Proofs.YtbgodajefaahdaaGreatDoor.Na
open Go.RowKit
set_option maxHeartbeats 1000000
theorem zBL_0 {p:Prop} (h:p:=by
 go_wp2_with fail;go_ret;exact⟨rfl,rfl⟩
 ):p:=h
theorem letter_any (x:Int) (w:World):Calls Tryz.prog 66 #[.int .u8 x] w fun e w'=>e=.returned (.bool (ltrI x))/\w'=w:=by
 unfold ltrI;by_cases h1:97<=x
 · have t1:decide (97<=x)=true:=decide_eq_true h1;have HR:Hid (decide (x<=122)=(decide (97<=x)&&decide (x<=122))):=hid (by rw[t1];rfl);by_cases h2:x<=122
   · have t2:decide (x<=122)=true:=decide_eq_true h2;rw[t1,t2];clear HR;go_enter Tryz.func66,Tryz.ntmps66;exact zBL_0
   · have t2:decide (x<=122)=false:=decide_eq_false h2;rw[t1,t2];clear HR;go_enter Tryz.func66,Tryz.ntmps66;exact zBL_0
 · have t1:decide (97<=x)=false:=decide_eq_false h1;rw[t1,Bool.false_and];go_enter Tryz.func66,Tryz.ntmps66;exact zBL_0
theorem digit_any (x:Int) (w:World):Calls Tryz.prog 68 #[.int .u8 x] w fun e w'=>e=.returned (.bool (digI x))/\w'=w:=by
 unfold digI;by_cases h1:48<=x
 · have t1:decide (48<=x)=true:=decide_eq_true h1;by_cases h2:x<=57
   · have t2:decide (x<=57)=true:=decide_eq_true h2;rw[t1,t2];go_enter Tryz.func68,Tryz.ntmps68;exact zBL_0
   · have t2:decide (x<=57)=false:=decide_eq_false h2;rw[t1,t2];go_enter Tryz.func68,Tryz.ntmps68;exact zBL_0
 · have t1:decide (48<=x)=false:=decide_eq_false h1;rw[t1,Bool.false_and];go_enter Tryz.func68,Tryz.ntmps68;exact zBL_0
theorem letter_at {x:Int} {b:Bool} (h:ltrI x=b) (w:World):Calls Tryz.prog 66 #[.int .u8 x] w fun e w'=>e=.returned (.bool b)/\w'=w:=by rw[← h];exact letter_any x w
theorem digit_at {x:Int} {b:Bool} (h:digI x=b) (w:World):Calls Tryz.prog 68 #[.int .u8 x] w fun e w'=>e=.returned (.bool b)/\w'=w:=by rw[← h];exact digit_any x w
end Go.Proofs.YtbgodajefaahdaaGreatDoor.Na
namespace Go.Proofs.YtbgodajefaahdaaGreatDoor.Ex
open Go.RowKit
set_option maxHeartbeats 2000000
set_option linter.unusedSimpArgs false
abbrev mE:ByteArray:=⟨#[]⟩
def GivesE (x:Ex) (w:World) (e:Ending) (w':World):Prop:=∃p m c,e=.returned (.agg #[.int .i64 x.o,.string x.s,.int .i64 x.n,.slice p m c])/\In w' x p m/\Below w.heap.size w w'
def b01 (n:Int):Int:=if n=0 then 0 else 1
def cnst (t n:Int):Ex:=if t=1 then .mk 1 mE n [] else if t=2 then .mk 2 mE (b01 n) [] else if t=3 then .mk 7 mE 0 [.mk 1 mE n []] else .mk 0 mE 0 []
theorem In.leaf {w:World} {o n:Int} {s:ByteArray} {p:Option Addr}:In w (.mk o s n []) p 0:=Kin.zero
theorem In.one {w:World} {o n:Int} {s:ByteArray} {x:Ex} {b:Nat} {p:Option Addr} {m c:Nat} (hb:b<w.heap.size) (h:cell4 w b 0 x p m c) (hx:In w x p m):In w (.mk o s n [x]) (some ⟨b,0,none⟩) 1:=by
 refine kin_iff.2 ⟨rfl,by omega,.inr ⟨b,0,rfl,hb,hb,hid fun k hk=>?_⟩⟩;have:k=0:=by simpa using hk
 subst this;exact⟨p,m,c,h,hx⟩
theorem In.two {w:World} {o n:Int} {s:ByteArray} {x y:Ex} {b:Nat} {p q:Option Addr} {m c m2 c2:Nat} (hb:b<w.heap.size) (h:cell4 w b 0 x p m c) (hx:In w x p m) (h2:cell4 w b 4 y q m2 c2) (hy:In w y q m2):In w (.mk o s n [x,y]) (some ⟨b,0,none⟩) 2:=by
 refine kin_iff.2 ⟨rfl,by omega,.inr ⟨b,0,rfl,hb,hb,hid fun k hk=>?_⟩⟩;have:k=0∨k=1:=by simp at hk;omega
 rcases this with rfl|rfl
 · exact⟨p,m,c,h,hx⟩
 · exact⟨q,m2,c2,h2,hy⟩
theorem frz_new {w:World} {C:Array Value} {t:TypeId} (k:Nat):(w.alloc (.cells C t)).frozen? ⟨w.heap.size,k,none⟩=false:=by
 have h:(w.alloc (.cells C t)).heap[w.heap.size]?=some (.cells C t (0,0)):=World.alloc_heap_new w _;unfold World.frozen?;rw[h];simp
theorem set4 {W:World} {g:Nat} {o:Int} {s:ByteArray} {n:Int} {p:Option Addr} {m c:Nat} (h:box4 W g o s n p m c) (o':Int) (s':ByteArray) (n':Int) (p':Option Addr) (m' c':Nat) :
 box4 ((((W.setCell ⟨g,0,none⟩ (.int .i64 o')).setCell ⟨g,1,none⟩ (.string s')).setCell ⟨g,2,none⟩ (.int .i64 n')).setCell ⟨g,3,none⟩ (.slice p' m' c')) g o' s' n' p' m' c':=by
 obtain⟨h0,h1,h2,h3⟩:=h;refine⟨?_,?_,?_,?_⟩ <;> simp[go_sem,h0,h1,h2,h3]
theorem below4 {a W:World} {g:Nat} (h:Below a.heap.size a W) (hg:a.heap.size<=g) (v0 v1 v2 v3:Value):Below a.heap.size a ((((W.setCell ⟨g,0,none⟩ v0).setCell ⟨g,1,none⟩ v1).setCell ⟨g,2,none⟩ v2).setCell ⟨g,3,none⟩ v3):=
 (((h.setCell (p:=⟨g,0,none⟩) hg v0).setCell (p:=⟨g,1,none⟩) hg v1).setCell (p:=⟨g,2,none⟩) hg v2).setCell (p:=⟨g,3,none⟩) hg v3
theorem zBY_0 {p:Prop} (h:p:=by simp[results,Tryz.results228,go_sem]):p:=h
theorem const_one (n:Int) (w:World):Calls Tryz.prog 228 #[.int .i64 1,.int .i64 n] w fun e w'=>e=.returned (.agg #[.int .i64 1,.string mE,.int .i64 n,.slice none 0 0])/\Below w.heap.size w w':=by
 go_enter Tryz.func228,Tryz.ntmps228;go_wp2_with fail
 (try simp only[Exit.inBlock,Exit.then])
 exact bodyPost_ret (v:=.agg #[.int .i64 1,.string mE,.int .i64 n,.slice none 0 0]) zBY_0 rfl ⟨rfl,bl⟩
theorem const_any (t n:Int) (w:World):Calls Tryz.prog 228 #[.int .i64 t,.int .i64 n] w (GivesE (cnst t n) w):=by
 unfold cnst;by_cases h1:t=1
 · subst h1;rw[if_pos rfl];exact(const_one n w).mono fun e w' h=>⟨none,0,0,h.1,In.leaf,h.2⟩
 rw[if_neg h1];have t1:(t==1)=false:=beq_eq_false_iff_ne.2 h1;by_cases h2:t=2
 · subst h2;rw[if_pos rfl];by_cases hn:n=0
   · subst hn;go_enter Tryz.func228,Tryz.ntmps228;go_wp2_with fail
     (try simp only[Exit.inBlock,Exit.then])
     exact bodyPost_ret (v:=.agg #[.int .i64 2,.string mE,.int .i64 0,.slice none 0 0]) zBY_0 rfl ⟨none,0,0,rfl,In.leaf,bl⟩
   · have f0:(n==0)=false:=beq_eq_false_iff_ne.2 hn;rw[show b01 n=1 from if_neg hn];go_enter Tryz.func228,Tryz.ntmps228;go_wp2_with fail
     (try simp only[Exit.inBlock,Exit.then])
     exact bodyPost_ret (v:=.agg #[.int .i64 2,.string mE,.int .i64 1,.slice none 0 0]) zBY_0 rfl ⟨none,0,0,rfl,In.leaf,bl⟩
 rw[if_neg h2];have t2:(t==2)=false:=beq_eq_false_iff_ne.2 h2;by_cases h3:t=3
 · subst h3;rw[if_pos rfl];go_enter Tryz.func228,Tryz.ntmps228;go_wp2_with fail;refine(const_one n _).mono ?_;rintro e w2 ⟨rfl,hb2⟩;obtain⟨z0,z1,z2,z3⟩:=box4.on hb2 box_new;have y0:=(hb2.frozen (p:=⟨w.heap.size,0,none⟩) (by simp)).trans (frz_new 0);have y1:=(hb2.frozen (p:=⟨w.heap.size,1,none⟩) (by simp)).trans (frz_new 1);have y2:=(hb2.frozen (p:=⟨w.heap.size,2,none⟩) (by simp)).trans (frz_new 2);have y3:=(hb2.frozen (p:=⟨w.heap.size,3,none⟩) (by simp)).trans (frz_new 3);have hlt:w.heap.size<w2.heap.size:=by have:=hb2.size;simp at this;omega
   have HB:=hid (show Below w.heap.size w w2 by exact bl);clear hb2;go_wp2_with fail
   (try simp only[Exit.inBlock,Exit.then])
   obtain⟨r0,r1,r2,r3⟩:=(set4 ⟨z0,z1,z2,z3⟩ 7 mE 0 (some ⟨w2.heap.size,0,none⟩) 1 1).alloc (.cells #[.int .i64 1,.string mE,.int .i64 n,.slice none 0 0] 41);have hB:=bl_alloc (o:=.cells #[.int .i64 1,.string mE,.int .i64 n,.slice none 0 0] 41) (below4 HB.out (g:=w.heap.size) (Nat.le_refl _) (.int .i64 7) (.string mE) (.int .i64 0) (.slice (some ⟨w2.heap.size,0,none⟩) 1 1));have hn4:=new4 (w:=(((w2.setCell ⟨w.heap.size,0,none⟩ (.int .i64 7)).setCell ⟨w.heap.size,1,none⟩ (.string mE)).setCell ⟨w.heap.size,2,none⟩ (.int .i64 0)).setCell ⟨w.heap.size,3,none⟩ (.slice (some ⟨w2.heap.size,0,none⟩) 1 1)) (x:=.mk 1 mE n []) (p:=none) (m:=0) (c:=0) (t:=41);simp only[World.size_setCell] at hn4;exact bodyPost_ret (v:=.agg #[.int .i64 7,.string mE,.int .i64 0,.slice (some ⟨w2.heap.size,0,none⟩) 1 1]) (by simp[results,Tryz.results228,go_sem,r0,r1,r2,r3]) rfl ⟨_,_,_,rfl,In.one (by simp) hn4 In.leaf,hB⟩
 rw[if_neg h3];have t3:(t==3)=false:=beq_eq_false_iff_ne.2 h3;clear h1 h2 h3;go_enter Tryz.func228,Tryz.ntmps228;go_wp2_with fail
 (try simp only[Exit.inBlock,Exit.then])
 exact bodyPost_ret (v:=.agg #[.int .i64 0,.string mE,.int .i64 0,.slice none 0 0]) zBY_0 rfl ⟨none,0,0,rfl,In.leaf,bl⟩
end Go.Proofs.YtbgodajefaahdaaGreatDoor.Ex
namespace Go.Proofs.YtbgodajefaahdaaGreatDoor.Ex
open Go.RowKit
set_option maxHeartbeats 1000000
theorem zDO_0 {p:Prop} (h:p:=by
 go_wp2_with fail;go_roundw
 case rel=>exact⟨k+1,by omega,by rw[HK.out];go_num,by go_num,HW2⟩
 case measure=>simp[intOf];omega
 ):p:=h
set_option maxRecDepth 100000 in
theorem depth_any (e:Ex):∀(p:Option Addr) (m c:Nat) (w:World),In w e p m->cnt e<=1000000->Calls Tryz.prog 96 #[.agg #[.int .i64 e.o,.string e.s,.int .i64 e.n,.slice p m c]] w (Gives (.int .i64 (dep e:Nat)) w):=by
 induction e using Ex.ind with
 | h o s n l ih=>
  intro p m c w h hc;rw[cnt_one] at hc;have HH:=hid h;have HI:=hid ih;obtain⟨hl,hm⟩:=h.len;have HL:=hid hl;have HC:=hid hc;simp only[Ex.o,Ex.s,Ex.n];clear ih h hl hc;rw[depth_one];go_enter Tryz.func96,Tryz.ntmps96;go_wp2_with fail;go_loopw [3,9] (fun d i wr=>∃k:Nat,k<=m/\d=.int .i64 (depL (l.take k):Nat)/\i=.int .i64 (k:Nat)/\Hid (Below w.heap.size w wr)) (fun d i _=>m-(intOf i).toNat)
  case atStart=>exact⟨0,Nat.zero_le _,rfl,rfl,hid bl⟩
  case round=>
   obtain⟨k,hk,rfl,rfl,HW⟩:=hrel;have k0:(0:Int)<=(k:Int):=by omega
   rcases Nat.lt_or_ge k m with h|h
   · have k1:(k:Int)<(m:Int):=by omega
     obtain⟨b,o',rfl,-,hG,hcell⟩:=HH.out.kids (by omega);have hkl:k<l.length:=by rw[HL.out];omega
     obtain⟨q,j,c',hc4,hkin⟩:=hcell.out k hkl;have hmem:l[k]∈l:=List.getElem_mem hkl;have hgx:l[k]?=some l[k]:=List.getElem?_eq_getElem hkl;obtain⟨x,hx⟩:∃x,l[k]=x:=⟨_,rfl⟩
     rw[hx] at hc4 hkin hmem hgx;obtain⟨e0,e1,e2,e3⟩:=hc4.on HW.out hG;have HKIN:=hid hkin;have HX:=hid hgx;have HM:=hid hmem;clear hcell hc4 hkin hx hmem hgx hkl;obtain⟨d1,d2⟩:=dep_cap k HM.out HC.out;have HK:=hid (depL_take HX.out);have HB:=hid (cnt_cap k HX.out HC.out);obtain⟨D,hD⟩:∃D,depL (l.take k)=D:=⟨_,rfl⟩
     obtain⟨E,hE⟩:∃E,dep x=E:=⟨_,rfl⟩
     rw[hD] at d1 HK ⊢;have HI1:=HI.out x HM.out q j c';rw[hE] at d2 HK HI1;have HI2:=hid HI1;clear HI1 hD hE;go_wp2_with fail;refine(HI2.out _ (HKIN.out.on (by have HBB:=HW.out;exact bl)) HB.out.2).mono ?_;rintro e w2 ⟨rfl,hb2⟩;have HW2:Hid (Below w.heap.size w w2):=hid (by have HBB:=HW.out;exact bl);clear hb2;by_cases hDE:D<E
     · have m1:(D:Int)<(E:Int):=by omega
       exact zDO_0
     · have m1:(E:Int)<=(D:Int):=by omega
       exact zDO_0
   · obtain rfl:m=k:=by omega
     have HT:Hid (l.take m=l):=hid (List.take_of_length_le (by rw[HL.out];exact Nat.le_refl _));have d1:=dep_cap0 HC.out;rw[HT.out];obtain⟨D,hD⟩:∃D,depL l=D:=⟨_,rfl⟩
     rw[hD] at d1 ⊢;have HD:=hid hD;clear hD;go_wp2_with fail;go_ret;exact⟨by rw[HD.out];go_num,HW.out⟩
end Go.Proofs.YtbgodajefaahdaaGreatDoor.Ex
