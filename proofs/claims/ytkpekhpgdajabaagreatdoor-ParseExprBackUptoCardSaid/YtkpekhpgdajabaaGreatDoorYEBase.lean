/-
  Parts of this proof: Words for worlds and expressions in memory. The last step of a law's row; what an expression. Mathematics of lists of names. Plain facts about fractions, about division by d. The contracts of package frac's small functions. Words for slices of ints in memory; the contract. The contracts of slices.Equal, of the reference'. The contracts of package dist's unused, checkLen. The contract of package dist's Check, at every d.
-/
import Derived.Test.YtkpekhpgdajabaaGreatDoorYNuMath
open Go.Proofs.Tryz
open Go renaming World->X,Addr->ag,Value->ah,Calls->ai,bodyPost_ret->au
open Go.Proofs.Tryz renaming prog->ae
open Option renaming none->Y,some->A
open Go.RowKit renaming Below->af
open Nat renaming le_refl->aj,lt_of_lt_of_le->av
open Go.Lib renaming hid->ak
set_option linter.unusedVariables false
set_option maxHeartbeats 2000000
open Go.Lib (hid)
namespace Go.Proofs.YtkpekhpgdajabaaGreatDoor
namespace Ex
open Go.RowKit
open Na (bs jl)
theorem nN {k:IntKind} {a b:Int} (h:a=b):Ending.returned (.int k a)=.returned (.int k b):=by rw[h]
def Gives (v:ah) (w:X) (e:Ending) (w':X):Prop:=e=.returned v/\af w.heap.size w w'
theorem below_drewN {B:Nat} {a w:X} (h:af B a w) (n:Nat):af B a (w.drewN n):=⟨h.os,h.tape,h.output,h.size,h.block⟩
section
variable {a w w2:X}
theorem iJ {o:Obj} (h:af a.heap.size a w):af a.heap.size a (w.alloc o):=h.alloc h.size o
theorem uy {n:Nat} (h:af a.heap.size a w):af a.heap.size a (w.drewN n):=below_drewN h n
theorem qJ (h:af a.heap.size a w):af a.heap.size a w.drew:=h.drew
theorem yn {p:ag} (h:af a.heap.size a w) (hp:a.heap.size<=p.block) (u:ah):af a.heap.size a (w.setCell p u):=h.setCell hp u
theorem rF (h:af a.heap.size a w) (hb:af w.heap.size w w2):af a.heap.size a w2:=h.trans (hb.mono h.size)
end
theorem clash {x:Bool} (h:x=true) (g:x=false):False:=by rw[h] at g;cases g
theorem rH {a b:ByteArray} (h:bs a=bs b):(a.toList==b.toList)=true:=by rw[jl h];simp
theorem vk {a b:ByteArray} (h:¬bs a=bs b):(a.toList==b.toList)=false:=by
 exact Uz
theorem wu (b o j:Nat):(⟨b,o,Y⟩:ag).add j=⟨b,o+j,Y⟩:=by unfold Addr.add;split <;> simp_all
theorem block_lt {w:X} {b k:Nat} {v:ah} (h:w.cell? ⟨b,k,Y⟩=A v):b<w.heap.size:=by
 rcases Nat.lt_or_ge b w.heap.size with g|g
 · exact g
 · unfold World.cell? at h;rw[Array.getElem?_eq_none g] at h;cases h
def c4 (x:Ex) (p:Option ag) (m c:Nat) (r:Nat):ah:=match r with
 | 0=>.int .i64 x.o
 | 1=>.string x.s
 | 2=>.int .i64 x.n
 | _=>.slice p m c
def iQ (w:X) (g o:Nat) (x:Ex) (p:Option ag) (m c:Nat):Prop:=w.cell? ⟨g,o,Y⟩=A (.int .i64 x.o)/\w.cell? ⟨g,o+1,Y⟩=A (.string x.s)/\w.cell? ⟨g,o+2,Y⟩=A (.int .i64 x.n)/\w.cell? ⟨g,o+3,Y⟩=A (.slice p m c)
theorem iQ.keep {w w2:X} {g o:Nat} {x:Ex} {p:Option ag} {m c:Nat} (hb:w2.heap[g]?=w.heap[g]?) (h:iQ w g o x p m c):iQ w2 g o x p m c:=by
 obtain⟨h0,h1,h2,h3⟩:=h;exact⟨(World.cell?_of_block (w:=w) (a:=⟨g,o,Y⟩) hb).trans h0,(World.cell?_of_block (w:=w) (a:=⟨g,o+1,Y⟩) hb).trans h1,(World.cell?_of_block (w:=w) (a:=⟨g,o+2,Y⟩) hb).trans h2,(World.cell?_of_block (w:=w) (a:=⟨g,o+3,Y⟩) hb).trans h3⟩
theorem iQ.on {w w2:X} {g o:Nat} {x:Ex} {p:Option ag} {m c:Nat} (hb:af w.heap.size w w2) (hg:g<w.heap.size) (h:iQ w g o x p m c):iQ w2 g o x p m c:=h.keep (hb.block g hg)
theorem Kj {w:X} {g o:Nat} {x:Ex} {p:Option ag} {m c:Nat} (h:∀r,r<4->w.cell? ⟨g,o+r,Y⟩=A (c4 x p m c r)):iQ w g o x p m c:=
 ⟨h 0 bT,h 1 bT,h 2 bT,h 3 bT⟩
mutual
def bX (G:Nat->Prop) (w:X):Ex->Option ag->Nat->Prop
 | .mk _ _ _ l,p,m=>l.length=m/\m<=9223372036854775807/\(m=0∨∃b o,p=A ⟨b,o,Y⟩/\G b/\b<w.heap.size/\Rows G w l b o)
def Rows (G:Nat->Prop) (w:X):List Ex->Nat->Nat->Prop
 | [],_,_=>True
 | x::t,b,o=>(∃p m c,iQ w b o x p m c/\bX G w x p m)/\Rows G w t b (o+4)
end
theorem MC {G:Nat->Prop} {w:X}:∀{l:List Ex} {b o:Nat},Rows G w l b o ↔ ∀k,(h:k<l.length)->∃p m c,iQ w b (o+k*4) l[k] p m c/\bX G w l[k] p m
 | [],b,o=>⟨fun _ k h=>absurd h (Nat.not_lt_zero _),fun _=>trivial⟩
 | x::t,b,o=>by
  unfold Rows;constructor
  · rintro⟨h1,h2⟩ k hk
    match k,hk with
    | 0,_=>exact h1
    | k+1,hk=>
     have:=MC.1 h2 k (by simpa using hk);rw[show o+4+k*4=o+(k+1)*4 by omega] at this;exact this
  · intro h;refine⟨h 0 cK,MC.2 fun k hk=>?_⟩;have:=h (k+1) (by simpa using hk);rw[show o+(k+1)*4=o+4+k*4 by omega] at this;exact this
theorem ajL {G:Nat->Prop} {w:X} {o':Int} {s:ByteArray} {n:Int} {l:List Ex} {p:Option ag} {m:Nat}:bX G w (.mk o' s n l) p m↔l.length=m/\m<=9223372036854775807/\(m=0∨∃b o,p=A ⟨b,o,Y⟩/\G b/\b<w.heap.size/\Rows G w l b o):=by rw[bX]
theorem nI {G:Nat->Prop} {w:X} {o':Int} {s:ByteArray} {n:Int} {l:List Ex} {p:Option ag} {m:Nat}:bX G w (.mk o' s n l) p m↔l.length=m/\m<=9223372036854775807/\(m=0∨∃b o,p=A ⟨b,o,Y⟩/\G b/\b<w.heap.size/\Hid (∀k,(h:k<l.length)->∃p m c,iQ w b (o+k*4) l[k] p m c/\bX G w l[k] p m)):=by
 rw[ajL];refine and_congr_right fun _=>and_congr_right fun _=>or_congr_right ?_;constructor
 · rintro⟨b,o,h1,h2,h3,h4⟩;exact⟨b,o,h1,h2,h3,ak (MC.1 h4)⟩
 · rintro⟨b,o,h1,h2,h3,h4⟩;exact⟨b,o,h1,h2,h3,MC.2 h4.out⟩
theorem bX.map {G H:Nat->Prop} {w w2:X} (hs:w.heap.size<=w2.heap.size) (hk:∀b,G b->b<w.heap.size->H b/\w2.heap[b]?=w.heap[b]?) (e:Ex):∀{p m},bX G w e p m->bX H w2 e p m:=by
 induction e using Ex.ind with
 | h o s n l ih=>
  intro p m h;rw[nI] at h ⊢;obtain⟨h1,h2,h3|⟨b,o,rfl,hg,hb,h4⟩⟩:=h
  · exact⟨h1,h2,.inl h3⟩
  · obtain⟨g1,g2⟩:=hk b hg hb;refine⟨h1,h2,.inr ⟨b,o,rfl,g1,by omega,ak fun k hk=>?_⟩⟩;obtain⟨q,j,c,h5,h6⟩:=h4.out k hk;exact⟨q,j,c,h5.keep g2,ih _ (List.getElem_mem hk) h6⟩
theorem bX.mono {G H:Nat->Prop} {w:X} {e:Ex} {p:Option ag} {m:Nat} (hk:∀b,G b->b<w.heap.size->H b) (h:bX G w e p m):bX H w e p m:=bX.map (aj _) (fun b g hb=>⟨hk b g hb,rfl⟩) e h
abbrev Lo (B:Nat):Nat->Prop:=fun b=>b<B
abbrev In (w:X) (e:Ex) (p:Option ag) (m:Nat):Prop:=bX (Lo w.heap.size) w e p m
theorem bX.below {B:Nat} {w w2:X} {e:Ex} {p:Option ag} {m:Nat} (hb:af B w w2) (h:bX (Lo B) w e p m):bX (Lo B) w2 e p m:=bX.map hb.size (fun b g _=>⟨g,hb.block b g⟩) e h
theorem bX.all {G:Nat->Prop} {w:X} {e:Ex} {p:Option ag} {m:Nat} (h:bX G w e p m):In w e p m:=h.mono fun b _ hb=>hb
theorem bX.on {w w2:X} {e:Ex} {p:Option ag} {m:Nat} (hb:af w.heap.size w w2) (h:In w e p m):In w2 e p m:=(bX.below hb h).all
theorem bX.alloc {w:X} {e:Ex} {p:Option ag} {m:Nat} (o:Obj) (h:In w e p m):In (w.alloc o) e p m:=h.on ((Below.refl _ _).alloc (aj _) o)
theorem bX.len {G:Nat->Prop} {w:X} {o:Int} {s:ByteArray} {n:Int} {l:List Ex} {p:Option ag} {m:Nat} (h:bX G w (.mk o s n l) p m):l.length=m/\m<=9223372036854775807:=⟨(nI.1 h).1,(nI.1 h).2.1⟩
theorem bX.zero {G:Nat->Prop} {w:X} {o:Int} {s:ByteArray} {n:Int} {p:Option ag}:bX G w (.mk o s n []) p 0:=nI.2 ⟨rfl,by omega,.inl rfl⟩
theorem bX.kids {G:Nat->Prop} {w:X} {o:Int} {s:ByteArray} {n:Int} {l:List Ex} {p:Option ag} {m:Nat} (h:bX G w (.mk o s n l) p m) (hm:0<m):∃b o,p=A ⟨b,o,Y⟩/\G b/\b<w.heap.size/\Hid (∀k,(h:k<l.length)->∃p m c,iQ w b (o+k*4) l[k] p m c/\bX G w l[k] p m):=by
 rcases (nI.1 h).2.2 with h|h
 · omega
 · exact h
def Sz (e:Ex):Prop:=∀x∈pre e,x.s.size<=140737488355328
theorem Sz.kid {o:Int} {s:ByteArray} {n:Int} {l:List Ex} (h:Sz (.mk o s n l)) {x:Ex} (hx:x∈l):Sz x:=fun y hy=>h y (R7 hx hy)
theorem Sz.self {o:Int} {s:ByteArray} {n:Int} {l:List Ex} (h:Sz (.mk o s n l)):s.size<=140737488355328:=h _ (Sa _)
theorem zP {w:X} {x:Ex} {p:Option ag} {m c:Nat} {t:TypeId}:iQ (w.alloc (.cells #[.int .i64 x.o,.string x.s,.int .i64 x.n,.slice p m c] t)) w.heap.size 0 x p m c:=by
 exact zzy
def dR (w:X) (g:Nat) (o:Int) (s:ByteArray) (n:Int) (p:Option ag) (m c:Nat):Prop:=w.cell? ⟨g,0,Y⟩=A (.int .i64 o)/\w.cell? ⟨g,1,Y⟩=A (.string s)/\w.cell? ⟨g,2,Y⟩=A (.int .i64 n)/\w.cell? ⟨g,3,Y⟩=A (.slice p m c)
theorem dR.lt {w:X} {g:Nat} {o:Int} {s:ByteArray} {n:Int} {p:Option ag} {m c:Nat} (h:dR w g o s n p m c):g<w.heap.size:=block_lt h.1
theorem dR.on {w w2:X} {g:Nat} {o:Int} {s:ByteArray} {n:Int} {p:Option ag} {m c:Nat} (hb:af w.heap.size w w2) (h:dR w g o s n p m c):dR w2 g o s n p m c:=by
 have hg:=h.lt;exact zzm
theorem f_ {w:X} {o:Int} {s:ByteArray} {n:Int} {p:Option ag} {m c:Nat} {t:TypeId}:dR (w.alloc (.cells #[.int .i64 o,.string s,.int .i64 n,.slice p m c] t)) w.heap.size o s n p m c:=by
 have h:=zP (w:=w) (x:=.mk o s n []) (p:=p) (m:=m) (c:=c) (t:=t);obtain⟨h0,h1,h2,h3⟩:=h;simp only[Nat.zero_add] at h1 h2 h3;exact⟨h0,h1,h2,h3⟩
theorem dR.alloc {w:X} {g:Nat} {o:Int} {s:ByteArray} {n:Int} {p:Option ag} {m c:Nat} (ob:Obj) (h:dR w g o s n p m c):dR (w.alloc ob) g o s n p m c:=h.on ((Below.refl _ _).alloc (aj _) ob)
theorem Kr {o n:Int} {s:ByteArray} {l:List Ex}:dep (.mk o s n l)=jZ l+1:=by rw[dep]
theorem yu {o n:Int} {s:ByteArray} {l:List Ex}:cnt (.mk o s n l)=gq l+1:=by rw[cnt]
theorem Dj {o n:Int} {s:ByteArray} {l:List Ex}:pre (.mk o s n l)=.mk o s n l::eD l:=by rw[pre]
theorem WN {l:List Ex} (k:Nat) {x:Ex} (hx:x∈l) (h:gq l+1<=1000000):jZ (l.take k)<=1000000/\dep x<=1000000:=by
 have h1:=PX (.mk 0 ⟨#[]⟩ 0 l);have h2:=agW l k;have h3:=WO hx;rw[Kr,yu] at h1;omega
theorem agX {l:List Ex} (h:gq l+1<=1000000):jZ l<=1000000:=by
 have h1:=PX (.mk 0 ⟨#[]⟩ 0 l);rw[Kr,yu] at h1;omega
theorem PS {l:List Ex} (k:Nat) {x:Ex} (hx:l[k]?=A x) (h:gq l+1<=1000000):gq (l.take k)+cnt x<=1000000/\cnt x<=1000000:=by
 have h1:=PQ hx;have h2:=WB l (k+1);omega
end Ex
namespace Ex
open Go.ChangeShapes Go.WideShapes Go.ChangeAt Go.RowKit Go.Joins Go.Deep
section
variable {H:Type} {enc:TypeId×ah->H}
theorem aat {f:Func} {s:ChangeSpec} {W W':X} {args:Array ah} {b:Bool} {ds:List (DataW H)} {before:List MemPlace}
 (hW:DataW.Whole enc ae f.params.toList s.vars false W args.toList ds [] before)
 (hres:DataW.TrodAll enc ae W' W.heap.size (fun _=>false) false f.resultTypes.toList ((Value.bool b).resultList f.resultTypes.size) (s.fn H (ds++[])).results [])
 (hargs:DataW.TrodAll enc ae W' 0 (fun k=>decide (k<W.heap.size)) true f.params.toList args.toList (s.fn H (ds++[])).args before)
 (hvars:DataW.TrodVars enc ae W' (fun k=>decide (k<W.heap.size)) s.vars (s.fn H (ds++[])).vars [])
 (hb:af W.heap.size W W'):s.post enc ae f false true false false W args (.bool b) W':=
 ⟨ds,[],before,[],before,[],hW,hres,hargs,hvars,World.keptBut_mono (fun _ hp=>⟨hp,Or.inr (Or.inl hp)⟩) (hb.frame (· ∈ before)),fun h=>by cases h⟩
theorem own:ownKnob Tryz.prog.godebug=Y:=by kernel_rfl
theorem laidOut:laidOutB ae=true:=by kernel_rfl
theorem aeA {W W':X} {v:ah} {d:DataW H} {ps:List MemPlace} {t:TypeId} (hr:Tryz.prog.readableRec t=true) (ht:t<Tryz.prog.types.size) (h:DataW.Trod enc ae W 0 (fun _=>true) true t v d ps) (hb:af W.heap.size W W') (hlt:∀y∈ps,y.block<W.heap.size) :
 DataW.Trod enc ae W' 0 (fun k=>decide (k<W.heap.size)) true t v d ps:=Below.trod laidOut hr ht h hb hlt
theorem Qp:∃f0 f1 f2 f3:Field,Tryz.prog.underlying 25=A (.struct #[f0,f1,f2,f3])/\oneCellFields ae #[f0,f1,f2,f3]=true/\Tryz.prog.cellsOf 25=4 /\
 f0.type=22/\f1.type=9/\f2.type=3/\f3.type=23:=
 ⟨_,_,_,_,underlying25,by kernel_rfl,by kernel_rfl,rfl,rfl,rfl,rfl⟩
theorem air {l:List ah} (h:l.length=4):∃c0 c1 c2 c3,l=[c0,c1,c2,c3]:=by
 match l,h with
 | [c0,c1,c2,c3],_=>exact⟨c0,c1,c2,c3,rfl⟩
end
end Ex
namespace Ex
abbrev Nm:=List UInt8
end Ex
section
def okF (n d:Int):Bool:=decide (1<=d/\d<=1000000000000000/\-4611686018427387904<=n/\n<=4611686018427387904/\Nat.gcd n.natAbs d.natAbs=1)
def cut (n:Int) (d:Nat):Option (Int×Int):=if n.natAbs<=4611686018427387904/\d<=1000000000000000 then A (n,(d:Int)) else Y
def keep (r:Rat):Option (Int×Int):=cut r.num r.den
def qv (n d:Int):Rat:=mkRat n d.natAbs
def uN (n d:Int):Int:=if okF n d then n else 0
def uD (n d:Int):Int:=if okF n d then d else 1
def qz (n d:Int):Rat:=qv (uN n d) (uD n d)
end
section
open Go.RowKit
theorem nN {k:IntKind} {a b:Int} (h:a=b):Ending.returned (.int k a)=.returned (.int k b):=by rw[h]
theorem lC {a b:Bool} (h:a=b):Ending.returned (.bool a)=.returned (.bool b):=by rw[h]
def Quiet (v:ah) (w:X) (e:Ending) (w':X):Prop:=e=.returned v/\∃n,w'=w.drewN n
def Gives (v:ah) (w:X) (e:Ending) (w':X):Prop:=e=.returned v/\af w.heap.size w w'
theorem below_drewN {B:Nat} {a w:X} (h:af B a w) (n:Nat):af B a (w.drewN n):=⟨h.os,h.tape,h.output,h.size,h.block⟩
section
variable {a w w2:X}
theorem iJ {o:Obj} (h:af a.heap.size a w):af a.heap.size a (w.alloc o):=h.alloc h.size o
theorem uy {n:Nat} (h:af a.heap.size a w):af a.heap.size a (w.drewN n):=below_drewN h n
theorem qJ (h:af a.heap.size a w):af a.heap.size a w.drew:=h.drew
theorem yn {p:ag} (h:af a.heap.size a w) (hp:a.heap.size<=p.block) (u:ah):af a.heap.size a (w.setCell p u):=h.setCell hp u
theorem rF (h:af a.heap.size a w) (hb:af w.heap.size w w2):af a.heap.size a w2:=h.trans (hb.mono h.size)
end
def two (w:X) (b:Nat) (x y:ah):Prop:=w.cell? ⟨b,0,Y⟩=A x/\w.cell? ⟨b,1,Y⟩=A y/\w.frozen? ⟨b,0,Y⟩=false/\w.frozen? ⟨b,1,Y⟩=false/\b<w.heap.size
theorem two.call {w w2:X} {b:Nat} {x y:ah} (h:two w b x y) (hb:af w.heap.size w w2):two w2 b x y:=by
 obtain⟨h1,h2,h3,h4,h5⟩:=h;exact⟨(hb.cell (p:=⟨b,0,Y⟩) h5).trans h1,(hb.cell (p:=⟨b,1,Y⟩) h5).trans h2,(hb.frozen (p:=⟨b,0,Y⟩) h5).trans h3,(hb.frozen (p:=⟨b,1,Y⟩) h5).trans h4,av h5 hb.size⟩
theorem two.on {w w2:X} {b:Nat} {x y:ah} (hb:af w.heap.size w w2) (h:two w b x y):two w2 b x y:=h.call hb
theorem two.drew {w:X} {b:Nat} {x y:ah} (h:two w b x y):two w.drew b x y:=h
theorem two.drewN {w:X} {b:Nat} {x y:ah} (h:two w b x y) (n:Nat):two (w.drewN n) b x y:=h
theorem two.alloc {w:X} {b:Nat} {x y:ah} {o:Obj} (h:two w b x y):two (w.alloc o) b x y:=h.call ((Below.refl _ _).alloc (aj _) o)
theorem two.new {w:X} {x y:ah} {t:TypeId}:two (w.alloc (.cells #[x,y] t)) w.heap.size x y:=by
 refine⟨?_,?_,?_,?_,?_⟩ <;> first|(go_simp;done)|(simp;done)|(simp;omega)
theorem wJ {w:X} {g b o:Nat} {x y v:ah} (h:w.cell? ⟨b,o,Y⟩=A v) (hne:b≠g):((w.setCell ⟨g,0,Y⟩ x).setCell ⟨g,1,Y⟩ y).cell? ⟨b,o,Y⟩=A v:=by
 rw[World.cell?_setCell_other _ _ _ _ (fun e=>hne (by injection e with e;first|exact e|exact e.symm)),World.cell?_setCell_other _ _ _ _ (fun e=>hne (by injection e with e;first|exact e|exact e.symm))];exact h
theorem two.far {w:X} {g b:Nat} {x y u v:ah} (h:two w b u v) (hne:b≠g):two ((w.setCell ⟨g,0,Y⟩ x).setCell ⟨g,1,Y⟩ y) b u v:=by
 obtain⟨h1,h2,h3,h4,h5⟩:=h;refine⟨wJ h1 hne,wJ h2 hne,?_,?_,by simp[World.setCell];exact h5⟩
 · go_simp
 · go_simp
theorem bq {p:Prop} (h:p:=by(repeat (first|(with_reducible exact Below.refl _ _)|(with_reducible assumption)|(with_reducible apply iJ)|(with_reducible apply uy)|(with_reducible apply qJ)|(with_reducible refine yn ?_ (by first|(simp;done)|(simp;omega)) _)|(with_reducible refine rF ?_ (by assumption))))):p:=h
end
namespace Di
open Go.RowKit
def iB (lo n hi:Int):Bool:=decide (lo<=n)&&decide (n<=hi)
def rE (lo hi:Int) (V:Nat->Int):Nat->Bool
 | 0=>true
 | k+1=>rE lo hi V k&&iB lo (V k) hi
def qO (V W:Nat->Int):Nat->Bool
 | 0=>true
 | k+1=>qO V W k&&(V k==W k)
def mR (n m:Nat) (V W:Nat->Int):Bool:=n==m&&qO V W n
theorem aex {lo hi:Int} {V:Nat->Int} {k n:Nat} (h:rE lo hi V k=false) (hk:k<=n):rE lo hi V n=false:=by
 induction n with
 | zero => obtain rfl : k = 0 := by omega
           exact h
 | succ m ih=>
  by_cases e:k=m+1
  · subst e;exact h
  · show(rE lo hi V m&&_)=false
    rw[ih bT];rfl
theorem ahY {V W:Nat->Int} {k n:Nat} (h:qO V W k=false) (hk:k<=n):qO V W n=false:=by
 induction n with
 | zero => obtain rfl : k = 0 := by omega
           exact h
 | succ m ih=>
  by_cases e:k=m+1
  · subst e;exact h
  · show(qO V W m&&_)=false
    rw[ih bT];rfl
def Row (w:X) (p:Option ag) (n:Nat) (V:Nat->Int):Prop:=
 n<=9223372036854775807/\(n=0∨∃b o,p=A ⟨b,o,Y⟩/\b<w.heap.size/\Hid (∀i,i<n->w.cell? ⟨b,o+i,Y⟩=A (.int .i64 (V i))))
theorem Row.on {w w2:X} {p:Option ag} {n:Nat} {V:Nat->Int} (hb:af w.heap.size w w2) (h:Row w p n V):Row w2 p n V:=by
 obtain⟨hl,h|⟨b,o,rfl,h1,h2⟩⟩:=h
 · exact⟨hl,.inl h⟩
 · exact⟨hl,.inr ⟨b,o,rfl,av h1 hb.size,ak fun i hi=>(hb.cell (p:=⟨b,o+i,Y⟩) h1).trans (h2.out i hi)⟩⟩
theorem Row.alloc {w:X} {o:Obj} {p:Option ag} {n:Nat} {V:Nat->Int} (h:Row w p n V):Row (w.alloc o) p n V:=h.on ((Below.refl _ _).alloc (aj _) o)
theorem Row.drew {w:X} {p:Option ag} {n:Nat} {V:Nat->Int} (h:Row w p n V):Row w.drew p n V:=h
theorem Row.drewN {w:X} {p:Option ag} {n:Nat} {V:Nat->Int} (h:Row w p n V) (m:Nat):Row (w.drewN m) p n V:=h
theorem AA (x y z:Int) (w:X):ai ae 188 #[.int .i64 x,.int .i64 y,.int .i64 z] w fun e w'=>e=.returned (.bool (iB x y z))/\w=w':=by
 by_cases h1:x<=y <;> by_cases h2:y<=z
 all_goals
  go_enter func188,ntmps188
  go_wp2
  go_ret;exact⟨lC (by simp[iB, *]),rfl⟩
theorem aew {lo hi:Int} {V:Nat->Int} {k n:Nat} (h:k<n) (h2:iB lo (V k) hi=false):false=rE lo hi V n:=
 (aex (k:=k+1) (by show(_&&_)=false;rw[h2,Bool.and_false]) h).symm
theorem aey {lo hi:Int} {V:Nat->Int} {k:Nat} (h1:rE lo hi V k=true) (h2:iB lo (V k) hi=true):rE lo hi V (k+1)=true:=by
 show(_&&_)=true;rw[h1,h2];rfl
theorem OI (lo hi:Int) (p:Option ag) (n c:Nat) (V:Nat->Int) (w:X) (hR:Row w p n V):ai ae 189 #[.int .i64 lo,.slice p n c,.int .i64 hi] w fun e w'=>e=.returned (.bool (rE lo hi V n))/\w=w':=by
 obtain⟨hl,h|⟨b,o,rfl,hb,hc⟩⟩:=hR
 · subst h;go_enter func189,ntmps189;go_wp2_with fail;go_loop [11] (fun i=>i=.int .i64 0) (fun _=>0)
   case atStart=>rfl
   case round=>
    obtain rfl:=hrel;exact Ea
 · go_enter func189,ntmps189;go_wp2_with fail;go_loop [11] (fun i=>∃k:Nat,k<=n/\i=.int .i64 k/\Hid (rE lo hi V k=true)) (fun i=>n-(intOf i).toNat)
   case atStart=>exact⟨0,Nat.zero_le _,rfl,ak rfl⟩
   case round=>
    obtain⟨k,hk,rfl,HA⟩:=hrel;rcases Nat.lt_or_ge k n with h|h
    · have e1:=hc.out k h;have c1:(0:Int)<=(k:Int):=by omega
      have c2:(k:Int)<(n:Int):=by omega
      cases hi':iB lo (V k) hi
      · have H:=ak hi';clear hi';go_wp2_with fail;refine(AA _ _ _ _).mono ?_;rintro e w1 ⟨rfl,rfl⟩;rw[H.out];go_wp2_with fail;go_ret;exact⟨lC (aew h H.out),rfl⟩
      · have H:=ak hi';clear hi';go_wp2_with fail;refine(AA _ _ _ _).mono ?_;rintro e w1 ⟨rfl,rfl⟩;rw[H.out];go_wp2_with fail;go_round
        case rel=>exact⟨k+1,by omega,by go_num,ak (aey HA.out H.out)⟩
        case measure=>simp[intOf];omega
    · obtain rfl:n=k:=by omega
      go_wp2_with fail;go_ret;exact⟨lC HA.out.symm,rfl⟩
end Di
namespace Di
open Go.RowKit
theorem ahX {V W:Nat->Int} {k n:Nat} (h:k<n) (h2:(V k==W k)=false):qO V W n=false:=
 ahY (k:=k+1) (by show(_&&_)=false;rw[h2,Bool.and_false]) h
theorem ahZ {V W:Nat->Int} {k:Nat} (h1:qO V W k=true) (h2:(V k==W k)=true):qO V W (k+1)=true:=by
 show(_&&_)=true;rw[h1,h2];rfl
theorem X0 {V W:Nat->Int} {n:Nat}:mR n n V W=qO V W n:=by unfold mR;rw[beq_self_eq_true];rfl
theorem acn {p:Prop} (h:p:=by
 obtain⟨k,t,hk,rfl,rfl,HA⟩:=hrel;rcases Nat.lt_or_ge k n with h|h
 · have e1:=hc.out k h;have e2:=hc2.out k h;have c1:(0:Int)<=(k:Int):=by omega
   have c2:(k:Int)<(n:Int):=by omega
   have c3:IntKind.i64.wrap ((k:Int)+1)=((k+1:Nat):Int):=by rw[IntKind.wrap_i64];omega
   cases hi:(V k==W k)
   · have H:=ak hi;have hx:(V k != W k)=true:=by unfold bne;rw[hi];rfl
     clear hi;go_wp2_with fail
     go_quiet (fail)
     go_wp2_with fail;go_ret;exact⟨lC (ahX h H.out).symm,_,(by first|rfl|exact World.drewN_drewN _ _ _)⟩
   · have H:=ak hi;have hx:(V k != W k)=false:=by unfold bne;rw[hi];rfl
     clear hi;go_wp2_with fail
     go_quiet (fail)
     go_wp2_with fail;go_roundw
     case rel=>exact⟨k+1,_,by omega,by go_num,(by first|rfl|exact World.drewN_drewN _ _ _),ak (ahZ HA.out H.out)⟩
     case measure=>simp[intOf];omega
 · obtain rfl:n=k:=by omega
   go_wp2_with fail;go_ret;exact⟨lC HA.out.symm,_,rfl⟩
 ):p:=h
theorem aco {p:Prop} (h:p:=by
 subst h;go_enter func187,ntmps187;go_wp2_with fail;go_loop [13] (fun i=>i=.int .i64 0) (fun _=>0)
 case atStart=>rfl
 case round=>
  obtain rfl:=hrel;exact NS
 ):p:=h
theorem Qm (p q:Option ag) (n m c f:Nat) (V W:Nat->Int) (w:X) (hp:Row w p n V) (hq:Row w q m W):ai ae 187 #[.slice p n c,.slice q m f] w (Quiet (.bool (mR n m V W)) w):=by
 by_cases hnm:n=m
 · subst hnm;obtain⟨hl,h|⟨b,o,rfl,hb,hc⟩⟩:=hp
   · exact aco
   · obtain⟨-,h|⟨b2,o2,rfl,hb2,hc2⟩⟩:=hq
     · exact aco
     rw[X0];go_enter func187,ntmps187;go_wp2_with fail;go_loopw [13] (fun i wr=>∃k t:Nat,k<=n/\i=.int .i64 k/\wr=w.drewN t/\Hid (qO V W k=true)) (fun i _=>n-(intOf i).toNat)
     case atStart=>exact⟨0,0,Nat.zero_le _,rfl,rfl,ak rfl⟩
     case round=>
      exact acn
 · have hx:((n:Int) != (m:Int))=true:=by rw[bne_iff_ne];omega
   have hx2:(n != m)=true:=by rw[bne_iff_ne];exact hnm
   have hr:mR n m V W=false:=by unfold mR;rw[show(n==m)=false from by rw[beq_eq_false_iff_ne];exact hnm];rfl
   rw[hr];clear hr hp hq;go_enter func187,ntmps187;exact NS
theorem acp {p:Prop} (h:p:=by
 subst h;go_enter func64,ntmps64;go_wp2_with fail;go_loop [5] (fun i=>i=.int .i64 0) (fun _=>0)
 case atStart=>rfl
 case round=>
  obtain rfl:=hrel;exact NS
 ):p:=h
theorem Sk (p q:Option ag) (n m c f:Nat) (V W:Nat->Int) (w:X) (hp:Row w p n V) (hq:Row w q m W):ai ae 64 #[.slice p n c,.slice q m f] w (Quiet (.bool (mR n m V W)) w):=by
 by_cases hnm:n=m
 · subst hnm;obtain⟨hl,h|⟨b,o,rfl,hb,hc⟩⟩:=hp
   · exact acp
   · obtain⟨-,h|⟨b2,o2,rfl,hb2,hc2⟩⟩:=hq
     · exact acp
     rw[X0];go_enter func64,ntmps64;go_wp2_with fail;go_loopw [5] (fun i wr=>∃k t:Nat,k<=n/\i=.int .i64 k/\wr=w.drewN t/\Hid (qO V W k=true)) (fun i _=>n-(intOf i).toNat)
     case atStart=>exact⟨0,0,Nat.zero_le _,rfl,rfl,ak rfl⟩
     case round=>
      exact acn
 · have hx:((n:Int) != (m:Int))=true:=by rw[bne_iff_ne];omega
   have hx2:(n != m)=true:=by rw[bne_iff_ne];exact hnm
   have hr:mR n m V W=false:=by unfold mR;rw[show(n==m)=false from by rw[beq_eq_false_iff_ne];exact hnm];rfl
   rw[hr];clear hr hp hq;go_enter func64,ntmps64;exact NS
def qy (op a b n:Int) (lv lw:Nat) (V W:Nat->Int) (rR a2 b2 n2:Int) (nJ qV:Nat) (V2 W2:Nat->Int):Bool:=
 op==rR&&(a==a2&&(b==b2&&(n==n2&&(mR lv nJ V V2&&mR lw qV W W2))))
theorem xC (op a b n:Int) (p:Option ag) (lv c:Nat) (q:Option ag) (lw f:Nat) (V W:Nat->Int) (rR a2 b2 n2:Int) (p2:Option ag) (nJ c2:Nat) (q2:Option ag) (qV f2:Nat) (V2 W2:Nat->Int) (w:X) (hV:Row w p lv V) (hW:Row w q lw W) (hV2:Row w p2 nJ V2) (hW2:Row w q2 qV W2) :
 ai ae 158 #[.agg #[.int .i64 op,.int .i64 a,.int .i64 b,.int .i64 n,.slice p lv c,.slice q lw f],.agg #[.int .i64 rR,.int .i64 a2,.int .i64 b2,.int .i64 n2,.slice p2 nJ c2,.slice q2 qV f2]] w (Gives (.bool (qy op a b n lv lw V W rR a2 b2 n2 nJ qV V2 W2)) w):=by
 cases h0:(op==rR)
 · go_enter func158,ntmps158;go_wp2_with fail;go_ret;exact⟨lC (by simp only[qy,h0,Bool.false_and]),bq⟩
 cases h1:(a==a2)
 · go_enter func158,ntmps158;exact adR
 cases h2:(b==b2)
 · go_enter func158,ntmps158;exact adO
 cases h3:(n==n2)
 · go_enter func158,ntmps158;exact adN
 have hs:qy op a b n lv lw V W rR a2 b2 n2 nJ qV V2 W2=(mR lv nJ V V2&&mR lw qV W W2):=by simp only[qy,h0,h1,h2,h3,Bool.true_and]
 rw[hs]
 cases h4:mR lv nJ V V2
 · have H4:=ak h4;clear h4 hs;go_enter func158,ntmps158;go_wp2_with fail;refine(Qm p p2 lv nJ c c2 V V2 _ hV.alloc.alloc hV2.alloc.alloc).mono ?_;rintro e w1 ⟨rfl,t1,rfl⟩;rw[H4.out];exact NU
 · have H4:=ak h4;rw[Bool.true_and];clear h4 hs;go_enter func158,ntmps158;go_wp2_with fail;refine(Qm p p2 lv nJ c c2 V V2 _ hV.alloc.alloc hV2.alloc.alloc).mono ?_;rintro e w1 ⟨rfl,t1,rfl⟩;rw[H4.out];go_wp2_with fail;refine(Qm q q2 lw qV f f2 W W2 _ (hW.alloc.alloc.drewN t1) (hW2.alloc.alloc.drewN t1)).mono ?_;rintro e w1 ⟨rfl,t2,rfl⟩;exact NU
theorem Fs (op a b n:Int) (p:Option ag) (lv c:Nat) (q:Option ag) (lw f:Nat) (V W:Nat->Int) (rR a2 b2 n2:Int) (p2:Option ag) (nJ c2:Nat) (q2:Option ag) (qV f2:Nat) (V2 W2:Nat->Int) (w:X) (hV:Row w p lv V) (hW:Row w q lw W) (hV2:Row w p2 nJ V2) (hW2:Row w q2 qV W2) :
 ai ae 30 #[.agg #[.int .i64 op,.int .i64 a,.int .i64 b,.int .i64 n,.slice p lv c,.slice q lw f],.agg #[.int .i64 rR,.int .i64 a2,.int .i64 b2,.int .i64 n2,.slice p2 nJ c2,.slice q2 qV f2]] w (Gives (.bool (qy op a b n lv lw V W rR a2 b2 n2 nJ qV V2 W2)) w):=by
 cases h0:(op==rR)
 · go_enter func30,ntmps30;go_wp2_with fail;go_ret;exact⟨lC (by simp only[qy,h0,Bool.false_and]),bq⟩
 cases h1:(a==a2)
 · go_enter func30,ntmps30;exact adR
 cases h2:(b==b2)
 · go_enter func30,ntmps30;exact adO
 cases h3:(n==n2)
 · go_enter func30,ntmps30;exact adN
 have hs:qy op a b n lv lw V W rR a2 b2 n2 nJ qV V2 W2=(mR lv nJ V V2&&mR lw qV W W2):=by simp only[qy,h0,h1,h2,h3,Bool.true_and]
 rw[hs]
 cases h4:mR lv nJ V V2
 · have H4:=ak h4;clear h4 hs;go_enter func30,ntmps30;go_wp2_with fail;refine(Sk p p2 lv nJ c c2 V V2 _ hV.alloc.alloc hV2.alloc.alloc).mono ?_;rintro e w1 ⟨rfl,t1,rfl⟩;rw[H4.out];exact NU
 · have H4:=ak h4;rw[Bool.true_and];clear h4 hs;go_enter func30,ntmps30;go_wp2_with fail;refine(Sk p p2 lv nJ c c2 V V2 _ hV.alloc.alloc hV2.alloc.alloc).mono ?_;rintro e w1 ⟨rfl,t1,rfl⟩;rw[H4.out];go_wp2_with fail;refine(Sk q q2 lw qV f f2 W W2 _ (hW.alloc.alloc.drewN t1) (hW2.alloc.alloc.drewN t1)).mono ?_;rintro e w1 ⟨rfl,t2,rfl⟩;exact NU
end Di
namespace Di
open Go.RowKit
def six (w:X) (b:Nat) (x0 x1 x2 x3 x4 x5:ah):Prop:=
 w.cell? ⟨b,0,Y⟩=A x0/\w.cell? ⟨b,1,Y⟩=A x1/\w.cell? ⟨b,2,Y⟩=A x2/\w.cell? ⟨b,3,Y⟩=A x3/\w.cell? ⟨b,4,Y⟩=A x4/\w.cell? ⟨b,5,Y⟩=A x5/\b<w.heap.size
def S6 (b:Nat) (x0 x1 x2 x3 x4 x5:ah) (w:X):Prop:=
 w.cell? ⟨b,0,Y⟩=A x0/\w.cell? ⟨b,1,Y⟩=A x1/\w.cell? ⟨b,2,Y⟩=A x2/\w.cell? ⟨b,3,Y⟩=A x3/\w.cell? ⟨b,4,Y⟩=A x4/\w.cell? ⟨b,5,Y⟩=A x5
section
variable {w w2:X} {b:Nat} {x0 x1 x2 x3 x4 x5:ah}
theorem six.call (h:six w b x0 x1 x2 x3 x4 x5) (hb:af w.heap.size w w2):six w2 b x0 x1 x2 x3 x4 x5:=by
 obtain⟨h0,h1,h2,h3,h4,h5,h6⟩:=h;exact⟨(hb.cell (p:=⟨b,0,Y⟩) h6).trans h0,(hb.cell (p:=⟨b,1,Y⟩) h6).trans h1,(hb.cell (p:=⟨b,2,Y⟩) h6).trans h2,(hb.cell (p:=⟨b,3,Y⟩) h6).trans h3,
  (hb.cell (p:=⟨b,4,Y⟩) h6).trans h4,(hb.cell (p:=⟨b,5,Y⟩) h6).trans h5,av h6 hb.size⟩
theorem six.on (hb:af w.heap.size w w2) (h:six w b x0 x1 x2 x3 x4 x5):six w2 b x0 x1 x2 x3 x4 x5:=h.call hb
theorem six.drew (h:six w b x0 x1 x2 x3 x4 x5):six w.drew b x0 x1 x2 x3 x4 x5:=h
theorem six.drewN (h:six w b x0 x1 x2 x3 x4 x5) (n:Nat):six (w.drewN n) b x0 x1 x2 x3 x4 x5:=h
theorem six.alloc {o:Obj} (h:six w b x0 x1 x2 x3 x4 x5):six (w.alloc o) b x0 x1 x2 x3 x4 x5:=h.call ((Below.refl _ _).alloc (aj _) o)
theorem six.new {t:TypeId}:six (w.alloc (.cells #[x0,x1,x2,x3,x4,x5] t)) w.heap.size x0 x1 x2 x3 x4 x5:=by
 refine⟨?_,?_,?_,?_,?_,?_,?_⟩ <;> first|(go_simp;done)|(simp;done)|(simp;omega)
theorem six.keep (h:six w b x0 x1 x2 x3 x4 x5):w.cell? ⟨b,0,Y⟩=A x0/\w.cell? ⟨b,1,Y⟩=A x1/\w.cell? ⟨b,2,Y⟩=A x2/\w.cell? ⟨b,3,Y⟩=A x3/\w.cell? ⟨b,4,Y⟩=A x4/\w.cell? ⟨b,5,Y⟩=A x5:=
 ⟨h.1,h.2.1,h.2.2.1,h.2.2.2.1,h.2.2.2.2.1,h.2.2.2.2.2.1⟩
end
theorem Jh {p:Prop} (h:p:=by simp[results,results159,go_sem, *]):p:=h
theorem aoo (a b n:Int) (p:Option ag) (lv c:Nat) (q:Option ag) (lw f:Nat) (w:X):ai ae 159 #[.agg #[.int .i64 1,.int .i64 a,.int .i64 b,.int .i64 n,.slice p lv c,.slice q lw f]] w (Gives (.agg #[.int .i64 1,.int .i64 0,.int .i64 b,.int .i64 n,.slice p lv c,.slice q lw f]) w):=by
 go_enter func159,ntmps159;go_wp2_with fail;exact au (v:=.agg #[.int .i64 1,.int .i64 0,.int .i64 b,.int .i64 n,.slice p lv c,.slice q lw f]) Jh rfl ⟨rfl,bq⟩
theorem aop (a b n:Int) (p:Option ag) (lv c:Nat) (q:Option ag) (lw f:Nat) (w:X):ai ae 159 #[.agg #[.int .i64 2,.int .i64 a,.int .i64 b,.int .i64 n,.slice p lv c,.slice q lw f]] w (Gives (.agg #[.int .i64 2,.int .i64 0,.int .i64 0,.int .i64 n,.slice p lv c,.slice q lw f]) w):=by
 go_enter func159,ntmps159;go_wp2_with fail;exact au (v:=.agg #[.int .i64 2,.int .i64 0,.int .i64 0,.int .i64 n,.slice p lv c,.slice q lw f]) Jh rfl ⟨rfl,bq⟩
theorem aoq (a b n:Int) (p:Option ag) (lv c:Nat) (q:Option ag) (lw f:Nat) (w:X):ai ae 159 #[.agg #[.int .i64 3,.int .i64 a,.int .i64 b,.int .i64 n,.slice p lv c,.slice q lw f]] w (Gives (.agg #[.int .i64 3,.int .i64 a,.int .i64 b,.int .i64 n,.slice Y 0 0,.slice Y 0 0]) w):=by
 go_enter func159,ntmps159;go_wp2_with fail;exact au (v:=.agg #[.int .i64 3,.int .i64 a,.int .i64 b,.int .i64 n,.slice Y 0 0,.slice Y 0 0]) Jh rfl ⟨rfl,bq⟩
theorem aor (a b n:Int) (p:Option ag) (lv c:Nat) (q:Option ag) (lw f:Nat) (w:X):ai ae 159 #[.agg #[.int .i64 4,.int .i64 a,.int .i64 b,.int .i64 n,.slice p lv c,.slice q lw f]] w (Gives (.agg #[.int .i64 4,.int .i64 0,.int .i64 0,.int .i64 0,.slice p lv c,.slice q lw f]) w):=by
 go_enter func159,ntmps159;go_wp2_with fail;exact au (v:=.agg #[.int .i64 4,.int .i64 0,.int .i64 0,.int .i64 0,.slice p lv c,.slice q lw f]) Jh rfl ⟨rfl,bq⟩
theorem aos (a b n:Int) (p:Option ag) (lv c:Nat) (q:Option ag) (lw f:Nat) (w:X):ai ae 159 #[.agg #[.int .i64 5,.int .i64 a,.int .i64 b,.int .i64 n,.slice p lv c,.slice q lw f]] w (Gives (.agg #[.int .i64 5,.int .i64 0,.int .i64 0,.int .i64 n,.slice p lv c,.slice q lw f]) w):=by
 go_enter func159,ntmps159;go_wp2_with fail;exact au (v:=.agg #[.int .i64 5,.int .i64 0,.int .i64 0,.int .i64 n,.slice p lv c,.slice q lw f]) Jh rfl ⟨rfl,bq⟩
def Rp (n m:Nat):Int:=if n=m then (if n=0 then 7 else if 20<n then 6 else 0) else 8
theorem Ni {p:Prop} (h:p:=by
 go_enter func160,ntmps160;exact Ea
 ):p:=h
theorem Ik (n m:Nat) (w:X):ai ae 160 #[.int .i64 n,.int .i64 m] w fun e w'=>e=.returned (.int .i64 (Rp n m))/\w=w':=by
 unfold Rp;by_cases h:n=m
 · subst h;rw[if_pos rfl];by_cases h0:n=0
   · subst h0;rw[if_pos rfl];exact Ni
   · rw[if_neg h0];have h1:((n:Int)==0)=false:=by rw[beq_eq_false_iff_ne];omega
     by_cases h2:20<n
     · rw[if_pos h2];have h3:(20:Int)<(n:Int):=by omega
       clear h0;exact Ni
     · rw[if_neg h2];have h3:(n:Int)<=20:=by omega
       clear h0;exact Ni
 · rw[if_neg h];have h1:((n:Int) != (m:Int))=true:=by rw[bne_iff_ne];omega
   have h2:(n != m)=true:=by rw[bne_iff_ne];exact h
   exact Ni
theorem BH {p:Prop} (h:p:=by
 go_wp2_with fail
 (go_ret;exact⟨rfl,bq⟩)
 ):p:=h
theorem amj (a:Int) (x2 x3 x4 x5:ah) (w:X):ai ae 161 #[.agg #[.int .i64 1,.int .i64 a,x2,x3,x4,x5]] w (Gives (.bool (iB 0 a 1000000000)) w):=by
 go_enter func161,ntmps161;go_wp2_with fail;refine(AA _ _ _ _).mono ?_;rintro e w1 ⟨rfl,rfl⟩;exact BH
theorem Nh {p:Prop} (h:p:=by
 go_enter func161,ntmps161;go_wp2_with fail;refine(AA _ _ _ _).mono ?_;rintro e w1 ⟨rfl,rfl⟩;rw[H.out];exact BH
 ):p:=h
theorem amk (a b:Int) (x3 x4 x5:ah) (w:X):ai ae 161 #[.agg #[.int .i64 2,.int .i64 a,.int .i64 b,x3,x4,x5]] w (Gives (.bool (iB 0 a b&&decide (b<=1000000000))) w):=by
 cases h:iB 0 a b
 · have H:=ak h;clear h;rw[Bool.false_and];exact Nh
 · have H:=ak h;clear h;rw[Bool.true_and];exact Nh
theorem aml (x1 x2 x3:ah) (p:Option ag) (lv c:Nat) (q:Option ag) (lw f:Nat) (V W:Nat->Int) (w:X) (hV:Row w p lv V) (hW:Row w q lw W) :
 ai ae 161 #[.agg #[.int .i64 3,x1,x2,x3,.slice p lv c,.slice q lw f]] w (Gives (.bool (rE 0 1000000000 V lv&&rE 1 1000 W lw)) w):=by
 cases h:rE 0 1000000000 V lv
 · have H:=ak h;clear h;rw[Bool.false_and];go_enter func161,ntmps161;go_wp2_with fail;refine(OI _ _ _ _ _ V _ hV.alloc).mono ?_;rintro e w1 ⟨rfl,rfl⟩;rw[H.out];exact BH
 · have H:=ak h;clear h;rw[Bool.true_and];go_enter func161,ntmps161;go_wp2_with fail;refine(OI _ _ _ _ _ V _ hV.alloc).mono ?_;rintro e w1 ⟨rfl,rfl⟩;rw[H.out];go_wp2_with fail;refine(OI _ _ _ _ _ W _ hW.alloc).mono ?_;rintro e w1 ⟨rfl,rfl⟩;exact BH
theorem acr {p:Prop} (h:p:=by
 go_enter func161,ntmps161;go_wp2_with fail;refine(AA _ _ _ _).mono ?_;rintro e w1 ⟨rfl,rfl⟩;rw[H.out];go_wp2_with fail;refine(AA _ _ _ _).mono ?_;rintro e w1 ⟨rfl,rfl⟩;rw[H2.out];exact BH
 ):p:=h
theorem amm (a b n:Int) (x4 x5:ah) (w:X):ai ae 161 #[.agg #[.int .i64 4,.int .i64 a,.int .i64 b,.int .i64 n,x4,x5]] w (Gives (.bool (iB 1 n 20&&iB 0 a b&&decide (b<=1000000))) w):=by
 cases h:iB 1 n 20
 · have H:=ak h;clear h;rw[Bool.false_and,Bool.false_and];exact Nh
 · have H:=ak h;clear h;rw[Bool.true_and]
   cases h2:iB 0 a b
   · have H2:=ak h2;clear h2;rw[Bool.false_and];exact acr
   · have H2:=ak h2;clear h2;rw[Bool.true_and];exact acr
theorem amn (a b:Int) (x3 x4 x5:ah) (w:X):ai ae 161 #[.agg #[.int .i64 5,.int .i64 a,.int .i64 b,x3,x4,x5]] w (Gives (.bool (iB 1 a 1000&&iB 1 b 1000)) w):=by
 cases h:iB 1 a 1000
 · have H:=ak h;clear h;rw[Bool.false_and];exact Nh
 · have H:=ak h;clear h;rw[Bool.true_and];go_enter func161,ntmps161;go_wp2_with fail;refine(AA _ _ _ _).mono ?_;rintro e w1 ⟨rfl,rfl⟩;rw[H.out];go_wp2_with fail;refine(AA _ _ _ _).mono ?_;rintro e w1 ⟨rfl,rfl⟩;exact BH
theorem agi (op:Int) (x1 x2 x3 x4 x5:ah) (h:op<1∨5<op) (w:X):ai ae 111 #[.agg #[.int .i64 op,x1,x2,x3,x4,x5]] w (Gives (.int .i64 1) w):=by
 rcases h with h|h
 · have k1:decide (op<1)=true:=decide_eq_true h;go_enter func111,ntmps111;go_wp2_with fail
   go_quiet (fail)
   exact BH
 · have k1:decide (op<1)=false:=decide_eq_false bT;have k2:decide (5<op)=true:=decide_eq_true h;go_enter func111,ntmps111;go_wp2_with fail
   go_quiet (fail)
   exact BH
end Di
namespace Di
open Go.RowKit
def KH (op:Int) (u:Bool) (E:Int) (r:Bool):Int:=if u=true then (if op=3 then (if E=0 then (if r=true then 0 else 2) else E) else (if r=true then 0 else 2)) else 1
theorem acs {p:Prop} (h:p:=by
 go_enter func111,ntmps111;go_wp2_with fail;go_region_held3 (fun w'=>w'.cell? ⟨w.heap.size,0,Y⟩=A (.int .i64 3)/\w'.cell? ⟨w.heap.size,1,Y⟩=A (.int .i64 a)/\w'.cell? ⟨w.heap.size,2,Y⟩=A (.int .i64 b)/\w'.cell? ⟨w.heap.size,3,Y⟩=A (.int .i64 n)/\w'.cell? ⟨w.heap.size,4,Y⟩=A (.slice p lv c)/\w'.cell? ⟨w.heap.size,5,Y⟩=A (.slice q lw f)) (first|(with_reducible exact six.keep D2)|(with_reducible exact six.keep D1)|(with_reducible exact six.keep six.new.drew)|(with_reducible exact six.keep six.new)|(go_keep;done)) (first|(go_at_call 159;refine(U.out _).mono ?_;rintro e w1 ⟨rfl,hb1⟩;have D1:=six.on hb1 six.new.drew)|(go_at_call 158;refine(S.out _ bq).mono ?_;rintro e w2 ⟨rfl,hb2⟩;have D2:=six.on hb2 D1))
 all_goals
  obtain⟨d0,d1,d2,d3,d4,d5,d6⟩:=D2;have D2:six _ _ _ _ _ _ _ _:=⟨d0,d1,d2,d3,d4,d5,d6⟩
  go_wp2_with fail;refine(L.out _).mono ?_;rintro e w3 ⟨rfl,rfl⟩;go_wp2_with fail;refine(I.out _ bq).mono ?_;rintro e w4 ⟨rfl,hb4⟩;go_wp2_with fail;go_ret;exact⟨rfl,bq⟩
 ):p:=h
theorem acu {p:Prop} (h:p:=by
 go_enter func111,ntmps111;go_wp2_with fail;go_region_held3 (fun w'=>w'.cell? ⟨w.heap.size,0,Y⟩=A (.int .i64 op)/\w'.cell? ⟨w.heap.size,1,Y⟩=A (.int .i64 a)/\w'.cell? ⟨w.heap.size,2,Y⟩=A (.int .i64 b)/\w'.cell? ⟨w.heap.size,3,Y⟩=A (.int .i64 n)/\w'.cell? ⟨w.heap.size,4,Y⟩=A (.slice p lv c)/\w'.cell? ⟨w.heap.size,5,Y⟩=A (.slice q lw f)) (first|(with_reducible exact six.keep D2)|(with_reducible exact six.keep D1)|(with_reducible exact six.keep six.new.drew)|(with_reducible exact six.keep six.new)|(go_keep;done)) (first|(go_at_call 159;refine(U.out _).mono ?_;rintro e w1 ⟨rfl,hb1⟩;have D1:=six.on hb1 six.new.drew)|(go_at_call 158;refine(S.out _ bq).mono ?_;rintro e w2 ⟨rfl,hb2⟩;have D2:=six.on hb2 D1))
 all_goals
  obtain⟨d0,d1,d2,d3,d4,d5,d6⟩:=D2;have D2:six _ _ _ _ _ _ _ _:=⟨d0,d1,d2,d3,d4,d5,d6⟩
  go_wp2_with fail;refine(I.out _ bq).mono ?_;rintro e w4 ⟨rfl,hb4⟩;go_wp2_with fail;go_ret;exact⟨rfl,bq⟩
 ):p:=h
theorem GG (op a b n:Int) (p:Option ag) (lv c:Nat) (q:Option ag) (lw f:Nat) (k1:decide (op<1)=false) (k5:decide (5<op)=false) (x:ah) (u r:Bool) (E:Int) (w:X)
 (U:Hid (∀w2,ai ae 159 #[.agg #[.int .i64 op,.int .i64 a,.int .i64 b,.int .i64 n,.slice p lv c,.slice q lw f]] w2 (Gives x w2)))
 (S:Hid (∀w2,af w.heap.size w w2->ai ae 158 #[x,.agg #[.int .i64 op,.int .i64 0,.int .i64 0,.int .i64 0,.slice Y 0 0,.slice Y 0 0]] w2 (Gives (.bool u) w2)))
 (I:Hid (∀w2,af w.heap.size w w2->ai ae 161 #[.agg #[.int .i64 op,.int .i64 a,.int .i64 b,.int .i64 n,.slice p lv c,.slice q lw f]] w2 (Gives (.bool r) w2)))
 (L:Hid (∀w2,ai ae 160 #[.int .i64 lv,.int .i64 lw] w2 fun e w'=>e=.returned (.int .i64 E)/\w2=w')) :
 ai ae 111 #[.agg #[.int .i64 op,.int .i64 a,.int .i64 b,.int .i64 n,.slice p lv c,.slice q lw f]] w (Gives (.int .i64 (KH op u E r)) w):=by
 unfold KH;cases u
 · rw[if_neg bR];go_enter func111,ntmps111;go_wp2_with fail;go_region_held3 (fun w'=>w'.cell? ⟨w.heap.size,0,Y⟩=A (.int .i64 op)/\w'.cell? ⟨w.heap.size,1,Y⟩=A (.int .i64 a)/\w'.cell? ⟨w.heap.size,2,Y⟩=A (.int .i64 b)/\w'.cell? ⟨w.heap.size,3,Y⟩=A (.int .i64 n)/\w'.cell? ⟨w.heap.size,4,Y⟩=A (.slice p lv c)/\w'.cell? ⟨w.heap.size,5,Y⟩=A (.slice q lw f)) (first|(with_reducible exact six.keep D2)|(with_reducible exact six.keep D1)|(with_reducible exact six.keep six.new.drew)|(with_reducible exact six.keep six.new)|(go_keep;done)) (first|(go_at_call 159;refine(U.out _).mono ?_;rintro e w1 ⟨rfl,hb1⟩;have D1:=six.on hb1 six.new.drew)|(go_at_call 158;refine(S.out _ bq).mono ?_;rintro e w2 ⟨rfl,hb2⟩;have D2:=six.on hb2 D1))
   all_goals
    go_wp2_with fail;go_ret;exact⟨rfl,bq⟩
 · rw[if_pos rfl];by_cases h3:op=3
   · subst h3;rw[if_pos rfl];by_cases hE:E=0
     · subst hE;rw[if_pos rfl];cases r
       · rw[if_neg bR];exact acs
       · rw[if_pos rfl];exact acs
     · rw[if_neg hE];have hE2:(E != 0)=true:=by rw[bne_iff_ne];exact hE
       clear hE;go_enter func111,ntmps111;go_wp2_with fail;go_region_held3 (fun w'=>w'.cell? ⟨w.heap.size,0,Y⟩=A (.int .i64 3)/\w'.cell? ⟨w.heap.size,1,Y⟩=A (.int .i64 a)/\w'.cell? ⟨w.heap.size,2,Y⟩=A (.int .i64 b)/\w'.cell? ⟨w.heap.size,3,Y⟩=A (.int .i64 n)/\w'.cell? ⟨w.heap.size,4,Y⟩=A (.slice p lv c)/\w'.cell? ⟨w.heap.size,5,Y⟩=A (.slice q lw f)) (first|(with_reducible exact six.keep D2)|(with_reducible exact six.keep D1)|(with_reducible exact six.keep six.new.drew)|(with_reducible exact six.keep six.new)|(go_keep;done)) (first|(go_at_call 159;refine(U.out _).mono ?_;rintro e w1 ⟨rfl,hb1⟩;have D1:=six.on hb1 six.new.drew)|(go_at_call 158;refine(S.out _ bq).mono ?_;rintro e w2 ⟨rfl,hb2⟩;have D2:=six.on hb2 D1))
       all_goals
        obtain⟨d0,d1,d2,d3,d4,d5,d6⟩:=D2;have D2:six _ _ _ _ _ _ _ _:=⟨d0,d1,d2,d3,d4,d5,d6⟩
        go_wp2_with fail;refine(L.out _).mono ?_;rintro e w3 ⟨rfl,rfl⟩;go_wp2_with fail;go_ret;exact⟨rfl,bq⟩
   · rw[if_neg h3];have h4:(op==3)=false:=by rw[beq_eq_false_iff_ne];exact h3
     clear h3;cases r
     · rw[if_neg bR];exact acu
     · rw[if_pos rfl];exact acu
def M7 (op a b n:Int) (lv lw:Nat):Bool:=
 if op=1 then b==0&&(n==0&&(lv==0&&lw==0))
 else if op=2 then n==0&&(lv==0&&lw==0)
 else if op=3 then a==0&&(b==0&&n==0)
 else if op=4 then lv==0&&lw==0
 else if op=5 then n==0&&(lv==0&&lw==0)
 else false
def amo (op a b n:Int) (lv lw:Nat) (V W:Nat->Int):Bool:=
 if op=1 then iB 0 a 1000000000
 else if op=2 then iB 0 a b&&decide (b<=1000000000)
 else if op=3 then rE 0 1000000000 V lv&&rE 1 1000 W lw
 else if op=4 then iB 1 n 20&&iB 0 a b&&decide (b<=1000000)
 else iB 1 a 1000&&iB 1 b 1000
def Cm (op a b n:Int) (lv lw:Nat) (V W:Nat->Int):Int:=KH op (M7 op a b n lv lw) (Rp lv lw) (amo op a b n lv lw V W)
theorem X3 (m:Nat) (V Z:Nat->Int):mR m 0 V Z=(m==0):=by
 unfold mR
 cases h:(m==0)
 · rfl
 · rw[beq_iff_eq.1 h];rfl
theorem rX (w:X) (V:Nat->Int):Row w Y 0 V:=⟨Nat.zero_le _,.inl rfl⟩
theorem IU (op a b n rR a2 b2 n2:Int) (lv lw:Nat) (V W Z:Nat->Int):qy op a b n lv lw V W rR a2 b2 n2 0 0 Z Z=(op==rR&&(a==a2&&(b==b2&&(n==n2&&(lv==0&&lw==0))))):=by
 unfold qy;rw[X3,X3]
def Z0 (_:Nat):Int:=0
theorem nZ (op a b n:Int) (p:Option ag) (lv c:Nat) (q:Option ag) (lw f:Nat) (V W:Nat->Int) (w:X) (hV:Row w p lv V) (hW:Row w q lw W):ai ae 111 #[.agg #[.int .i64 op,.int .i64 a,.int .i64 b,.int .i64 n,.slice p lv c,.slice q lw f]] w (Gives (.int .i64 (Cm op a b n lv lw V W)) w):=by
 by_cases ho:op<1∨5<op
 · have e:Cm op a b n lv lw V W=1:=by
    have:M7 op a b n lv lw=false:=by unfold M7;rw[if_neg bT,if_neg bT,if_neg bT,if_neg bT,if_neg bT]
    unfold Cm KH;rw[this];rfl
   rw[e];exact agi op _ _ _ _ _ ho w
 · have h:op=1∨op=2∨op=3∨op=4∨op=5:=by omega
   clear ho;rcases h with rfl|rfl|rfl|rfl|rfl
   · have S1:=fun(w2:X) (hb:af w.heap.size w w2)=>xC 1 0 b n p lv c q lw f V W 1 0 0 0 Y 0 0 Y 0 0 Z0 Z0 w2 (hV.on hb) (hW.on hb) (rX _ _) (rX _ _);simp only[IU] at S1;exact GG 1 a b n p lv c q lw f bR bR _ _ _ _ w (ak (aoo a b n p lv c q lw f)) (ak S1) (ak fun w2 _=>amj a _ _ _ _ w2) (ak (Ik lv lw))
   · have S1:=fun(w2:X) (hb:af w.heap.size w w2)=>xC 2 0 0 n p lv c q lw f V W 2 0 0 0 Y 0 0 Y 0 0 Z0 Z0 w2 (hV.on hb) (hW.on hb) (rX _ _) (rX _ _);simp only[IU] at S1;exact GG 2 a b n p lv c q lw f bR bR _ _ _ _ w (ak (aop a b n p lv c q lw f)) (ak S1) (ak fun w2 _=>amk a b _ _ _ w2) (ak (Ik lv lw))
   · have S1:=fun(w2:X) (_:af w.heap.size w w2)=>xC 3 a b n Y 0 0 Y 0 0 Z0 Z0 3 0 0 0 Y 0 0 Y 0 0 Z0 Z0 w2 (rX _ _) (rX _ _) (rX _ _) (rX _ _);have e:M7 3 a b n lv lw=qy 3 a b n 0 0 Z0 Z0 3 0 0 0 0 0 Z0 Z0:=by
      rw[IU];show(a==0&&(b==0&&n==0))=_
      simp
     unfold Cm;rw[e];exact GG 3 a b n p lv c q lw f bR bR _ _ _ _ w (ak (aoq a b n p lv c q lw f)) (ak S1) (ak fun w2 hb=>aml _ _ _ p lv c q lw f V W w2 (hV.on hb) (hW.on hb)) (ak (Ik lv lw))
   · have S1:=fun(w2:X) (hb:af w.heap.size w w2)=>xC 4 0 0 0 p lv c q lw f V W 4 0 0 0 Y 0 0 Y 0 0 Z0 Z0 w2 (hV.on hb) (hW.on hb) (rX _ _) (rX _ _);simp only[IU] at S1;exact GG 4 a b n p lv c q lw f bR bR _ _ _ _ w (ak (aor a b n p lv c q lw f)) (ak S1) (ak fun w2 _=>amm a b n _ _ w2) (ak (Ik lv lw))
   · have S1:=fun(w2:X) (hb:af w.heap.size w w2)=>xC 5 0 0 n p lv c q lw f V W 5 0 0 0 Y 0 0 Y 0 0 Z0 Z0 w2 (hV.on hb) (hW.on hb) (rX _ _) (rX _ _);simp only[IU] at S1;exact GG 5 a b n p lv c q lw f bR bR _ _ _ _ w (ak (aos a b n p lv c q lw f)) (ak S1) (ak fun w2 _=>amn a b _ _ _ w2) (ak (Ik lv lw))
end Di
end Go.Proofs.YtkpekhpgdajabaaGreatDoor
