/-
  Parts of this proof: Words for the reader of tokens in memory, and fo. The contracts of the reader's single steps. The contracts of the reader's tests. The contracts of the reader's small rules. The contracts of the reader's rules for records . Lists that a rule makes. The contract of the reader's pairs. The contract of the reader's argument.
-/
import Derived.Test.YtbgodajefaahdaaGreatDoorYTMath
import Derived.Test.YtbgodajefaahdaaGreatDoorYQSml
import Derived.Test.YtbgodajefaahdaaGreatDoorYQOwn
open Go.Lib renaming hid->U
open Go renaming World->X,Value->af,bodyPost_ret->ag,results_cell_row->ai,Calls->au,TypeId->ax
open Go.Proofs.Tryz renaming prog->ae
open Option renaming none->D,some->aj
open Go.RowKit renaming Hid->E
open Go.World renaming frozen?->ah
open Nat renaming le_refl->ak,lt_of_lt_of_le->av
set_option linter.unusedVariables false
open Go.Lib (hid)
namespace Go.Proofs.YtbgodajefaahdaaGreatDoor
namespace Ps
open Ps.P (rt fl bd acc see kd len)
open Go.RowKit
open Lx (Tk mt j4)
open Ex (ji wF qB)
open Md (Big bT)
set_option maxHeartbeats 2000000
structure bR (S:Nat->Prop) (a w:X):Prop where
 os:w.os=a.os
 tape:w.tape=a.tape
 output:w.output=a.output
 size:a.heap.size<=w.heap.size
 block:∀k,k<a.heap.size->S k->w.heap[k]?=a.heap[k]?
section
variable {S S':Nat->Prop} {a w w2:X}
theorem bR.refl (S:Nat->Prop) (w:X):bR S w w:=⟨rfl,rfl,rfl,ak _,fun _ _ _=>rfl⟩
theorem bR.trans (h:bR S a w) (g:bR S w w2):bR S a w2:=⟨g.os.trans h.os,g.tape.trans h.tape,g.output.trans h.output,Nat.le_trans h.size g.size,fun k hk hs=>(g.block k (av hk h.size) hs).trans (h.block k hk hs)⟩
theorem bR.call (h:bR S a w) (g:bR S' w w2) (hs:∀k,k<a.heap.size->S k->S' k):bR S a w2:=⟨g.os.trans h.os,g.tape.trans h.tape,g.output.trans h.output,Nat.le_trans h.size g.size,fun k hk hsk=>(g.block k (av hk h.size) (hs k hk hsk)).trans (h.block k hk hsk)⟩
theorem bR.of (h:Below a.heap.size a w):bR S a w:=⟨h.os,h.tape,h.output,h.size,fun k hk _=>h.block k hk⟩
theorem bR.below (h:bR S a w) (g:Below w.heap.size w w2):bR S a w2:=h.trans (bR.of g)
theorem bR.alloc {o:Obj} (h:bR S a w):bR S a (w.alloc o):=h.below (ji (Below.refl _ _))
theorem bR.drew (h:bR S a w):bR S a w.drew:=h.below (qB (Below.refl _ _))
theorem bR.drewN {n:Nat} (h:bR S a w):bR S a (w.drewN n):=h.below (wF (Below.refl _ _))
theorem bR.set {p:Addr} {v:af} (h:bR S a w) (hp:a.heap.size<=p.block∨¬S p.block):bR S a (w.setCell p v):=by
 refine h.call (S':=fun k=>k≠p.block) ⟨rfl,rfl,rfl,by show _<=(w.heap.modify _ _).size;rw[Array.size_modify];exact ak _,fun k hk hb=>by show(w.heap.modify _ _)[k]?=_;rw[Array.getElem?_modify,if_neg (fun e=>hb e.symm)]⟩ ?_;intro k hk hs e;rcases hp with hp|hp
 · omega
 · exact hp (e▸hs)
theorem af1 {p:Prop} (h:p:=by first|(left;simp;done)|(left;simp;omega)|(right;simp;done)|(right;simp;omega)):p:=h
theorem qe {p:Prop} (h:p:=by(repeat (first|(with_reducible exact bR.refl _ _)|(with_reducible assumption)|(with_reducible apply bR.alloc)|(with_reducible apply bR.drewN)|(with_reducible apply bR.drew)|(with_reducible refine bR.set ?_ af1)|(with_reducible refine bR.call ?_ (by assumption) (by intro k hk hs;first|exact hs|((try dsimp only at hs ⊢);omega)))))):p:=h
theorem qh {p:Prop} (h:p:=by have bU:=HB.out;(repeat (first|(with_reducible exact bR.refl _ _)|(with_reducible assumption)|(with_reducible apply bR.alloc)|(with_reducible apply bR.drewN)|(with_reducible apply bR.drew)|(with_reducible refine bR.set ?_ af1)|(with_reducible refine bR.call ?_ (by assumption) (by intro k hk hs;first|exact hs|((try dsimp only at hs ⊢);omega)))))):p:=h
theorem bR.mono (h:bR S a w) (hs:∀k,k<a.heap.size->S' k->S k):bR S' a w:=⟨h.os,h.tape,h.output,h.size,fun k hk hk2=>h.block k hk (hs k hk hk2)⟩
end
abbrev Bt (g:Nat) (a w:X):Prop:=bR (fun k=>k≠g) a w
abbrev Up (lo:Nat) (a w:X):Prop:=bR (fun k=>lo<=k) a w
abbrev Lw (g:Nat) (a w:X):Prop:=bR (fun k=>k<=g) a w
theorem df {w:X} {g i:Nat} {t:ax} {c:Array af} (h:bT w g t c):w.frozen? ⟨g,i,D⟩=false:=by
 unfold ah;rw[show w.heap[(⟨g,i,D⟩:Addr).block]?=_ from h];simp
theorem fq {w:X} {g i:Nat} {t:ax} {c:Array af} {v:af} (h:bT w g t c):bT (w.setCell ⟨g,i,D⟩ v) g t (c.setIfInBounds i v):=by
 unfold bT at h ⊢
 show(w.heap.modify g _)[g]?=_
 rw[Array.getElem?_modify,if_pos rfl,h];rfl
theorem fA {w w2:X} {g:Nat} {t:ax} {c:Array af} {S:Nat->Prop} (h:bT w g t c) (hb:bR S w w2) (hs:S g):bT w2 g t c:=h.keep (hb.block g h.lt hs)
theorem aq0 {w:X} {g:Nat} {t:ax} {z c:Array af} (h:bT w g t z):bT (w.setRow g c) g t c:=by
 unfold bT at h ⊢
 show(w.heap.modify g _)[g]?=_
 rw[Array.getElem?_modify,if_pos rfl,h];rfl
theorem aq1 {w:X} {g:Nat} {c:Array af}:Bt g w (w.setRow g c):=⟨rfl,rfl,rfl,by show _<=(w.heap.modify _ _).size;rw[Array.size_modify];exact ak _,fun k hk hb=>by show(w.heap.modify _ _)[k]?=_;rw[Array.getElem?_modify,if_neg (fun e=>hb e.symm)]⟩
theorem ai8 {w w2:X} {b g:Nat} {t:ax} {c:Array af} (h:bT w b t c) (hb:Bt g w w2) (hn:¬b=g):bT w2 b t c:=h.keep (hb.block b h.lt hn)
theorem bS {w w2:X} {b:Nat} {t:ax} {c:Array af} (h:bT w b t c) (hb:bR (fun k=>k=b) w w2):bT w2 b t c:=h.keep (hb.block b h.lt rfl)
structure Put (t:ax) (g:Nat) (c:Array af) (w W:X):Prop where
 var:(storeVar t ⟨g,0,D⟩ (.agg c)).run ae w=.ok () W
 adr:(Instr.storeAt t (.pointer (aj ⟨g,0,D⟩)) (.agg c)).run ae w=.ok () W
 box:bT W g t c
 bt:Bt g w W
 size:W.heap.size=w.heap.size
theorem gM {w:X} {g:Nat} {t:ax} {z c:Array af} (h:bT w g t z) (ht:Big t c.size) (h1:c.all (·.oneCell')=true) (hz:z.size=c.size):∃W,Put t g c w W:=by
 have hv:=run_storeVar_row (P:=ae) w g t t z c h ht.2 hz h1;refine⟨w.setRow g c,hv,?_,aq0 h,aq1,?_⟩
 · simp only[Instr.storeAt,Instr.sureAddr,Sem.run_bind,Sem.run_pure,Result.andThen];exact hv
 · show(w.heap.modify _ _).size=_
   rw[Array.size_modify]
theorem Put.cells {w W:X} {g:Nat} {t:ax} {c:Array af} {l:List af} (h:Put t g c w W) (hz:(Tryz.prog.info? t).map (·.size)=aj c.size) (hl:c.toList=l):(storeCells ⟨g,0,D⟩ l 0).run ae w=.ok () W:=by
 subst hl;have:=h.var
 cases hq:Tryz.prog.info? t with
 | none=>simp[hq] at hz
 | some i=>
  have hs:c.size=i.size:=by simp[hq] at hz;omega
  simpa [storeVar,sizeOf,typeInfo,hq,Value.cells,hs] using this
structure Lk where
 b:Nat
 o:Nat
 m:Nat
 c:Nat
 l:List Tk
def Lk.at (L:Lk) (t:List Tk):Nat:=L.l.length-t.length
def Vq (L:Lk) (t:List Tk):Array af:=#[.slice (aj ⟨L.b,L.o,D⟩) L.m L.c,.int .i64 ((L.at t:Nat):Int)]
structure Rd (L:Lk) (g:Nat) (t:List Tk) (w:X):Prop where
 lt:L.b<g
 box:bT w g 140 (Vq L t)
 drop:L.l.drop (L.at t)=t
 toks:j4 w (aj ⟨L.b,L.o,D⟩) L.m L.l
 gd:Gd t
 few:L.l.length<=30000
theorem ase {w w2:X} {b o m g:Nat} {l:List Tk} (h:j4 w (aj ⟨b,o,D⟩) m l) (hb:Lw g w w2) (hg:b<=g):j4 w2 (aj ⟨b,o,D⟩) m l:=by
 obtain⟨e1,e2,e3|⟨b',o',e,hlt,hc⟩⟩:=h
 · exact⟨e1,e2,.inl e3⟩
 · cases e
   have hk:∀(k:Nat),w2.cell? ⟨b,k,D⟩=w.cell? ⟨b,k,D⟩:=fun k=>World.cell?_of_block (a:=⟨b,k,D⟩) (hb.block b hlt hg);exact⟨e1,e2,.inr ⟨b,o,rfl,av hlt hb.size,U fun i hi=>by
    obtain⟨q0,q1,q2,q3⟩:=hc.out i hi;exact⟨(hk _).trans q0,(hk _).trans q1,(hk _).trans q2,(hk _).trans q3⟩⟩⟩
theorem Rd.low {L:Lk} {g:Nat} {t:List Tk} {w w2:X} (h:Rd L g t w) (hb:Lw g w w2):Rd L g t w2:=⟨h.lt,h.box.keep (hb.block g h.box.lt (ak _)),h.drop,ase h.toks hb (Nat.le_of_lt h.lt),h.gd,h.few⟩
theorem Rd.len {L:Lk} {g:Nat} {t:List Tk} {w:X} (h:Rd L g t w):L.at t+t.length=L.l.length/\L.l.length=L.m/\L.at t<L.m:=by
 have h1:=h.gd.ne;have h2:t.length<=L.l.length:=by
  have:=congrArg List.length h.drop;rw[List.length_drop] at this;unfold Lk.at at this;omega
 have h3:=h.toks.1;unfold Lk.at;omega
theorem Rd.blk {L:Lk} {g:Nat} {t:List Tk} {w:X} (h:Rd L g t w):g<w.heap.size:=h.box.lt
theorem Rd.small {L:Lk} {g:Nat} {t:List Tk} {w:X} (h:Rd L g t w):t.length<=30000:=by have h1:=h.len;have h2:=h.few;omega
theorem Rd.fu {L:Lk} {g:Nat} {t:List Tk} {w:X} (h:Rd L g t w):t.length<FU:=by have:=h.small;unfold FU;omega
theorem Rd.tok {L:Lk} {g:Nat} {t:List Tk} {w:X} (h:Rd L g t w):Lx.jQ w L.b (L.o+L.at t*4) (hd t):=by
 obtain⟨h1,h2,h3⟩:=h.len;obtain⟨e1,e2,e3|⟨b,o,e,hb,hc⟩⟩:=h.toks
 · omega
 · cases e
   have:=hc.out (L.at t) (by omega);have e:L.l[L.at t]'(by omega)=hd t:=by
    have h4:=h.drop;rw[List.drop_eq_getElem_cons (by omega)] at h4;exact congrArg (fun z:List Tk=>z.headD ⟨0,mt,0,0⟩) h4
   rwa [e] at this
theorem Rd.c0 {L:Lk} {g:Nat} {t:List Tk} {w:X} (h:Rd L g t w):w.cell? ⟨g,0,D⟩=aj (.slice (aj ⟨L.b,L.o,D⟩) L.m L.c):=h.box.get rfl
theorem Rd.c1 {L:Lk} {g:Nat} {t:List Tk} {w:X} (h:Rd L g t w):w.cell? ⟨g,1,D⟩=aj (.int .i64 ((L.at t:Nat):Int)):=h.box.get rfl
theorem Rd.tZ {L:Lk} {g i:Nat} {t:List Tk} {w:X} (h:Rd L g t w):w.frozen? ⟨g,i,D⟩=false:=by
 unfold ah;rw[show w.heap[(⟨g,i,D⟩:Addr).block]?=_ from h.box];simp
theorem Rd.step {L:Lk} {g:Nat} {t:List Tk} {w:X} (h:Rd L g t w) (hk:¬(hd t).k=0):Rd L g t.tail (w.setCell ⟨g,1,D⟩ (.int .i64 ((L.at t:Nat)+1:Int))):=by
 obtain⟨h1,h2,h3⟩:=h.len;obtain⟨g1,g2⟩:=h.gd.tail hk;have ha:L.at t.tail=L.at t+1:=by unfold Lk.at at h1 ⊢; omega
 have hlt:=h.lt;refine⟨h.lt,?_,?_,?_,g1,h.few⟩
 · have hb:=h.box;unfold bT at hb ⊢
   show(w.heap.modify g _)[g]?=_
   rw[Array.getElem?_modify,if_pos rfl,hb];unfold Vq;rw[ha];rfl
 · rw[ha,← List.drop_drop,h.drop,List.drop_one]
 · obtain⟨e1,e2,e3|⟨b,o,e,hb,hc⟩⟩:=h.toks
   · exact⟨e1,e2,.inl e3⟩
   · cases e
     have hbl:bR (fun k=>k≠g) w (w.setCell ⟨g,1,D⟩ (.int .i64 ((L.at t:Nat)+1:Int))):=bR.set (bR.refl _ _) (.inr fun h=>h rfl);have hk:∀(k:Nat),(w.setCell ⟨g,1,D⟩ (.int .i64 ((L.at t:Nat)+1:Int))).cell? ⟨L.b,k,D⟩=w.cell? ⟨L.b,k,D⟩:=fun k=>World.cell?_of_block (a:=⟨L.b,k,D⟩) (hbl.block L.b hb (by omega));exact⟨e1,e2,.inr ⟨L.b,L.o,rfl,av hb hbl.size,U fun i hi=>by
      obtain⟨q0,q1,q2,q3⟩:=hc.out i hi;exact⟨(hk _).trans q0,(hk _).trans q1,(hk _).trans q2,(hk _).trans q3⟩⟩⟩
theorem Su {g j:Nat} {w:X} {v:af}:Bt g w (w.setCell ⟨g,j,D⟩ v):=bR.set (bR.refl _ _) (.inr fun h=>h rfl)
theorem ZN {w:X} {g:Nat} {t:ax} {z:Array af} {a b:af} (h:bT w g t z) (hz:z.size=2):bT ((w.setCell ⟨g,0,D⟩ a).setCell ⟨g,1,D⟩ b) g t #[a,b]:=by
 obtain⟨x0,x1,rfl⟩:∃x0 x1,z=#[x0,x1]:=by
  match z,hz with
  | ⟨[x0,x1]⟩,_=>exact⟨x0,x1,rfl⟩
 exact fq (fq h)
theorem Ni {w:X} {g:Nat} {t:ax} {z:Array af} {a b c:af} (h:bT w g t z) (hz:z.size=3):bT (((w.setCell ⟨g,0,D⟩ a).setCell ⟨g,1,D⟩ b).setCell ⟨g,2,D⟩ c) g t #[a,b,c]:=by
 obtain⟨x0,x1,x2,rfl⟩:∃x0 x1 x2,z=#[x0,x1,x2]:=by
  match z,hz with
  | ⟨[x0,x1,x2]⟩,_=>exact⟨x0,x1,x2,rfl⟩
 exact fq (fq (fq h))
theorem lu {w:X} {g:Nat} {t:ax} {z:Array af} {a b c d:af} (h:bT w g t z) (hz:z.size=4):bT ((((w.setCell ⟨g,0,D⟩ a).setCell ⟨g,1,D⟩ b).setCell ⟨g,2,D⟩ c).setCell ⟨g,3,D⟩ d) g t #[a,b,c,d]:=by
 obtain⟨x0,x1,x2,x3,rfl⟩:∃x0 x1 x2 x3,z=#[x0,x1,x2,x3]:=by
  match z,hz with
  | ⟨[x0,x1,x2,x3]⟩,_=>exact⟨x0,x1,x2,x3,rfl⟩
 exact fq (fq (fq (fq h)))
def yz (n:Int):List PanicEntry:=[{ v:=.iface 137 (.agg #[.int .i64 n]),recovered:=false }]
def PO {α:Type} (L:Lk) (g:Nat) (V:Nat->X->α->af->Prop) (r:R α) (w:X) (e:Ending) (w':X):Prop:=
 Bt g w w'/\match r with
  | .ok x u=>∃v,e=.returned v/\V w.heap.size w' x v/\Rd L g u w'
  | .no u=>e=.panicked (yz (hd u).l)
section
variable {α β:Type} {L:Lk} {g:Nat} {V:Nat->X->α->af->Prop} {r:R α} {w w':X} {e:Ending} {x:α} {t u:List Tk} {v:af}
theorem PO.ok (hr:r=.ok x u) (hb:Bt g w w') (hV:V w.heap.size w' x v) (hR:Rd L g u w'):PO L g V r w (.returned v) w':=by subst hr;exact⟨hb,v,rfl,hV,hR⟩
theorem PO.no (hr:r=.no u) (hb:Bt g w w'):PO L g V r w (.panicked (yz (hd u).l)) w':=by subst hr;exact⟨hb,rfl⟩
theorem PO.cases (h:PO L g V r w e w'):(∃x u v,r=.ok x u/\e=.returned v/\Bt g w w'/\V w.heap.size w' x v/\Rd L g u w')∨(∃u,r=.no u/\e=.panicked (yz (hd u).l)/\Bt g w w'):=by
 obtain⟨hb,h⟩:=h
 cases r with
 | ok x u=>obtain⟨v,h1,h2,h3⟩:=h;exact .inl ⟨x,u,v,rfl,h1,hb,h2,h3⟩
 | no u=>exact .inr ⟨u,rfl,h,hb⟩
def tv (x:Tk):af:=.agg #[.int .i64 x.k,.string x.t,.int .i64 x.n,.int .i64 x.l]
def TO (L:Lk) (g:Nat) (k:Int) (t:List Tk) (w:X) (e:Ending) (w':X):Prop:=
 Bt g w w'/\(((hd t).k=k/\e=.returned (tv (hd t))/\Rd L g t.tail w')∨(¬(hd t).k=k/\e=.panicked (yz (hd t).l)))
def AO (L:Lk) (g:Nat) (s:ByteArray) (t:List Tk) (w:X) (e:Ending) (w':X):Prop:=
 Bt g w w'/\((is s t=true/\e=.returned (.bool true)/\Rd L g t.tail w')∨(is s t=false/\e=.returned (.bool false)/\Rd L g t w'))
def VI (lo:Nat) (w:X) (n:Int) (v:af):Prop:=v=.int .i64 n
def VN (lo:Nat) (w:X) (n:Int) (v:af):Prop:=v=.int .i64 n/\0<=n/\n<=1000000000000
def VB (lo:Nat) (w:X) (n:Int) (v:af):Prop:=v=.int .i64 n/\(n=0∨n=1)
def VT (lo:Nat) (w:X) (s:ByteArray) (v:af):Prop:=v=.string s
def VU (lo:Nat) (w:X) (x:Unit) (v:af):Prop:=v=.tuple #[]
def VC {α:Type} (c:α->Array af) (lo:Nat) (w:X) (x:α) (v:af):Prop:=v=.agg (c x)
variable {m:P β} {k:β->P α} {A B:P α} {s:ByteArray} {y:β} {n:Int}
theorem bY (H:E (run (bd m k) t=r)) (h:run m t=.ok y u):E (run (k y) u=r):=U ((fD h).symm.trans H.out)
theorem dJ (H:E (run (bd m k) t=r)) (h:run m t=.no u):r=.no u:=H.out.symm.trans (fQ h)
theorem dY (H:E (run (acc s A B) t=r)) (h:is s t=true):E (run A t.tail=r):=U ((FW h).symm.trans H.out)
theorem dX (H:E (run (acc s A B) t=r)) (h:is s t=false):E (run B t=r):=U ((D_ h).symm.trans H.out)
theorem Fp (H:E (run (see s A B) t=r)) (h:is s t=true):E (run A t=r):=U ((KY h).symm.trans H.out)
theorem Fj (H:E (run (see s A B) t=r)) (h:is s t=false):E (run B t=r):=U ((KW h).symm.trans H.out)
theorem Wt (H:E (run (kd n A B) t=r)) (h:(hd t).k=n):E (run A t=r):=U ((GH h).symm.trans H.out)
theorem Wu (H:E (run (kd n A B) t=r)) (h:¬(hd t).k=n):E (run B t=r):=U ((GG h).symm.trans H.out)
theorem dA {x:α} (H:E (run (rt x) t=r)):r=.ok x t:=H.out.symm
theorem Lc (H:E (run (fl:P α) t=r)):r=.no t:=H.out.symm
theorem afl {p q:P α} (H:E (run p t=r)) (e:p=q):E (run q t=r):=by rw[← e];exact H
section
variable {α β γ:Type} {L:Lk} {g:Nat} {r:R α} {t u:List Tk} {m:P γ} {k:γ->P β} {K:β->P α} {A B:P β} {s:ByteArray} {y:β} {n:Int}
theorem jG (H:E (run (bd (bd m k) K) t=r)):E (run (bd m fun x=>bd (k x) K) t=r):=by
 refine U (Eq.trans ?_ H.out)
 cases h:run m t with
 | ok x u=>
  rw[fD h]
  cases h2:run (k x) u with
  | ok y v=>rw[fD h2,fD ((fD h).trans h2)]
  | no v=>rw[fQ h2,fQ ((fD h).trans h2)]
 | no u=>rw[fQ h,fQ (fQ h)]
theorem F9 {m m':P β} {t t':List Tk} (h:run m t=run m' t'):run (bd m K) t=run (bd m' K) t':=by
 cases h2:run m' t' with
 | ok y v=>rw[fD h2,fD (h.trans h2)]
 | no v=>rw[fQ h2,fQ (h.trans h2)]
theorem arw (H:E (run (bd (kd n A B) K) t=r)) (h:(hd t).k=n):E (run (bd A K) t=r):=U ((F9 (GH h)).symm.trans H.out)
theorem arx (H:E (run (bd (kd n A B) K) t=r)) (h:¬(hd t).k=n):E (run (bd B K) t=r):=U ((F9 (GG h)).symm.trans H.out)
theorem yI (H:E (run (bd (acc s A B) K) t=r)) (h:is s t=true):E (run (bd A K) t.tail=r):=U ((F9 (FW h)).symm.trans H.out)
theorem yH (H:E (run (bd (acc s A B) K) t=r)) (h:is s t=false):E (run (bd B K) t=r):=U ((F9 (D_ h)).symm.trans H.out)
theorem arz (H:E (run (bd (see s A B) K) t=r)) (h:is s t=true):E (run (bd A K) t=r):=U ((F9 (KY h)).symm.trans H.out)
theorem ary (H:E (run (bd (see s A B) K) t=r)) (h:is s t=false):E (run (bd B K) t=r):=U ((F9 (KW h)).symm.trans H.out)
theorem nJ (H:E (run (bd (rt y) K) t=r)):E (run (K y) t=r):=U ((fD (zL (x:=y) (t:=t))).symm.trans H.out)
end
end
end Ps
namespace Ps
open Ps.P (len)
open Go.RowKit
open Lx (Tk)
open Ex (Gives)
open Md (bT)
set_option maxHeartbeats 2000000
theorem Oo (a n l:Int) (s:ByteArray) (w:X):(Instr.field 135 (.agg #[.int .i64 a,.string s,.int .i64 n,.int .i64 l]) 0).run ae w=.ok (.int .i64 a) w:=by kernel_rfl
theorem abq (a n l:Int) (s:ByteArray) (w:X):(Instr.field 135 (.agg #[.int .i64 a,.string s,.int .i64 n,.int .i64 l]) 1).run ae w=.ok (.string s) w:=by kernel_rfl
theorem amj (a n l:Int) (s:ByteArray) (w:X):(Instr.field 135 (.agg #[.int .i64 a,.string s,.int .i64 n,.int .i64 l]) 2).run ae w=.ok (.int .i64 n) w:=by kernel_rfl
theorem ami (a n l:Int) (s:ByteArray) (w:X):(Instr.field 135 (.agg #[.int .i64 a,.string s,.int .i64 n,.int .i64 l]) 3).run ae w=.ok (.int .i64 l) w:=by kernel_rfl
section
variable {L:Lk} {g:Nat} {t:List Tk}
set_option maxRecDepth 100000 in
theorem zT (w:X) (hR:Rd L g t w):au ae 80 #[.pointer (aj ⟨g,0,D⟩)] w (Gives (tv (hd t)) w):=by
 obtain⟨l1,l2,l3⟩:=hR.len;have hlt:=hR.lt;have hgs:=hR.blk;have c0:=hR.c0;have c1:=hR.c1;obtain⟨e0,e1,e2,e3⟩:=hR.tok;have hbs:L.b<w.heap.size:=by omega
 unfold tv
 generalize hd t=x at *
 obtain⟨b,o,m,c,l⟩:=L;obtain⟨k,hk⟩:∃k,Lk.at ⟨b,o,m,c,l⟩ t=k:=⟨_,rfl⟩
 simp only[hk] at *
 have hk0:(0:Int)<=(k:Int):=by omega
 have hk1:(k:Int)<(m:Int):=by omega
 clear hR l1 l2 l3 hk;go_enter Tryz.func80,Tryz.ntmps80;go_wp2_with fail;go_region
 go_wp2_with fail;refine ag (v:=.agg #[.int .i64 x.k,.string x.t,.int .i64 x.n,.int .i64 x.l]) ?_ rfl ⟨rfl,bl⟩;refine ai rfl _ _ w.heap.size 135 _ (0,0) _ rfl ?_ Tryz.underlying135 rfl (by kernel_rfl);exact bT.new
set_option maxRecDepth 100000 in
theorem BC (w:X) (hR:Rd L g t w):au ae 65 #[.pointer (aj ⟨g,0,D⟩)] w (Gives (.agg #[.int .i64 (hd t).l]) w):=by
 have C1:=U (fun W (hW:Below w.heap.size w W)=>zT W (hR.low (bR.of hW)));unfold tv at C1
 generalize hd t=x at *
 have q:=ami x.k x.n x.l x.t;clear hR;go_enter Tryz.func65,Tryz.ntmps65;go_wp2_with fail;refine(C1.out _ bl).mono ?_;rintro e w1 ⟨rfl,hb1⟩;have b1:bT w1 w.heap.size 137 #[.int .i64 0]:=bT.new.on hb1;have c1:=b1.get (r:=0) rfl;have f1:=df (i:=0) b1;go_wp2_with fail;have b2:bT (w1.setCell ⟨w.heap.size,0,D⟩ (.int .i64 x.l)) w.heap.size 137 #[.int .i64 x.l]:=fq b1;refine ag (v:=.agg #[.int .i64 x.l]) ?_ rfl ⟨rfl,bl⟩;exact ai rfl _ _ w.heap.size 137 _ (0,0) _ rfl b2 Tryz.underlying137 rfl (by kernel_rfl)
set_option maxRecDepth 100000 in
theorem WJ (k:Int) (w:X) (hR:Rd L g t w) (hk:¬k=0):au ae 60 #[.pointer (aj ⟨g,0,D⟩),.int .i64 k] w (TO L g k t w):=by
 have C1:=U (fun W (hW:Below w.heap.size w W)=>zT W (hR.low (bR.of hW)));have C2:=U (fun W (hW:Below w.heap.size w W)=>BC W (hR.low (bR.of hW)));have hg:=hR.blk;have HR:=U hR;obtain⟨l1,l2,l3⟩:=hR.len;have l4:=hR.few;obtain⟨j,hj⟩:∃j,L.at t=j:=⟨_,rfl⟩
 obtain⟨x,hx⟩:∃x,hd t=x:=⟨_,rfl⟩
 unfold tv at C1;rw[hx] at C1 C2;have HX:=U hx;have HJ:=U hj;by_cases h:x.k=k
 · have hb:(x.k != k)=false:=by simp[h]
   have hw:IntKind.i64.wrap ((j:Int)+1)=(j:Int)+1:=by rw[IntKind.wrap_i64];omega
   have HK:=U h;clear hR l1 l2 l3 l4 hx hj h;go_enter Tryz.func60,Tryz.ntmps60;go_wp2_with fail;refine(C1.out _ bl).mono ?_;rintro e w1 ⟨rfl,hb1⟩;have hB1:Below w.heap.size w w1:=bl;have b4:bT w1 w.heap.size 135 _:=bT.new.on hb1;have b5:bT (w1.alloc (.cells #[.int .i64 x.k,.string x.t,.int .i64 x.n,.int .i64 x.l] 135)) w1.heap.size 135 _:=bT.new;have hs1:=b4.lt;have r1:Rd L g t (w1.alloc (.cells #[.int .i64 x.k,.string x.t,.int .i64 x.n,.int .i64 x.l] 135)):=HR.out.low (bR.of bl);have c1:=r1.c1;rw[HJ.out] at c1;have f1:=r1.tZ (i:=1);have r2:=r1.step (by rw[HX.out,HK.out];exact hk);rw[HJ.out] at r2;obtain⟨B,hB⟩:∃B,(w1.alloc (.cells #[.int .i64 x.k,.string x.t,.int .i64 x.n,.int .i64 x.l] 135)).setCell ⟨g,1,D⟩ (.int .i64 ((j:Int)+1))=B:=⟨_,rfl⟩
   have e1:Bt g (w1.alloc (.cells #[.int .i64 x.k,.string x.t,.int .i64 x.n,.int .i64 x.l] 135)) B:=by rw[← hB];exact Su
   have d5:bT B w1.heap.size 135 _:=fA b5 e1 (by omega);have d4:bT B w.heap.size 135 _:=fA (b4.on bl) e1 (by omega);have l0:=d5.get (r:=0) rfl;have l1:=d5.get (r:=1) rfl;have l2:=d5.get (r:=2) rfl;have l3:=d5.get (r:=3) rfl;have p0:=d4.get (r:=0) rfl;have p1:=d4.get (r:=1) rfl;have p2:=d4.get (r:=2) rfl;have p3:=d4.get (r:=3) rfl;have fz:∀i,B.frozen? ⟨w.heap.size,i,D⟩=false:=fun i=>df d4;have D4:=U d4;have HE:=U e1;rw[hB] at r2;have R2:=U r2;have HB1:=U hB1;clear e1 r1 r2 d5 d4 b5 b4 hB1 hb1;go_wp2_with fail;have b6:=lu (a:=.int .i64 x.k) (b:=.string x.t) (c:=.int .i64 x.n) (d:=.int .i64 x.l) D4.out rfl;have bU:=HB1.out;have jr:=HE.out;refine ag (v:=tv x) ?_ rfl ⟨?_,.inl ⟨by rw[HX.out,HK.out],by rw[HX.out],?_⟩⟩
   · exact ai rfl _ _ w.heap.size 135 _ (0,0) _ rfl b6 Tryz.underlying135 rfl (by kernel_rfl)
   · have q:Bt g w w1:=bR.of bU;exact qe
   · exact R2.out.low qe
 · have hb:(x.k != k)=true:=by simp[h]
   have HK:=U h;clear hR l1 l2 l3 l4 hx hj h;go_enter Tryz.func60,Tryz.ntmps60;go_wp2_with fail;refine(C1.out _ bl).mono ?_;rintro e w1 ⟨rfl,hb1⟩;have hB1:Below w.heap.size w w1:=bl;have HB1:=U hB1;clear hb1 hB1;go_wp2_with fail;refine(C2.out _ (by have bU:=HB1.out;exact bl)).mono ?_;rintro e w2 ⟨rfl,hb2⟩;go_wp2_with fail;refine⟨rfl,?_,.inr ⟨by rw[HX.out];exact HK.out,by rw[HX.out];rfl⟩⟩;exact bR.of (by have bU:=HB1.out;exact bl)
end
end Ps
namespace Ps
open Ps.P (exp len)
open Go.RowKit
open Lx (Tk bs vo xZ)
open Ex (Gives)
set_option maxHeartbeats 2000000
section
variable {L:Lk} {g:Nat} {t:List Tk}
theorem af2 {p:Prop} (h:p:=by
 clear h;go_enter Tryz.func61,Tryz.ntmps61;go_wp2_with fail;refine(C1.out _ bl).mono ?_;rintro e w1 ⟨rfl,hb1⟩;go_wp2_with fail;go_ret;exact⟨rfl,bl⟩
 ):p:=h
set_option maxRecDepth 100000 in
theorem qf (s:ByteArray) (w:X) (hR:Rd L g t w):au ae 61 #[.pointer (aj ⟨g,0,D⟩),.string s] w (Gives (.bool (is s t)) w):=by
 have C1:=U (fun W (hW:Below w.heap.size w W)=>zT W (hR.low (bR.of hW)));unfold tv at C1;have HI:E (is s t=decide (bs (hd t).t=bs s)):=U rfl;rw[HI.out]
 generalize hd t=x at *
 have q:=abq x.k x.n x.l x.t;clear hR HI;by_cases h:bs x.t=bs s
 · have h1:=vo h;rw[decide_eq_true h];exact af2
 · have h1:=xZ h;rw[decide_eq_false h];exact af2
set_option maxRecDepth 100000 in
theorem dL (s:ByteArray) (w:X) (hR:Rd L g t w) (hs:¬bs s=[]):au ae 31 #[.pointer (aj ⟨g,0,D⟩),.string s] w (AO L g s t w):=by
 have C1:=U (qf s w hR);have hg:=hR.blk;have HR:=U hR;obtain⟨l1,l2,l3⟩:=hR.len;have l4:=hR.few;obtain⟨j,hj⟩:∃j,L.at t=j:=⟨_,rfl⟩
 have HJ:=U hj
 cases h:is s t with
 | false=>
  rw[h] at C1;have HH:=U h;clear hR l1 l2 l3 l4 hj h;go_enter Tryz.func31,Tryz.ntmps31;go_wp2_with fail;refine C1.out.mono ?_;rintro e w1 ⟨rfl,hb1⟩;have HB1:=U hb1;clear hb1;go_wp2_with fail;go_ret;exact⟨bR.of HB1.out,.inr ⟨HH.out,rfl,HR.out.low (bR.of HB1.out)⟩⟩
 | true=>
  rw[h] at C1;have HH:=U h;have HK:E (¬(hd t).k=0):=U (by rcases acO hR.gd hs h with g|g <;> omega);have hw:IntKind.i64.wrap ((j:Int)+1)=(j:Int)+1:=by rw[IntKind.wrap_i64];omega
  clear hR l1 l2 l3 l4 hj h;go_enter Tryz.func31,Tryz.ntmps31;go_wp2_with fail;refine C1.out.mono ?_;rintro e w1 ⟨rfl,hb1⟩;have r1:Rd L g t w1:=HR.out.low (bR.of hb1);have c1:=r1.c1;rw[HJ.out] at c1;have f1:=r1.tZ (i:=1);have r2:=r1.step HK.out;rw[HJ.out] at r2;have R2:=U r2;have HB1:=U hb1;clear r1 r2 hb1;go_wp2_with fail;go_ret;have q:Bt g w w1:=bR.of HB1.out;exact⟨q.trans Su,.inl ⟨HH.out,rfl,R2.out⟩⟩
set_option maxRecDepth 100000 in
theorem gW (s:ByteArray) (w:X) (hR:Rd L g t w) (hs:¬bs s=[]):au ae 58 #[.pointer (aj ⟨g,0,D⟩),.string s] w (PO L g VU (run (exp s) t) w):=by
 have C1:=U (dL s w hR hs);obtain⟨r,hr⟩:∃r,run (exp s) t=r:=⟨_,rfl⟩
 rw[hr];have HS:=U hr;clear hR hr;go_enter Tryz.func58,Tryz.ntmps58;go_wp2_with fail;refine C1.out.mono ?_;rintro e w1 ⟨hb,⟨hi,rfl,hR⟩|⟨hi,rfl,hR⟩⟩
 · have HI:=U hi;have HB:=U hb;have HR:=U hR;clear hi hb hR;go_wp2_with fail
   (first|go_end0|refine ag (results_none rfl _ _ _) rfl ?_)
   exact PO.ok (HS.out.symm.trans (Oi HI.out)) HB.out rfl HR.out
 · have HI:=U hi;have HB:=U hb;have HR:=U hR;clear hi hb hR;go_wp2_with fail;refine(BC _ HR.out).mono ?_;rintro e w2 ⟨rfl,hb2⟩;go_wp2_with fail;exact⟨rfl,PO.no (HS.out.symm.trans (Oh HI.out)) (HB.out.below hb2)⟩
end
end Ps
namespace Ps
open Ps.P (rt bd tk)
open Go.RowKit
open Lx (Tk bs)
open Na (lH UC)
set_option maxHeartbeats 2000000
section
variable {L:Lk} {g:Nat} {t:List Tk}
set_option maxRecDepth 100000 in
theorem mh (w:X) (hR:Rd L g t w):au ae 63 #[.pointer (aj ⟨g,0,D⟩)] w (PO L g VN (run num t) w):=by
 have q:=amj (hd t).k (hd t).n (hd t).l (hd t).t;have HN:=U hR.gd.wf.n;obtain⟨r,hr⟩:∃r,run num t=r:=⟨_,rfl⟩
 rw[hr];have HS:=U hr;have hg:=hR.blk;have HR:=U hR;have HB:E (Bt g w w):=U (bR.refl _ _);clear hR hr;go_enter Tryz.func63,Tryz.ntmps63;go_wp2_with fail;refine(WJ 2 _ (HR.out.low qe) (by decide)).mono ?_;rintro e w1 ⟨b1,⟨k1,rfl,R1⟩|⟨k1,rfl⟩⟩;rotate_left 1
 · have bU:=HB.out;go_wp2_with fail;exact⟨rfl,PO.no (dJ HS (Dx k1)) qe⟩
 replace HS:=bY HS (Bv k1);replace HB:E (Bt g w w1):=U qh;replace HR:=U R1;clear b1 R1;clear k1;unfold tv;go_wp2_with fail;go_ret;exact PO.ok (dA HS) HB.out ⟨rfl,HN.out⟩ HR.out
theorem LV {p:Prop} (h:p:=by
 have bU:=HB.out;go_wp2_with fail;exact⟨rfl,PO.no (dJ HS (by assumption)) qe⟩
 ):p:=h
theorem Hr {p:Prop} (h:p:=by
 go_wp2_with fail;go_ret;exact PO.ok (dA HS) HB.out rfl HR.out
 ):p:=h
theorem af4 {p:Prop} (h:p:=by
 replace HS:=HS.out.symm.trans r2;replace HB:E (Bt g w w2):=U qh;replace HR:=U R2;clear b2 R2;go_wp2_with fail;go_ret;exact PO.ok HS HB.out rfl HR.out
 ):p:=h
set_option maxRecDepth 100000 in
theorem OH (w:X) (hR:Rd L g t w):au ae 104 #[.pointer (aj ⟨g,0,D⟩)] w (PO L g VI (run vz t) w):=by
 obtain⟨r,hr⟩:∃r,run vz t=r:=⟨_,rfl⟩
 rw[hr];have HS:=U hr;have hg:=hR.blk;have HR:=U hR;have HB:E (Bt g w w):=U (bR.refl _ _);clear hR hr;go_enter Tryz.func104,Tryz.ntmps104;go_wp2_with fail;refine(dL _ _ (HR.out.low qe) (by decide)).mono ?_;rintro e w1 ⟨b1,⟨i1,rfl,R1⟩|⟨i1,rfl,R1⟩⟩
 · replace HS:=dY HS i1;replace HB:E (Bt g w w1):=U qh;replace HR:=U R1;clear b1 R1;clear i1;go_wp2_with fail;refine(mh _ (HR.out.low qe)).mono ?_;rintro e w2 h2;rcases h2.cases with⟨x2,u2,v2,r2,rfl,b2,V2,R2⟩|⟨u2,r2,rfl,b2⟩
   rotate_left 1
   · exact LV
   replace HS:=bY HS r2;replace HB:E (Bt g w w2):=U qh;replace HR:=U R2;clear b2 R2;clear r2 h2;obtain⟨rfl,n0,n1⟩:=V2;have hw:wrap64 (-x2) = -x2:=by unfold wrap64;omega
   exact Hr
 · replace HS:=dX HS i1;replace HB:E (Bt g w w1):=U qh;replace HR:=U R1;clear b1 R1;clear i1;go_wp2_with fail;refine(mh _ (HR.out.low qe)).mono ?_;rintro e w2 h2;rcases h2.cases with⟨x2,u2,v2,r2,rfl,b2,V2,R2⟩|⟨u2,r2,rfl,b2⟩
   · obtain⟨rfl,n0,n1⟩:=V2;exact af4
   · have bU:=HB.out;go_wp2_with fail;exact⟨rfl,PO.no (HS.out.symm.trans r2) qe⟩
set_option maxRecDepth 100000 in
theorem Qh (w:X) (hR:Rd L g t w):au ae 103 #[.pointer (aj ⟨g,0,D⟩)] w (PO L g VB (run vW t) w):=by
 obtain⟨r,hr⟩:∃r,run vW t=r:=⟨_,rfl⟩
 rw[hr];have HS:=U hr;have hg:=hR.blk;have HR:=U hR;have HB:E (Bt g w w):=U (bR.refl _ _);clear hR hr;go_enter Tryz.func103,Tryz.ntmps103;go_wp2_with fail;refine(dL _ _ (HR.out.low qe) (by decide)).mono ?_;rintro e w1 ⟨b1,⟨i1,rfl,R1⟩|⟨i1,rfl,R1⟩⟩
 · replace HS:=dY HS i1;replace HB:E (Bt g w w1):=U qh;replace HR:=U R1;clear b1 R1;clear i1;go_wp2_with fail;go_ret;exact PO.ok (dA HS) HB.out ⟨rfl,.inr rfl⟩ HR.out
 · replace HS:=dX HS i1;replace HB:E (Bt g w w1):=U qh;replace HR:=U R1;clear b1 R1;clear i1;go_wp2_with fail;refine(gW _ _ (HR.out.low qe) (by decide)).mono ?_;rintro e w2 h2;rcases h2.cases with⟨x2,u2,v2,r2,rfl,b2,V2,R2⟩|⟨u2,r2,rfl,b2⟩
   rotate_left 1
   · exact LV
   replace HS:=bY HS r2;replace HB:E (Bt g w w2):=U qh;replace HR:=U R2;clear b2 R2;clear r2 h2;obtain rfl:=V2;go_wp2_with fail;go_ret;exact PO.ok (dA HS) HB.out ⟨rfl,.inl rfl⟩ HR.out
set_option maxRecDepth 100000 in
theorem jR (w:X) (hR:Rd L g t w):au ae 59 #[.pointer (aj ⟨g,0,D⟩)] w (PO L g VT (run fP t) w):=by
 have q:=abq (hd t).k (hd t).n (hd t).l (hd t).t;have C1:=U (fun W (hW:Below w.heap.size w W)=>zT W (hR.low (bR.of hW)));have C2:=U (fun W=>UC (hd t).t W);unfold tv at C1;obtain⟨r,hr⟩:∃r,run fP t=r:=⟨_,rfl⟩
 rw[hr];have HS:=U hr;have hg:=hR.blk;have HR:=U hR;have HB:E (Bt g w w):=U (bR.refl _ _);clear hR hr
 cases hk:lH (bs (hd t).t) with
 | true=>
  rw[hk] at C2;have HK:=U hk;clear hk;go_enter Tryz.func59,Tryz.ntmps59;go_wp2_with fail;refine(C1.out _ bl).mono ?_;rintro e w1 ⟨rfl,hb1⟩;replace HB:E (Bt g w w1):=U (bR.of hb1);replace HR:E (Rd L g t w1):=U (HR.out.low (bR.of hb1));clear hb1;go_wp2_with fail;refine(C2.out _).mono ?_;rintro e w2 ⟨rfl,rfl⟩;go_wp2_with fail;refine(BC _ (HR.out.low qe)).mono ?_;rintro e w3 ⟨rfl,b3⟩;have bU:=HB.out;go_wp2_with fail;exact⟨rfl,PO.no (HS.out.symm.trans (Kb HK.out)) (bU.below b3)⟩
 | false=>
  rw[hk] at C2;replace HS:E (run (bd (tk 1) fun x=>rt x.1) t=r):=U ((UF hk).symm.trans HS.out);clear hk;go_enter Tryz.func59,Tryz.ntmps59;go_wp2_with fail;refine(C1.out _ bl).mono ?_;rintro e w1 ⟨rfl,hb1⟩;replace HB:E (Bt g w w1):=U (bR.of hb1);replace HR:E (Rd L g t w1):=U (HR.out.low (bR.of hb1));clear hb1;go_wp2_with fail;refine(C2.out _).mono ?_;rintro e w2 ⟨rfl,rfl⟩;go_wp2_with fail;refine(WJ 1 _ (HR.out.low qe) (by decide)).mono ?_;rintro e w3 ⟨b3,⟨k3,rfl,R3⟩|⟨k3,rfl⟩⟩;rotate_left 1
  · have bU:=HB.out;go_wp2_with fail;exact⟨rfl,PO.no (dJ HS (Dx k3)) qe⟩
  replace HS:=bY HS (Bv k3);replace HB:E (Bt g w w3):=U qh;replace HR:=U R3;clear b3 R3;clear k3;unfold tv;exact Hr
set_option maxRecDepth 100000 in
theorem O8 (s:ByteArray) (w:X) (hR:Rd L g t w) (hs:¬bs s=[]):au ae 29 #[.pointer (aj ⟨g,0,D⟩),.string s] w (PO L g VT (run (vL s) t) w):=by
 obtain⟨r,hr⟩:∃r,run (vL s) t=r:=⟨_,rfl⟩
 rw[hr];have HS:=U hr;have hg:=hR.blk;have HR:=U hR;have HB:E (Bt g w w):=U (bR.refl _ _);clear hR hr;go_enter Tryz.func29,Tryz.ntmps29;go_wp2_with fail;refine(gW _ _ (HR.out.low qe) hs).mono ?_;rintro e w1 h1;rcases h1.cases with⟨x1,u1,v1,r1,rfl,b1,V1,R1⟩|⟨u1,r1,rfl,b1⟩
 rotate_left 1
 · exact LV
 replace HS:=bY HS r1;replace HB:E (Bt g w w1):=U qh;replace HR:=U R1;clear b1 R1;clear r1 h1;obtain rfl:=V1;go_wp2_with fail;refine(jR _ (HR.out.low qe)).mono ?_;rintro e w2 h2;rcases h2.cases with⟨x2,u2,v2,r2,rfl,b2,V2,R2⟩|⟨u2,r2,rfl,b2⟩
 · obtain rfl:=V2;exact af4
 · have bU:=HB.out;go_wp2_with fail;exact⟨rfl,PO.no (HS.out.symm.trans r2) qe⟩
set_option maxRecDepth 100000 in
theorem mg (w:X) (hR:Rd L g t w):au ae 30 #[.pointer (aj ⟨g,0,D⟩)] w (PO L g VU (run fU t) w):=by
 obtain⟨r,hr⟩:∃r,run fU t=r:=⟨_,rfl⟩
 rw[hr];have HS:=U hr;have hg:=hR.blk;have HR:=U hR;have HB:E (Bt g w w):=U (bR.refl _ _);clear hR hr;go_enter Tryz.func30,Tryz.ntmps30;go_wp2_with fail;refine(WJ 4 _ (HR.out.low qe) (by decide)).mono ?_;rintro e w1 ⟨b1,⟨k1,rfl,R1⟩|⟨k1,rfl⟩⟩;rotate_left 1
 · have bU:=HB.out;go_wp2_with fail;exact⟨rfl,PO.no (dJ HS (Dx k1)) qe⟩
 replace HS:=bY HS (Bv k1);replace HB:E (Bt g w w1):=U qh;replace HR:=U R1;clear b1 R1;clear k1;go_wp2_with fail
 (first|go_end0|refine ag (results_none rfl _ _ _) rfl ?_)
 exact PO.ok (dA HS) HB.out rfl HR.out
set_option maxRecDepth 100000 in
theorem GR (w:X) (hR:Rd L g t w):au ae 105 #[.pointer (aj ⟨g,0,D⟩)] w (PO L g VT (run ui t) w):=by
 obtain⟨r,hr⟩:∃r,run ui t=r:=⟨_,rfl⟩
 rw[hr];have HS:=U hr;have hg:=hR.blk;have HR:=U hR;have HB:E (Bt g w w):=U (bR.refl _ _);clear hR hr;go_enter Tryz.func105,Tryz.ntmps105;go_wp2_with fail;refine(jR _ (HR.out.low qe)).mono ?_;rintro e w1 h1;rcases h1.cases with⟨x1,u1,v1,r1,rfl,b1,V1,R1⟩|⟨u1,r1,rfl,b1⟩
 rotate_left 1
 · exact LV
 replace HS:=bY HS r1;replace HB:E (Bt g w w1):=U qh;replace HR:=U R1;clear b1 R1;clear r1 h1;obtain rfl:=V1;go_wp2_with fail;refine(mg _ (HR.out.low qe)).mono ?_;rintro e w2 h2;rcases h2.cases with⟨x2,u2,v2,r2,rfl,b2,V2,R2⟩|⟨u2,r2,rfl,b2⟩
 rotate_left 1
 · exact LV
 replace HS:=bY HS r2;replace HB:E (Bt g w w2):=U qh;replace HR:=U R2;clear b2 R2;clear r2 h2;obtain rfl:=V2;exact Hr
theorem af3 {p:Prop} (h:p:=by
 go_wp2_with fail;refine(dL _ _ (HR.out.low qe) (by decide)).mono ?_;rintro e w1 ⟨b1,⟨i1,rfl,R1⟩|⟨i1,rfl,R1⟩⟩
 · replace HS:=dY HS i1;replace HB:E (Bt g w w1):=U qh;replace HR:=U R1;clear b1 R1;clear i1;exact Hr
 · replace HS:=dX HS i1;replace HB:E (Bt g w w1):=U qh;replace HR:=U R1;clear b1 R1;clear i1;go_wp2_with fail;refine(dL _ _ (HR.out.low qe) (by decide)).mono ?_;rintro e w2 ⟨b2,⟨i2,rfl,R2⟩|⟨i2,rfl,R2⟩⟩
   · replace HS:=dY HS i2;replace HB:E (Bt g w w2):=U qh;replace HR:=U R2;clear b2 R2;clear i2;exact Hr
   · replace HS:=dX HS i2;replace HB:E (Bt g w w2):=U qh;replace HR:=U R2;clear b2 R2;clear i2;go_wp2_with fail;refine(dL _ _ (HR.out.low qe) (by decide)).mono ?_;rintro e w3 ⟨b3,⟨i3,rfl,R3⟩|⟨i3,rfl,R3⟩⟩
     · replace HS:=dY HS i3;replace HB:E (Bt g w w3):=U qh;replace HR:=U R3;clear b3 R3;clear i3;exact Hr
     · replace HS:=dX HS i3;replace HB:E (Bt g w w3):=U qh;replace HR:=U R3;clear b3 R3;clear i3;go_wp2_with fail;refine(BC _ (HR.out.low qe)).mono ?_;rintro e w4 ⟨rfl,b4⟩;have bU:=HB.out;go_wp2_with fail;exact⟨rfl,PO.no (Lc HS) (by have q:Bt g _ w4:=bR.of b4;exact qe)⟩
 ):p:=h
set_option maxRecDepth 100000 in
theorem afu (w:X) (hR:Rd L g t w):au ae 102 #[.pointer (aj ⟨g,0,D⟩)] w (PO L g VI (run typ t) w):=by
 obtain⟨r,hr⟩:∃r,run typ t=r:=⟨_,rfl⟩
 rw[hr];have HS:=U hr;have hg:=hR.blk;have HR:=U hR;have HB:E (Bt g w w):=U (bR.refl _ _);clear hR hr;go_enter Tryz.func102,Tryz.ntmps102;exact af3
set_option maxRecDepth 100000 in
theorem apE (w:X) (hR:Rd L g t w):au ae 181 #[.pointer (aj ⟨g,0,D⟩)] w (PO L g VI (run GV t) w):=by
 obtain⟨r,hr⟩:∃r,run GV t=r:=⟨_,rfl⟩
 rw[hr];have HS:=U hr;have hg:=hR.blk;have HR:=U hR;have HB:E (Bt g w w):=U (bR.refl _ _);clear hR hr;go_enter Tryz.func181,Tryz.ntmps181;exact af3
end
end Ps
namespace Ps
open Ps.P (rt bd kd tk exp)
open Go.RowKit
open Lx (Tk)
open Md (bT gI lZ lD lC iw Val)
set_option maxHeartbeats 4000000
def tV (q:Int×Int):Array af:=#[.int .i64 q.1,.int .i64 q.2]
section
variable {L:Lk} {g:Nat} {t:List Tk}
theorem kG {p:Prop} (h:p:=by
 have bU:=HB.out;go_wp2_with fail;exact⟨rfl,PO.no (dJ HS (by assumption)) qe⟩
 ):p:=h
set_option maxRecDepth 100000 in
theorem aem (w:X) (hR:Rd L g t w):au ae 196 #[.pointer (aj ⟨g,0,D⟩)] w (PO L g (VC tV) (run pr t) w):=by
 obtain⟨r,hr⟩:∃r,run pr t=r:=⟨_,rfl⟩
 rw[hr];have HS:=U hr;have hg:=hR.blk;have HR:=U hR;have HB:E (Bt g w w):=U (bR.refl _ _);clear hR hr;have Z:=U (bT.new (w:=w) (t:=249) (c:=#[.int .i64 0,.int .i64 0]));go_enter Tryz.func196,Tryz.ntmps196;go_wp2_with fail;refine(mh _ (HR.out.low qe)).mono ?_;rintro e w1 h1;rcases h1.cases with⟨x1,u1,v1,r1,rfl,b1,V1,R1⟩|⟨u1,r1,rfl,b1⟩
 rotate_left 1
 · exact kG
 replace HS:=bY HS r1;replace Z:=U (bS (w2:=w1) Z.out qe);replace HB:E (Bt g w w1):=U qh;replace HR:=U R1;clear b1 R1;clear r1 h1;obtain⟨rfl,n0,n1⟩:=V1;go_wp2_with fail;refine(gW _ _ (HR.out.low qe) (by decide)).mono ?_;rintro e w2 h2;rcases h2.cases with⟨x2,u2,v2,r2,rfl,b2,V2,R2⟩|⟨u2,r2,rfl,b2⟩
 rotate_left 1
 · exact kG
 replace HS:=bY HS r2;replace Z:=U (bS (w2:=w2) Z.out qe);replace HB:E (Bt g w w2):=U qh;replace HR:=U R2;clear b2 R2;clear r2 h2;obtain rfl:=V2;go_wp2_with fail;refine(mh _ (HR.out.low qe)).mono ?_;rintro e w3 h3;rcases h3.cases with⟨x3,u3,v3,r3,rfl,b3,V3,R3⟩|⟨u3,r3,rfl,b3⟩
 rotate_left 1
 · exact kG
 replace HS:=bY HS r3;replace Z:=U (bS (w2:=w3) Z.out qe);replace HB:E (Bt g w w3):=U qh;replace HR:=U R3;clear b3 R3;clear r3 h3;obtain⟨rfl,m0,m1⟩:=V3;have p0:=Z.out.get (r:=0) rfl;have p1:=Z.out.get (r:=1) rfl;have fz:∀i,ah _ ⟨_,i,D⟩=false:=fun i=>df (i:=i) Z.out;go_wp2_with fail;have bU:=HB.out;refine ag (v:=.agg #[.int .i64 x1,.int .i64 x3]) ?_ rfl (PO.ok (dA HS) qe rfl (HR.out.low qe));exact ai rfl _ _ w.heap.size 249 _ (0,0) _ rfl (ZN Z.out rfl) Tryz.underlying249 rfl (by kernel_rfl)
set_option maxRecDepth 100000 in
theorem abk (w:X) (hR:Rd L g t w):au ae 183 #[.pointer (aj ⟨g,0,D⟩)] w (PO L g (VC gI) (run zm t) w):=by
 obtain⟨r,hr⟩:∃r,run zm t=r:=⟨_,rfl⟩
 rw[hr];have HS:=U hr;have hg:=hR.blk;have HR:=U hR;have HB:E (Bt g w w):=U (bR.refl _ _);clear hR hr;have Z:=U (bT.new (w:=w) (t:=179) (c:=#[.string ⟨#[]⟩,.int .i64 0]));go_enter Tryz.func183,Tryz.ntmps183;go_wp2_with fail;refine(jR _ (HR.out.low qe)).mono ?_;rintro e w1 h1;rcases h1.cases with⟨x1,u1,v1,r1,rfl,b1,V1,R1⟩|⟨u1,r1,rfl,b1⟩
 rotate_left 1
 · exact kG
 replace HS:=bY HS r1;replace Z:=U (bS (w2:=w1) Z.out qe);replace HB:E (Bt g w w1):=U qh;replace HR:=U R1;clear b1 R1;clear r1 h1;obtain rfl:=V1;go_wp2_with fail;refine(afu _ (HR.out.low qe)).mono ?_;rintro e w2 h2;rcases h2.cases with⟨x2,u2,v2,r2,rfl,b2,V2,R2⟩|⟨u2,r2,rfl,b2⟩
 rotate_left 1
 · exact kG
 replace HS:=bY HS r2;replace Z:=U (bS (w2:=w2) Z.out qe);replace HB:E (Bt g w w2):=U qh;replace HR:=U R2;clear b2 R2;clear r2 h2;obtain rfl:=V2;have p0:=Z.out.get (r:=0) rfl;have p1:=Z.out.get (r:=1) rfl;have fz:∀i,ah _ ⟨_,i,D⟩=false:=fun i=>df (i:=i) Z.out;go_wp2_with fail;have bU:=HB.out;refine ag (v:=.agg #[.string x1,.int .i64 x2]) ?_ rfl (PO.ok (dA HS) qe rfl (HR.out.low qe));exact ai rfl _ _ w.heap.size 179 _ (0,0) _ rfl (ZN Z.out rfl) Tryz.underlying179 rfl (by kernel_rfl)
set_option maxRecDepth 100000 in
theorem arZ (w:X) (hR:Rd L g t w):au ae 153 #[.pointer (aj ⟨g,0,D⟩)] w (PO L g (VC lD) (run Fu t) w):=by
 obtain⟨r,hr⟩:∃r,run Fu t=r:=⟨_,rfl⟩
 rw[hr];have HS:=U hr;have hg:=hR.blk;have HR:=U hR;have HB:E (Bt g w w):=U (bR.refl _ _);clear hR hr;have Z:=U (bT.new (w:=w) (t:=114) (c:=#[.string ⟨#[]⟩,.int .i64 0,.int .i64 0]));go_enter Tryz.func153,Tryz.ntmps153;go_wp2_with fail;refine(jR _ (HR.out.low qe)).mono ?_;rintro e w1 h1;rcases h1.cases with⟨x1,u1,v1,r1,rfl,b1,V1,R1⟩|⟨u1,r1,rfl,b1⟩
 rotate_left 1
 · exact kG
 replace HS:=bY HS r1;replace Z:=U (bS (w2:=w1) Z.out qe);replace HB:E (Bt g w w1):=U qh;replace HR:=U R1;clear b1 R1;clear r1 h1;obtain rfl:=V1;go_wp2_with fail;refine(mh _ (HR.out.low qe)).mono ?_;rintro e w2 h2;rcases h2.cases with⟨x2,u2,v2,r2,rfl,b2,V2,R2⟩|⟨u2,r2,rfl,b2⟩
 rotate_left 1
 · exact kG
 replace HS:=bY HS r2;replace Z:=U (bS (w2:=w2) Z.out qe);replace HB:E (Bt g w w2):=U qh;replace HR:=U R2;clear b2 R2;clear r2 h2;obtain⟨rfl,n0,n1⟩:=V2;go_wp2_with fail;refine(apE _ (HR.out.low qe)).mono ?_;rintro e w3 h3;rcases h3.cases with⟨x3,u3,v3,r3,rfl,b3,V3,R3⟩|⟨u3,r3,rfl,b3⟩
 rotate_left 1
 · exact kG
 replace HS:=bY HS r3;replace Z:=U (bS (w2:=w3) Z.out qe);replace HB:E (Bt g w w3):=U qh;replace HR:=U R3;clear b3 R3;clear r3 h3;obtain rfl:=V3;have Y:=U (bT.new (w:=w3) (t:=114) (c:=#[.string x1,.int .i64 x2,.int .i64 x3]));have s3:=Z.out.lt;go_wp2_with fail;refine(mg _ (HR.out.low qe)).mono ?_;rintro e w4 h4;rcases h4.cases with⟨x4,u4,v4,r4,rfl,b4,V4,R4⟩|⟨u4,r4,rfl,b4⟩
 rotate_left 1
 · exact kG
 replace HS:=bY HS r4;replace Z:=U (bS (w2:=w4) Z.out qe);replace Y:=U (bS (w2:=w4) Y.out qe);replace HB:E (Bt g w w4):=U qh;replace HR:=U R4;clear b4 R4;clear r4 h4;obtain rfl:=V4;have p0:=Z.out.get (r:=0) rfl;have p1:=Z.out.get (r:=1) rfl;have p2:=Z.out.get (r:=2) rfl;have fz:∀i,ah _ ⟨_,i,D⟩=false:=fun i=>df (i:=i) Z.out;have l0:=Y.out.get (r:=0) rfl;have l1:=Y.out.get (r:=1) rfl;have l2:=Y.out.get (r:=2) rfl;go_wp2_with fail;have bU:=HB.out;refine ag (v:=.agg #[.string x1,.int .i64 x2,.int .i64 x3]) ?_ rfl (PO.ok (dA HS) qe rfl (HR.out.low qe));exact ai rfl _ _ w.heap.size 114 _ (0,0) _ rfl (Ni Z.out rfl) Tryz.underlying114 rfl (by kernel_rfl)
set_option maxRecDepth 100000 in
theorem ai1 (w:X) (hR:Rd L g t w):au ae 154 #[.pointer (aj ⟨g,0,D⟩)] w (PO L g (VC lC) (run blt t) w):=by
 obtain⟨r,hr⟩:∃r,run blt t=r:=⟨_,rfl⟩
 rw[hr];have HS:=U hr;have hg:=hR.blk;have HR:=U hR;have HB:E (Bt g w w):=U (bR.refl _ _);clear hR hr;have Z:=U (bT.new (w:=w) (t:=116) (c:=#[.string ⟨#[]⟩,.int .i64 0,.int .i64 0]));go_enter Tryz.func154,Tryz.ntmps154;go_wp2_with fail;refine(jR _ (HR.out.low qe)).mono ?_;rintro e w1 h1;rcases h1.cases with⟨x1,u1,v1,r1,rfl,b1,V1,R1⟩|⟨u1,r1,rfl,b1⟩
 rotate_left 1
 · exact kG
 replace HS:=bY HS r1;replace Z:=U (bS (w2:=w1) Z.out qe);replace HB:E (Bt g w w1):=U qh;replace HR:=U R1;clear b1 R1;clear r1 h1;obtain rfl:=V1;go_wp2_with fail;refine(mh _ (HR.out.low qe)).mono ?_;rintro e w2 h2;rcases h2.cases with⟨x2,u2,v2,r2,rfl,b2,V2,R2⟩|⟨u2,r2,rfl,b2⟩
 rotate_left 1
 · exact kG
 replace HS:=bY HS r2;replace Z:=U (bS (w2:=w2) Z.out qe);replace HB:E (Bt g w w2):=U qh;replace HR:=U R2;clear b2 R2;clear r2 h2;obtain⟨rfl,n0,n1⟩:=V2;go_wp2_with fail;refine(mh _ (HR.out.low qe)).mono ?_;rintro e w3 h3;rcases h3.cases with⟨x3,u3,v3,r3,rfl,b3,V3,R3⟩|⟨u3,r3,rfl,b3⟩
 rotate_left 1
 · exact kG
 replace HS:=bY HS r3;replace Z:=U (bS (w2:=w3) Z.out qe);replace HB:E (Bt g w w3):=U qh;replace HR:=U R3;clear b3 R3;clear r3 h3;obtain⟨rfl,m0,m1⟩:=V3;have Y:=U (bT.new (w:=w3) (t:=116) (c:=#[.string x1,.int .i64 x2,.int .i64 x3]));have s3:=Z.out.lt;go_wp2_with fail;refine(mg _ (HR.out.low qe)).mono ?_;rintro e w4 h4;rcases h4.cases with⟨x4,u4,v4,r4,rfl,b4,V4,R4⟩|⟨u4,r4,rfl,b4⟩
 rotate_left 1
 · exact kG
 replace HS:=bY HS r4;replace Z:=U (bS (w2:=w4) Z.out qe);replace Y:=U (bS (w2:=w4) Y.out qe);replace HB:E (Bt g w w4):=U qh;replace HR:=U R4;clear b4 R4;clear r4 h4;obtain rfl:=V4;have p0:=Z.out.get (r:=0) rfl;have p1:=Z.out.get (r:=1) rfl;have p2:=Z.out.get (r:=2) rfl;have fz:∀i,ah _ ⟨_,i,D⟩=false:=fun i=>df (i:=i) Z.out;have l0:=Y.out.get (r:=0) rfl;have l1:=Y.out.get (r:=1) rfl;have l2:=Y.out.get (r:=2) rfl;go_wp2_with fail;have bU:=HB.out;refine ag (v:=.agg #[.string x1,.int .i64 x2,.int .i64 x3]) ?_ rfl (PO.ok (dA HS) qe rfl (HR.out.low qe));exact ai rfl _ _ w.heap.size 116 _ (0,0) _ rfl (Ni Z.out rfl) Tryz.underlying116 rfl (by kernel_rfl)
theorem af5 {p:Prop} (h:p:=by
 have l2:=Y.out.get (r:=2) rfl;have ff:=df (i:=2) Y.out;go_wp2_with fail;replace Y:E (bT (w4.setCell ⟨w2.heap.size,2,D⟩ (.int .i64 x4)) w2.heap.size 93 #[.string x1,.int .i64 x2,.int .i64 x4]):=U (fq Y.out);clear l2 ff;refine(mg _ (HR.out.low qe)).mono ?_;rintro e w5 h5;rcases h5.cases with⟨x5,u5,v5,r5,rfl,b5,V5,R5⟩|⟨u5,r5,rfl,b5⟩
 rotate_left 1
 · exact kG
 replace HS:=bY HS r5;replace Z:=U (bS (w2:=w5) Z.out qe);replace Y:=U (bS (w2:=w5) Y.out qe);replace HB:E (Bt g w w5):=U qh;replace HR:=U R5;clear b5 R5;clear r5 h5;obtain rfl:=V5;have p0:=Z.out.get (r:=0) rfl;have p1:=Z.out.get (r:=1) rfl;have p2:=Z.out.get (r:=2) rfl;have fz:∀i,ah _ ⟨_,i,D⟩=false:=fun i=>df (i:=i) Z.out;have l0:=Y.out.get (r:=0) rfl;have l1:=Y.out.get (r:=1) rfl;have l2:=Y.out.get (r:=2) rfl;go_wp2_with fail;have bU:=HB.out;refine ag (v:=.agg #[.string x1,.int .i64 x2,.int .i64 x4]) ?_ rfl (PO.ok (dA HS) qe rfl (HR.out.low qe));exact ai rfl _ _ w.heap.size 93 _ (0,0) _ rfl (Ni Z.out rfl) Tryz.underlying93 rfl (by kernel_rfl)
 ):p:=h
set_option maxRecDepth 100000 in
theorem afA (w:X) (hR:Rd L g t w):au ae 62 #[.pointer (aj ⟨g,0,D⟩)] w (PO L g (VC lZ) (run val t) w):=by
 obtain⟨r,hr⟩:∃r,run val t=r:=⟨_,rfl⟩
 rw[hr];have HS:=U hr;have hg:=hR.blk;have HR:=U hR;have HB:E (Bt g w w):=U (bR.refl _ _);clear hR hr;have Z:=U (bT.new (w:=w) (t:=93) (c:=#[.string ⟨#[]⟩,.int .i64 0,.int .i64 0]));go_enter Tryz.func62,Tryz.ntmps62;go_wp2_with fail;refine(jR _ (HR.out.low qe)).mono ?_;rintro e w1 h1;rcases h1.cases with⟨x1,u1,v1,r1,rfl,b1,V1,R1⟩|⟨u1,r1,rfl,b1⟩
 rotate_left 1
 · exact kG
 replace HS:=bY HS r1;replace Z:=U (bS (w2:=w1) Z.out qe);replace HB:E (Bt g w w1):=U qh;replace HR:=U R1;clear b1 R1;clear r1 h1;obtain rfl:=V1;go_wp2_with fail;refine(afu _ (HR.out.low qe)).mono ?_;rintro e w2 h2;rcases h2.cases with⟨x2,u2,v2,r2,rfl,b2,V2,R2⟩|⟨u2,r2,rfl,b2⟩
 rotate_left 1
 · exact kG
 replace HS:=bY HS r2;replace Z:=U (bS (w2:=w2) Z.out qe);replace HB:E (Bt g w w2):=U qh;replace HR:=U R2;clear b2 R2;clear r2 h2;obtain rfl:=V2;have Y:=U (bT.new (w:=w2) (t:=93) (c:=#[.string x1,.int .i64 x2,.int .i64 0]));have s2:=Z.out.lt;go_wp2_with fail;refine(gW _ _ (HR.out.low qe) (by decide)).mono ?_;rintro e w3 h3;rcases h3.cases with⟨x3,u3,v3,r3,rfl,b3,V3,R3⟩|⟨u3,r3,rfl,b3⟩
 rotate_left 1
 · exact kG
 replace HS:=bY HS r3;replace Z:=U (bS (w2:=w3) Z.out qe);replace Y:=U (bS (w2:=w3) Y.out qe);replace HB:E (Bt g w w3):=U qh;replace HR:=U R3;clear b3 R3;clear r3 h3;obtain rfl:=V3;have l1:=Y.out.get (r:=1) rfl;by_cases hy:x2=2
 · have hb:(x2==2)=true:=by simp[hy]
   replace HS:=afl HS (show _=bd vW fun n=>bd fU fun _=>rt (⟨x1,x2,n⟩:Val) by rw[if_pos hy]);clear hy;go_wp2_with fail;clear l1;refine(Qh _ (HR.out.low qe)).mono ?_;rintro e w4 h4;rcases h4.cases with⟨x4,u4,v4,r4,rfl,b4,V4,R4⟩|⟨u4,r4,rfl,b4⟩
   rotate_left 1
   · exact kG
   replace HS:=bY HS r4;replace Z:=U (bS (w2:=w4) Z.out qe);replace Y:=U (bS (w2:=w4) Y.out qe);replace HB:E (Bt g w w4):=U qh;replace HR:=U R4;clear b4 R4;clear r4 h4;obtain⟨rfl,-⟩:=V4;exact af5
 · have hb:(x2==2)=false:=by simp[hy]
   replace HS:=afl HS (show _=bd vz fun n=>bd fU fun _=>rt (⟨x1,x2,n⟩:Val) by rw[if_neg hy]);clear hy;go_wp2_with fail;clear l1;refine(OH _ (HR.out.low qe)).mono ?_;rintro e w4 h4;rcases h4.cases with⟨x4,u4,v4,r4,rfl,b4,V4,R4⟩|⟨u4,r4,rfl,b4⟩
   rotate_left 1
   · exact kG
   replace HS:=bY HS r4;replace Z:=U (bS (w2:=w4) Z.out qe);replace Y:=U (bS (w2:=w4) Y.out qe);replace HB:E (Bt g w w4):=U qh;replace HR:=U R4;clear b4 R4;clear r4 h4;obtain rfl:=V4;exact af5
theorem Qy {p:Prop} (h:p:=by
 exact ai rfl _ _ w.heap.size 181 _ (0,0) _ rfl (Ni Z.out rfl) Tryz.underlying181 rfl (by kernel_rfl)
 ):p:=h
theorem XJ {p:Prop} (h:p:=by rw[← hW];have bU:=HB.out;exact qe):p:=h
set_option maxRecDepth 100000 in
theorem WL (w:X) (hR:Rd L g t w):au ae 186 #[.pointer (aj ⟨g,0,D⟩)] w (PO L g (VC iw) (run xE t) w):=by
 have C1:=U (fun W (hW:Rd L g t W)=>zT W hW);have q:=Oo (hd t).k (hd t).n (hd t).l (hd t).t;unfold tv at C1;obtain⟨r,hr⟩:∃r,run xE t=r:=⟨_,rfl⟩
 rw[hr];have HS:=U hr;have hg:=hR.blk;have HR:=U hR;have HB:E (Bt g w w):=U (bR.refl _ _);clear hR hr;have Z:=U (bT.new (w:=w) (t:=181) (c:=#[.int .i64 0,.string ⟨#[]⟩,.string ⟨#[]⟩]));have Y:=U (bT.new (w:=w.alloc (.cells #[.int .i64 0,.string ⟨#[]⟩,.string ⟨#[]⟩] 181)) (t:=181) (c:=#[.int .i64 1,.string ⟨#[]⟩,.string ⟨#[]⟩]));have e1:(w.alloc (.cells #[.int .i64 0,.string ⟨#[]⟩,.string ⟨#[]⟩] 181)).heap.size=w.heap.size+1:=by simp
 rw[e1] at Y;clear e1;by_cases hk:(hd t).k=2
 · have hb:((hd t).k==2)=true:=by simp[hk]
   replace HS:=jG (arw HS hk);clear hk;go_enter Tryz.func186,Tryz.ntmps186;go_wp2_with fail;refine(C1.out _ (HR.out.low qe)).mono ?_;rintro e w1 ⟨rfl,hb1⟩;have b1:Bt g _ w1:=bR.of hb1;have R1:Rd L g t w1:=HR.out.low (by have q1:Lw g _ w1:=bR.of hb1;exact qe);replace Z:=U (bS (w2:=w1) Z.out qe);replace Y:=U (bS (w2:=w1) Y.out qe);replace HB:E (Bt g w w1):=U qh;replace HR:=U R1;clear b1 R1;clear hb1;go_wp2_with fail;clear q;refine(mh _ (HR.out.low qe)).mono ?_;rintro e w2 h2;rcases h2.cases with⟨x2,u2,v2,r2,rfl,b2,V2,R2⟩|⟨u2,r2,rfl,b2⟩
   rotate_left 1
   · exact kG
   replace HS:=bY HS r2;replace Z:=U (bS (w2:=w2) Z.out qe);replace Y:=U (bS (w2:=w2) Y.out qe);replace HB:E (Bt g w w2):=U qh;replace HR:=U R2;clear b2 R2;clear r2 h2;obtain⟨rfl,n0,n1⟩:=V2;replace HS:=jG HS;have l0:=Y.out.get (r:=0) rfl;have ff:=df (i:=0) Y.out;go_wp2_with fail;replace Y:E (bT (w2.setCell ⟨w.heap.size+1,0,D⟩ (.int .i64 x2)) (w.heap.size+1) 181 #[.int .i64 x2,.string ⟨#[]⟩,.string ⟨#[]⟩]):=U (fq Y.out);clear l0 ff;refine(gW _ _ (HR.out.low qe) (by decide)).mono ?_;rintro e w3 h3;rcases h3.cases with⟨x3,u3,v3,r3,rfl,b3,V3,R3⟩|⟨u3,r3,rfl,b3⟩
   rotate_left 1
   · exact kG
   replace HS:=bY HS r3;replace Z:=U (bS (w2:=w3) Z.out qe);replace Y:=U (bS (w2:=w3) Y.out qe);replace HB:E (Bt g w w3):=U qh;replace HR:=U R3;clear b3 R3;clear r3 h3;obtain rfl:=V3;replace HS:=nJ HS;go_wp2_with fail;refine(jR _ (HR.out.low qe)).mono ?_;rintro e w4 h4;rcases h4.cases with⟨x4,u4,v4,r4,rfl,b4,V4,R4⟩|⟨u4,r4,rfl,b4⟩
   rotate_left 1
   · exact kG
   replace HS:=bY HS r4;replace Z:=U (bS (w2:=w4) Z.out qe);replace Y:=U (bS (w2:=w4) Y.out qe);replace HB:E (Bt g w w4):=U qh;replace HR:=U R4;clear b4 R4;clear r4 h4;obtain rfl:=V4;have l1:=Y.out.get (r:=1) rfl;have ff:=df (i:=1) Y.out;go_wp2_with fail;replace Y:E (bT (w4.setCell ⟨w.heap.size+1,1,D⟩ (.string x4)) (w.heap.size+1) 181 #[.int .i64 x2,.string x4,.string ⟨#[]⟩]):=U (fq Y.out);clear l1 ff;refine(jR _ (HR.out.low qe)).mono ?_;rintro e w5 h5;rcases h5.cases with⟨x5,u5,v5,r5,rfl,b5,V5,R5⟩|⟨u5,r5,rfl,b5⟩
   rotate_left 1
   · exact kG
   replace HS:=bY HS r5;replace Z:=U (bS (w2:=w5) Z.out qe);replace Y:=U (bS (w2:=w5) Y.out qe);replace HB:E (Bt g w w5):=U qh;replace HR:=U R5;clear b5 R5;clear r5 h5;obtain rfl:=V5;have l2:=Y.out.get (r:=2) rfl;have ff:=df (i:=2) Y.out;obtain⟨W,hW⟩:∃W,w5.setCell ⟨w.heap.size+1,2,D⟩ (.string x5)=W:=⟨_,rfl⟩
   have y5:bT W (w.heap.size+1) 181 #[.int .i64 x2,.string x4,.string x5]:=by rw[← hW];exact fq Y.out
   have z5:bT W w.heap.size 181 #[.int .i64 0,.string ⟨#[]⟩,.string ⟨#[]⟩]:=by rw[← hW];exact bS Z.out qe
   have B5:E (Bt g w W):=U XJ;have R5:E (Rd L g u5 W):=U (by rw[← hW];exact(HR.out.low qe));replace Y:=U y5;replace Z:=U z5;clear y5 z5 HB HR;have p0:=Z.out.get (r:=0) rfl;have p1:=Z.out.get (r:=1) rfl;have p2:=Z.out.get (r:=2) rfl;have fz:∀i,ah _ ⟨_,i,D⟩=false:=fun i=>df (i:=i) Z.out;have m0:=Y.out.get (r:=0) rfl;have m1:=Y.out.get (r:=1) rfl;have m2:=Y.out.get (r:=2) rfl;go_wp2_with fail;have bU:=B5.out;refine ag (v:=.agg #[.int .i64 x2,.string x4,.string x5]) ?_ rfl (PO.ok (dA HS) qe rfl (R5.out.low qe));exact Qy
 · have hb:((hd t).k==2)=false:=by simp[hk]
   replace HS:=nJ (arx HS hk);clear hk;go_enter Tryz.func186,Tryz.ntmps186;go_wp2_with fail;refine(C1.out _ (HR.out.low qe)).mono ?_;rintro e w1 ⟨rfl,hb1⟩;have b1:Bt g _ w1:=bR.of hb1;have R1:Rd L g t w1:=HR.out.low (by have q1:Lw g _ w1:=bR.of hb1;exact qe);replace Z:=U (bS (w2:=w1) Z.out qe);replace Y:=U (bS (w2:=w1) Y.out qe);replace HB:E (Bt g w w1):=U qh;replace HR:=U R1;clear b1 R1;clear hb1;go_wp2_with fail;clear q;refine(jR _ (HR.out.low qe)).mono ?_;rintro e w4 h4;rcases h4.cases with⟨x4,u4,v4,r4,rfl,b4,V4,R4⟩|⟨u4,r4,rfl,b4⟩
   rotate_left 1
   · exact kG
   replace HS:=bY HS r4;replace Z:=U (bS (w2:=w4) Z.out qe);replace Y:=U (bS (w2:=w4) Y.out qe);replace HB:E (Bt g w w4):=U qh;replace HR:=U R4;clear b4 R4;clear r4 h4;obtain rfl:=V4;have l1:=Y.out.get (r:=1) rfl;have ff:=df (i:=1) Y.out;go_wp2_with fail;replace Y:E (bT (w4.setCell ⟨w.heap.size+1,1,D⟩ (.string x4)) (w.heap.size+1) 181 #[.int .i64 1,.string x4,.string ⟨#[]⟩]):=U (fq Y.out);clear l1 ff;refine(jR _ (HR.out.low qe)).mono ?_;rintro e w5 h5;rcases h5.cases with⟨x5,u5,v5,r5,rfl,b5,V5,R5⟩|⟨u5,r5,rfl,b5⟩
   rotate_left 1
   · exact kG
   replace HS:=bY HS r5;replace Z:=U (bS (w2:=w5) Z.out qe);replace Y:=U (bS (w2:=w5) Y.out qe);replace HB:E (Bt g w w5):=U qh;replace HR:=U R5;clear b5 R5;clear r5 h5;obtain rfl:=V5;have l2:=Y.out.get (r:=2) rfl;have ff:=df (i:=2) Y.out;obtain⟨W,hW⟩:∃W,w5.setCell ⟨w.heap.size+1,2,D⟩ (.string x5)=W:=⟨_,rfl⟩
   have y5:bT W (w.heap.size+1) 181 #[.int .i64 1,.string x4,.string x5]:=by rw[← hW];exact fq Y.out
   have z5:bT W w.heap.size 181 #[.int .i64 0,.string ⟨#[]⟩,.string ⟨#[]⟩]:=by rw[← hW];exact bS Z.out qe
   have B5:E (Bt g w W):=U XJ;have R5:E (Rd L g u5 W):=U (by rw[← hW];exact(HR.out.low qe));replace Y:=U y5;replace Z:=U z5;clear y5 z5 HB HR;have p0:=Z.out.get (r:=0) rfl;have p1:=Z.out.get (r:=1) rfl;have p2:=Z.out.get (r:=2) rfl;have fz:∀i,ah _ ⟨_,i,D⟩=false:=fun i=>df (i:=i) Z.out;have m0:=Y.out.get (r:=0) rfl;have m1:=Y.out.get (r:=1) rfl;have m2:=Y.out.get (r:=2) rfl;go_wp2_with fail;have bU:=B5.out;refine ag (v:=.agg #[.int .i64 1,.string x4,.string x5]) ?_ rfl (PO.ok (dA HS) qe rfl (R5.out.low qe));exact Qy
set_option maxRecDepth 100000 in
theorem ae9 (w:X) (hR:Rd L g t w):au ae 187 #[.pointer (aj ⟨g,0,D⟩)] w (PO L g (VC iw) (run Dp t) w):=by
 have HN:E (∀u x v,Gd u->run xE u=.ok x v->-1000000000000<=x.co/\x.co<=1000000000000):=U fun u x v hg h=>by
  unfold xE at h
  cases h1:run (kd 2 (bd num fun n=>bd (exp Mc) fun _=>rt n) (rt 1)) u with
  | no q=>rw[fQ h1] at h;cases h
  | ok c q=>
   rw[fD h1] at h;have hc:-1000000000000<=c/\c<=1000000000000:=by
    by_cases hk:(hd u).k=2
    · rw[GH hk] at h1;unfold num at h1
      cases h2:run (bd (tk 2) fun x=>rt x.2) u with
      | no q2=>rw[fQ h2] at h1;cases h1
      | ok n q2=>
       rw[fD h2] at h1;have hn:n=(hd u).n:=by rw[fD (Bv hk)] at h2;cases h2;rfl
       cases h3:run (exp Mc) q2 with
       | no q3=>rw[fQ h3] at h1;cases h1
       | ok _ q3=>rw[fD h3] at h1;cases h1;have:=hg.wf.n;omega
    · rw[GG hk] at h1;cases h1;omega
   cases h2:run fP q with
   | no q2=>rw[fQ h2] at h;cases h
   | ok s q2=>
    rw[fD h2] at h
    cases h3:run fP q2 with
    | no q3=>rw[fQ h3] at h;cases h
    | ok s2 q3=>rw[fD h3] at h;cases h;exact hc
 obtain⟨r,hr⟩:∃r,run Dp t=r:=⟨_,rfl⟩
 rw[hr];have HS:=U hr;have hg:=hR.blk;have HR:=U hR;have HB:E (Bt g w w):=U (bR.refl _ _);clear hR hr;have Z:=U (bT.new (w:=w) (t:=181) (c:=#[.int .i64 0,.string ⟨#[]⟩,.string ⟨#[]⟩]));go_enter Tryz.func187,Tryz.ntmps187;go_wp2_with fail;refine(dL _ _ (HR.out.low qe) (by decide)).mono ?_;rintro e w1 ⟨b1,⟨i1,rfl,R1⟩|⟨i1,rfl,R1⟩⟩
 · replace HS:=dY HS i1;replace Z:=U (bS (w2:=w1) Z.out qe);replace HB:E (Bt g w w1):=U qh;replace HR:=U R1;clear b1 R1;clear i1;go_wp2_with fail;refine(WL _ (HR.out.low qe)).mono ?_;rintro e w2 h2;rcases h2.cases with⟨x2,u2,v2,r2,rfl,b2,V2,R2⟩|⟨u2,r2,rfl,b2⟩
   rotate_left 1
   · have bU:=HB.out;go_wp2_with fail;exact⟨rfl,PO.no (HS.out.symm.trans r2) qe⟩
   have HL2:=U (HS.out.symm.trans r2);replace Z:=U (bS (w2:=w2) Z.out qe);replace HB:E (Bt g w w2):=U qh;replace HR:=U R2;clear b2 R2;clear r2 h2;obtain rfl:=V2;have p0:=Z.out.get (r:=0) rfl;have p1:=Z.out.get (r:=1) rfl;have p2:=Z.out.get (r:=2) rfl;have fz:∀i,ah _ ⟨_,i,D⟩=false:=fun i=>df (i:=i) Z.out;dsimp only [iw];go_wp2_with fail;have bU:=HB.out;refine ag (v:=.agg (iw x2)) ?_ rfl (PO.ok HL2.out qe rfl (HR.out.low qe));exact Qy
 · replace HS:=dX HS i1;replace Z:=U (bS (w2:=w1) Z.out qe);replace HB:E (Bt g w w1):=U qh;replace HR:=U R1;clear b1 R1;clear i1;go_wp2_with fail;refine(gW _ _ (HR.out.low qe) (by decide)).mono ?_;rintro e w2 h2;rcases h2.cases with⟨x2,u2,v2,r2,rfl,b2,V2,R2⟩|⟨u2,r2,rfl,b2⟩
   rotate_left 1
   · exact kG
   replace HS:=bY HS r2;replace Z:=U (bS (w2:=w2) Z.out qe);replace HB:E (Bt g w w2):=U qh;replace HR:=U R2;clear b2 R2;clear r2 h2;obtain rfl:=V2;go_wp2_with fail;refine(WL _ (HR.out.low qe)).mono ?_;rintro e w3 h3;rcases h3.cases with⟨x3,u3,v3,r3,rfl,b3,V3,R3⟩|⟨u3,r3,rfl,b3⟩
   rotate_left 1
   · exact kG
   have hn:=HN.out _ _ _ HR.out.gd r3;replace HS:=bY HS r3;replace Z:=U (bS (w2:=w3) Z.out qe);replace HB:E (Bt g w w3):=U qh;replace HR:=U R3;clear b3 R3;clear r3 h3;obtain rfl:=V3;have s3:=Z.out.lt;have Y:=U (bT.new (w:=w3) (t:=181) (c:=#[.int .i64 x3.co,.string x3.wh,.string x3.nm]));have hw:wrap64 (-x3.co) = -x3.co:=by unfold wrap64;omega
   obtain⟨W,hW⟩:∃W,(w3.alloc (.cells #[.int .i64 x3.co,.string x3.wh,.string x3.nm] 181)).setCell ⟨w3.heap.size,0,D⟩ (.int .i64 (-x3.co))=W:=⟨_,rfl⟩
   have y5:bT W w3.heap.size 181 #[.int .i64 (-x3.co),.string x3.wh,.string x3.nm]:=by rw[← hW];exact fq Y.out
   have z5:bT W w.heap.size 181 #[.int .i64 0,.string ⟨#[]⟩,.string ⟨#[]⟩]:=by rw[← hW];exact bS Z.out qe
   have B5:E (Bt g w W):=U XJ;have R5:E (Rd L g u3 W):=U (by rw[← hW];exact(HR.out.low qe));have l0:=Y.out.get (r:=0) rfl;have ff:=df (i:=0) Y.out;have q0:World.cell? W ⟨_,0,D⟩=aj (.int .i64 (-x3.co)):=y5.get rfl;have q1:World.cell? W ⟨_,1,D⟩=aj (.string x3.wh):=y5.get rfl;have q2:World.cell? W ⟨_,2,D⟩=aj (.string x3.nm):=y5.get rfl;replace Z:=U z5;clear y5 z5 HB HR Y hn;have p0:=Z.out.get (r:=0) rfl;have p1:=Z.out.get (r:=1) rfl;have p2:=Z.out.get (r:=2) rfl;have fz:∀i,ah _ ⟨_,i,D⟩=false:=fun i=>df (i:=i) Z.out;dsimp only [iw];go_wp2_with fail;have bU:=B5.out;refine ag (v:=.agg #[.int .i64 (-x3.co),.string x3.wh,.string x3.nm]) ?_ rfl (PO.ok (dA HS) qe rfl (R5.out.low qe));exact Qy
end
end Ps
namespace Ps
open Go.RowKit
open Ex (FZ)
open Md (Rec fC Rw At ou JF JG TG TE Kind iH nC)
set_option maxHeartbeats 2000000
structure bZ {α:Type} (T:ax) (k:Nat) (R:Rec α) (G:Nat->Prop) (w:X) (v:af) (l:List α):Prop where
 ex:∃C:List (Array af),C.length=l.length/\(∀i,(h:i<l.length)->(h2:i<C.length)->R (fun b=>G b/\¬v.ownBlock=aj b) w l[i] C[i])/\w.ownsRow 0 T k v l.length (ou C)
 blk:∀b,v.ownBlock=aj b->G b
theorem Ky {w w2:X} {base k n:Nat} {T:ax} {v:af} {xs:List af} (h:w.ownsRow base T k v n xs) (hb:∀b,v.ownBlock=aj b->w2.heap[b]?=w.heap[b]?):w2.ownsRow base T k v n xs:=by
 obtain⟨h1,h2|⟨g,cap,cur,rfl,h3,h4,h5⟩⟩:=h
 · exact⟨h1,.inl h2⟩
 · exact⟨h1,.inr ⟨g,cap,cur,rfl,h3,(hb g rfl).trans h4,h5⟩⟩
section
variable {α:Type} {LT T:ax} {k:Nat} {R:Rec α} {G H:Nat->Prop} {w w2:X} {v:af} {l:List α} {x:α}
theorem bZ.own {b:Nat} (h:bZ T k R G w v l) (hv:v.ownBlock=aj b):b<w.heap.size:=by
 obtain⟨C,h1,h2,h3⟩:=h.ex;exact(h3.lt b hv).2
theorem bZ.map (hm:fC R) (h:bZ T k R G w v l) (hs:w.heap.size<=w2.heap.size) (hk:∀b,G b->b<w.heap.size->H b/\w2.heap[b]?=w.heap[b]?):bZ T k R H w2 v l:=by
 have ho:=fun b (hv:v.ownBlock=aj b)=>h.own hv;obtain⟨C,h1,h2,h3⟩:=h.ex;exact⟨⟨C,h1,fun i hi hi2=>hm hs (fun b hg hb=>⟨⟨(hk b hg.1 hb).1,hg.2⟩,(hk b hg.1 hb).2⟩) (h2 i hi hi2),Ky h3 fun b hv=>(hk b (h.blk b hv) (ho b hv)).2⟩,fun b hv=>(hk b (h.blk b hv) (ho b hv)).1⟩
theorem bZ.up {lo lo2:Nat} (hm:fC R) (h:bZ T k R (fun b=>lo<=b) w v l) (hb:Up lo w w2) (hl:lo2<=lo):bZ T k R (fun b=>lo2<=b) w2 v l:=h.map hm hb.size fun b hg hlt=>⟨by omega,hb.block b hlt hg⟩
theorem bZ.nil:bZ T k R G w (.slice D 0 0) ([]:List α):=⟨⟨[],rfl,fun i h=>absurd h (Nat.not_lt_zero _),World.ownsRow_nil _ _ _ _⟩,fun b h=>by cases h⟩
theorem bZ.one {c:Array af} (hR:R (fun b=>G b/\b<w.heap.size) w x c) (hm:fC R) (hs:iH k R) (hg:G w.heap.size):bZ T k R G (w.alloc (.cells c T)) (.slice (aj ⟨w.heap.size,0,D⟩) 1 1) [x]:=by
 have hz:=hs hR;refine⟨⟨[c],rfl,fun i h h2=>?_,?_⟩,fun b hb=>?_⟩
 · have h0:i=0:=by simp at h;omega
   subst h0;exact hm (by simp) (fun b hb hlt=>⟨⟨hb.1,by
    intro e;have:w.heap.size=b:=by simpa [Value.ownBlock] using e
    omega⟩,by
    show(w.heap.push _)[b]?=_
    rw[Array.getElem?_push,if_neg (by omega)]⟩) hR
 · refine⟨by rw[JG (k:=k) (by intro d hd;rw[List.mem_singleton] at hd;rw[hd];exact hz.1)];rfl,.inr ⟨w.heap.size,1,c,rfl,Nat.zero_le _,World.alloc_heap_new w _,ak _,by unfold maxLen;omega,by rw[hz.1];omega,?_⟩⟩;have e:c.toList.length=k:=by rw[Array.length_toList];exact hz.1
   show c.toList.take (1*k)=ou [c]
   rw[List.take_of_length_le (by omega)];simp[ou]
 · have:w.heap.size=b:=by simpa [Value.ownBlock] using hb
   rwa [← this]
theorem bZ.app (I:Kind LT T k) (hm:fC R) (hs:iH k R) (ho:bZ T k R G w v l) {B:Nat} {c:Array af} (hc:At w B 0 c) (hR:R (fun b=>G b/\¬v.ownBlock=aj b) w x c) (hn:l.length<=1000000) :
 ∃(v':af) (w':X),(Builtin.append_ #[LT,LT] LT #[v,.slice (aj ⟨B,0,D⟩) 1 1]).run ae w=.ok v' w'/\bZ T k R (fun b=>G b∨w.heap.size<=b) w' v' (l++[x])/\w.grownBy w' v.ownBlock:=by
 have hown:=fun b (hv:v.ownBlock=aj b)=>ho.own hv;have hblk:=ho.blk;obtain⟨C,a1,a2,a3⟩:=ho.ex;have hz0:∀d∈C,d.size=k:=fun d hd=>by
  obtain⟨i,hi,rfl⟩:=List.getElem_of_mem hd;exact(hs (a2 i (by omega) hi)).1
 have hz:=hs hR;obtain⟨i0,z,hi0,hi1,hi2,hi3,hi4⟩:=I.info;have hmx:(l.length+1)*i0.bytes<=140737488355328:=by
  have h1:(l.length+1)*i0.bytes<=1000001*1000:=Nat.mul_le_mul (by omega) hi4;omega
 have hf:ou [c]=c.toList:=by simp[ou]
 obtain⟨v',w',e1,e2,e3,-,e5⟩:=run_append_own_at (P:=ae) w 0 LT LT T i0 z k i0.bytes I.slice hi0 hi1 hi2 rfl hi3 I.pos v l.length _ a3 ⟨B,0,D⟩ 1 1 (ou [c]) (by rw[hf,Array.length_toList,hz.1];omega) (fun j u hu=>by
  rw[hf,Array.getElem?_toList] at hu;have:=hc j u hu;rw[Nat.zero_add] at this;rw[FZ,Nat.zero_add];exact this) (TG fun d hd=>by rw[List.mem_singleton] at hd;rw[hd];exact hz.2) (by unfold maxLen;omega) hmx (Nat.zero_le _)
 have hne:∀b,b<w.heap.size->¬v.ownBlock=aj b->¬v'.ownBlock=aj b:=fun b hb h1 h2=>by
  rcases e5 with e5|e5
  · rw[e5] at h2;exact h1 h2
  · rw[e5] at h2;injection h2 with h2;omega
 have keep:∀{y:α} {d:Array af},R (fun b=>G b/\¬v.ownBlock=aj b) w y d->R (fun b=>(G b∨w.heap.size<=b)/\¬v'.ownBlock=aj b) w' y d:=fun {y d} hr=>hm e3.size (fun b hb hlt=>⟨⟨.inl hb.1,hne b hlt hb.2⟩,e3.block b hlt (fun he=>hb.2 he.symm)⟩) hr;refine⟨v',w',e1,⟨⟨C++[c],by simp[a1],fun i hi hi2=>?_,?_⟩,fun b hb=>?_⟩,e3⟩
 · rw[List.getElem_append,List.getElem_append];by_cases h0:i<l.length
   · rw[dif_pos h0,dif_pos (by omega)];exact keep (a2 i h0 (by omega))
   · rw[dif_neg h0,dif_neg (by omega)];have e:i=l.length:=by simp at hi;omega
     subst e;simp only[a1,Nat.sub_self,List.getElem_cons_zero];exact keep hR
 · rw[TE,List.length_append];exact e2
 · rcases e5 with e5|e5
   · rw[e5] at hb;exact .inl (hblk b hb)
   · rw[e5] at hb;injection hb with hb;exact .inr (by omega)
theorem bZ.rw (hm:fC R) (hs:iH k R) (h:bZ T k R G w v l) (hn:l.length<=1000000):∃p c,v=.slice p l.length c/\Rw k R G w l p l.length:=by
 have hblk:=h.blk;obtain⟨C,h1,h2,h3⟩:=h.ex;rcases h3.2 with⟨rfl,h0⟩|⟨g,cap,cur,rfl,hb,hg,-⟩
 · exact⟨D,0,by rw[h0],rfl,by omega,.inl h0⟩
 · have hgl:g<w.heap.size:=(Array.getElem?_eq_some_iff.1 hg).1;have hL:∀c∈C,c.size=k:=fun c hc=>by
    obtain⟨i,hi,rfl⟩:=List.getElem_of_mem hc;exact(hs (h2 i (by omega) hi)).1
   refine⟨aj ⟨g,0,D⟩,cap,rfl,rfl,by omega,.inr ⟨g,0,rfl,hblk g rfl,hgl,U fun i hi=>?_⟩⟩;have hi2:i<C.length:=by omega
   have hR:=h2 i hi hi2;refine⟨C[i],(hs hR).1,fun r u hu=>?_,hm (ak _) (fun b hb _=>⟨hb.1,rfl⟩) hR⟩;have hr:r<k:=by have:=(Array.getElem?_eq_some_iff.1 hu).1;rwa [(hs hR).1] at this
   have hlt:i*k+r<l.length*k:=by
    have:=Nat.mul_le_mul_right k (show i+1<=l.length by omega);rw[Nat.add_mul] at this;omega
   rw[Nat.zero_add,h3.cellAt (i*k+r) hlt,JF hL hi2 hr];exact hu
end
def VL {α:Type} (k:Nat) (R:Rec α) (lo:Nat) (w:X) (l:List α) (v:af):Prop:=∃p m c,v=.slice p m c/\Rw k R (fun b=>lo<=b) w l p m
def VR {α:Type} (R:Rec α) (lo:Nat) (w:X) (x:α) (v:af):Prop:=∃c,v=.agg c/\R (fun b=>lo<=b) w x c
theorem bR.grown {S:Nat->Prop} {a w w2:X} {row:Option Nat} (h:bR S a w) (hg:w.grownBy w2 row) (hr:∀b,row=aj b->a.heap.size<=b∨¬S b):bR S a w2:=
 ⟨hg.os.trans h.os, hg.tape.trans h.tape, hg.output.trans h.output, Nat.le_trans h.size hg.size, fun k hk hs => (hg.block k (av hk h.size) (fun e => by
   rcases hr k e.symm with g|g
   · omega
   · exact g hs)).trans (h.block k hk hs)⟩
def lq:Rec (Int×Int):=fun _ _ x c=>c=tV x
theorem lq.map:fC lq:=by intro G H w w2 _ _ x c h;exact h
theorem Vx:iH 2 lq:=by intro G w x c h;subst h;exact⟨rfl,by simp[tV,Value.oneCell']⟩
theorem kPr:Kind 247 249 2:=nC Tryz.underlying247 (z:=.agg #[.int .i64 0,.int .i64 0]) (b:=16) (by kernel_rfl) (by decide) (by decide) (by decide)
end Ps
namespace Ps
open Go.RowKit
open Lx (Tk)
open Md (bT)
set_option maxHeartbeats 4000000
section
variable {L:Lk} {g:Nat} {t:List Tk}
structure aia (L:Lk) (g:Nat) (r:R (List (Int×Int))) (w:X) (k:Nat) (v:af) (wr:X):Prop where
 ex:∃l u,run (ER k l) u=r/\u.length<k/\l.length+u.length<=30000/\bZ 249 2 lq (fun b=>w.heap.size<=b) wr v l/\Rd L g u wr
 bt:Bt g w wr
set_option maxRecDepth 100000 in
theorem aen (w:X) (hR:Rd L g t w):au ae 168 #[.pointer (aj ⟨g,0,D⟩)] w (PO L g (VL 2 lq) (run yD t) w):=by
 have hd0:E (∀x u,run pr t=.ok x u->u.length+3<=t.length):=U (fun x u h=>(NY.out hR.gd h).2);have ht:=hR.small;obtain⟨r,hr⟩:∃r,run yD t=r:=⟨_,rfl⟩
 rw[hr];have HS:=U hr;have hg:=hR.blk;have HR:=U hR;have HB:E (Bt g w w):=U (bR.refl _ _);clear hR hr;go_enter Tryz.func168,Tryz.ntmps168;go_wp2_with fail;refine(aem _ (HR.out.low qe)).mono ?_;rintro e w1 h1;rcases h1.cases with⟨x1,u1,v1,r1,rfl,b1,V1,R1⟩|⟨u1,r1,rfl,b1⟩
 rotate_left 1
 · have bU:=HB.out;go_wp2_with fail;exact⟨rfl,PO.no (dJ HS (by assumption)) qe⟩
 have hl1:=hd0.out _ _ r1;replace HS:=bY HS r1;replace HB:E (Bt g w w1):=U qh;replace HR:=U R1;clear b1 R1;clear r1 h1 hd0;obtain rfl:=V1;have o1:bZ 249 2 lq (fun b=>w.heap.size<=b) (w1.alloc (.cells (tV x1) 249)) (.slice (aj ⟨w1.heap.size,0,D⟩) 1 1) [x1]:=bZ.one rfl lq.map Vx HB.out.size;have HO:=U o1;have HT:=U hl1;unfold tV at o1;unfold tV;clear o1 hl1;go_wp2_with fail;go_loopg [3] FU (aia L g r w)
 case atStart=>
  have h1:=HT.out;exact⟨⟨[x1],u1,HS.out,by unfold FU;omega,by simp;omega,HO.out,(HR.out.low qe)⟩,by have bU:=HB.out;exact qe⟩
 case round=>
  obtain⟨⟨l,u,hs,hk,hl,ho,hR⟩,hb⟩:=hrel;clear HS HB HR HO HT;obtain⟨k,rfl⟩:∃k,gk=k+1:=⟨gk-1,by omega⟩
  rw[ER] at hs;have C1:=U (fun W (hW:Rd L g u W)=>zT W hW);have q:=Oo (hd u).k (hd u).n (hd u).l (hd u).t;unfold tv at C1;have HL:=U hl;have HK:=U hk;have HO:=U ho;have HR:=U hR;have HB:=U hb;have HS:=U hs;by_cases h2:(hd u).k=2
  · have hb2:((hd u).k==2)=true:=by simp[h2]
    replace HS:=Wt HS h2;have hd0:E (∀x v,run pr u=.ok x v->v.length+3<=u.length):=U (fun x v h=>(NY.out hR.gd h).2);clear h2 hl hk ho hR hb hs;go_wp2_with fail;refine(C1.out _ HR.out).mono ?_;rintro e w2 ⟨rfl,hb1⟩;replace HR:E (Rd L g u w2):=U (HR.out.low (bR.of hb1));have o2:bZ 249 2 lq (fun b=>w.heap.size<=b) w2 u3 l:=HO.out.up lq.map (bR.of hb1) (ak _);replace HO:=U o2;replace HB:E (Bt g w w2):=U (HB.out.below hb1);clear hb1 o2;go_wp2_with fail;clear q;refine(aem _ (HR.out.low qe)).mono ?_;rintro e w3 h3;rcases h3.cases with⟨x3,WQ,v3,r3,rfl,b3,V3,R3⟩|⟨WQ,r3,rfl,b3⟩
    rotate_left 1
    · have bU:=HB.out;go_wp2_with fail;exact⟨rfl,PO.no (dJ HS (by assumption)) qe⟩
    have hl1:=hd0.out _ _ r3;replace HS:=bY HS r3;have o3:bZ 249 2 lq (fun b=>w.heap.size<=b) w3 u3 l:=HO.out.up lq.map (b3.mono fun k _ hk=>by have:w.heap.size<=k:=hk;omega) (ak _);have HT:=U hl1;replace HO:=U o3;replace HB:E (Bt g w w3):=U qh;replace HR:=U R3;clear b3 R3;clear r3 h3 hd0 hl1 o3;obtain rfl:=V3;have o4:bZ 249 2 lq (fun b=>w.heap.size<=b) (w3.alloc (.cells (tV x3) 249)) u3 l:=HO.out.up lq.map qe (ak _);have c4:bT (w3.alloc (.cells (tV x3) 249)) w3.heap.size 249 (tV x3):=bT.new;obtain⟨v5,w5,hrun,o5,hg5⟩:=o4.app kPr lq.map Vx c4.cell (x:=x3) rfl (by have:=HL.out;omega);have s3:=HB.out.size;have B5:E (Bt g w w5):=U (bR.grown qh hg5 fun b hb=>.inl (o4.blk b hb));have R5:E (Rd L g WQ w5):=U (HR.out.low (bR.grown qe hg5 fun b hb=>.inr (by have:=o4.blk b hb;show ¬b<=g;omega)));have O5:E (bZ 249 2 lq (fun b=>w.heap.size<=b) w5 v5 (l++[x3])):=U (o5.map lq.map (ak _) fun b hb _=>⟨by
     rcases hb with hb|hb
     · exact hb
     · have e:(w3.alloc (.cells (tV x3) 249)).heap.size=w3.heap.size+1:=by simp
       omega,rfl⟩)
    unfold tV at hrun;clear o4 c4 o5 hg5 HB HR HO;unfold tV;go_wp2_with (at_builtin;refine Lib.wpList_append_run _ rfl _ _ _ _ rfl _ _ rfl rfl _ _ hrun ?_)
    go_roundg k
    case measure=>omega
    case rel=>
     have h1:=HT.out;have h2:=HK.out;have h3:=HL.out;exact⟨⟨_,WQ,HS.out,by omega,by simp;omega,O5.out,R5.out⟩,B5.out⟩
  · have hb2:((hd u).k==2)=false:=by simp[h2]
    replace HS:=Wu HS h2;clear h2 hl hk ho hR hb hs;go_wp2_with fail;refine(C1.out _ HR.out).mono ?_;rintro e w2 ⟨rfl,hb1⟩;replace HR:E (Rd L g u w2):=U (HR.out.low (bR.of hb1));have o2:bZ 249 2 lq (fun b=>w.heap.size<=b) w2 u3 l:=HO.out.up lq.map (bR.of hb1) (ak _);obtain⟨p,c,rfl,hrw⟩:=o2.rw lq.map Vx (by have:=HL.out;omega);have HW:=U hrw;replace HB:E (Bt g w w2):=U (HB.out.below hb1);clear hb1 o2 hrw HO;go_wp2_with fail;go_ret;exact PO.ok (dA HS) HB.out ⟨p,_,c,rfl,HW.out⟩ HR.out
end
end Ps
namespace Ps
open Go.RowKit
open Lx (Tk)
set_option maxHeartbeats 600000
section
variable {L:Lk} {g:Nat} {t:List Tk}
theorem agp {p:Prop} (h:p:=by
 have HL:=U (HS.out.symm.trans r3);replace HB:E (Bt g w w3):=U qh;replace HR:=U R3;clear b3 R3;go_wp2_with fail;go_ret;exact PO.ok HL.out HB.out rfl HR.out
 ):p:=h
theorem agn {p:Prop} (h:p:=by
 go_wp2_with fail;refine(Qh _ (HR.out.low qe)).mono ?_;rintro e w3 h3;rcases h3.cases with⟨x3,u3,v3,r3,rfl,b3,V3,R3⟩|⟨u3,r3,rfl,b3⟩
 · obtain⟨rfl,-⟩:=V3;exact agp
 · have bU:=HB.out;go_wp2_with fail;exact⟨rfl,PO.no (HS.out.symm.trans r3) qe⟩
 ):p:=h
theorem XZ {p:Prop} (h:p:=by have q:Lw g _ w1:=bR.of hb1;exact qe):p:=h
set_option maxRecDepth 100000 in
theorem aiL (w:X) (hR:Rd L g t w):au ae 185 #[.pointer (aj ⟨g,0,D⟩)] w (PO L g VI (run arg t) w):=by
 obtain⟨r,hr⟩:∃r,run arg t=r:=⟨_,rfl⟩
 rw[hr];have HS:=U hr;have hg:=hR.blk;have HR:=U hR;have HB:E (Bt g w w):=U (bR.refl _ _);clear hR hr;go_enter Tryz.func185,Tryz.ntmps185
 cases i1:is AL t
 · replace HS:=Fj HS i1
   cases i2:is Cy t
   · replace HS:=Fj HS i2;go_wp2_with fail;refine(qf AL _ (HR.out.low qe)).mono ?_;rintro e w1 ⟨rfl,hb1⟩;have b1:Bt g _ w1:=bR.of hb1;have R1:Rd L g _ w1:=HR.out.low XZ;clear hb1;rw[i1];replace HB:E (Bt g w w1):=U qh;replace HR:=U R1;clear b1 R1;go_wp2_with fail;refine(qf Cy _ (HR.out.low qe)).mono ?_;rintro e w2 ⟨rfl,hb2⟩;have b2:Bt g _ w2:=bR.of hb2;have R2:Rd L g _ w2:=HR.out.low (by have q:Lw g _ w2:=bR.of hb2;exact qe);clear hb2;rw[i2];replace HB:E (Bt g w w2):=U qh;replace HR:=U R2;clear b2 R2;clear i1 i2;go_wp2_with fail;refine(OH _ (HR.out.low qe)).mono ?_;rintro e w3 h3;rcases h3.cases with⟨x3,u3,v3,r3,rfl,b3,V3,R3⟩|⟨u3,r3,rfl,b3⟩
     · obtain rfl:=V3;exact agp
     · have bU:=HB.out;go_wp2_with fail;exact⟨rfl,PO.no (HS.out.symm.trans r3) qe⟩
   · replace HS:=Fp HS i2;go_wp2_with fail;refine(qf AL _ (HR.out.low qe)).mono ?_;rintro e w1 ⟨rfl,hb1⟩;have b1:Bt g _ w1:=bR.of hb1;have R1:Rd L g _ w1:=HR.out.low XZ;clear hb1;rw[i1];replace HB:E (Bt g w w1):=U qh;replace HR:=U R1;clear b1 R1;go_wp2_with fail;refine(qf Cy _ (HR.out.low qe)).mono ?_;rintro e w2 ⟨rfl,hb2⟩;have b2:Bt g _ w2:=bR.of hb2;have R2:Rd L g _ w2:=HR.out.low (by have q:Lw g _ w2:=bR.of hb2;exact qe);clear hb2;rw[i2];replace HB:E (Bt g w w2):=U qh;replace HR:=U R2;clear b2 R2;clear i1 i2;exact agn
 · replace HS:=Fp HS i1;go_wp2_with fail;refine(qf AL _ (HR.out.low qe)).mono ?_;rintro e w1 ⟨rfl,hb1⟩;have b1:Bt g _ w1:=bR.of hb1;have R1:Rd L g _ w1:=HR.out.low XZ;clear hb1;rw[i1];replace HB:E (Bt g w w1):=U qh;replace HR:=U R1;clear b1 R1;clear i1;exact agn
end
end Ps
end Go.Proofs.YtbgodajefaahdaaGreatDoor
