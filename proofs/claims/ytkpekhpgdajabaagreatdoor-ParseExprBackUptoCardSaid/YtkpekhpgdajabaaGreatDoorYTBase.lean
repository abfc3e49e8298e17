/-
  Parts of this proof: Words for the reader of tokens in memory, and fo. The contracts of the reader's single steps. The contracts of the reader's tests. The contracts of the reader's small rules. The contract of the reader's argument. The kinds of the lists that a model has, and the.
-/
import Derived.Test.YtkpekhpgdajabaaGreatDoorYNmCheck
open Go.Proofs.Tryz
open Go renaming World->U,Value->af,TypeId->ai,Calls->aj,bodyPost_ret->au
open Option renaming none->X,some->ah
open Go.Proofs.Tryz renaming prog->ae
open Nat renaming lt_of_lt_of_le->ag
open Go.Lib renaming hid->Y
open Go.RowKit renaming Hid->ak
set_option linter.unusedVariables false
set_option maxRecDepth 100000
set_option maxHeartbeats 16000000
open Go.Lib (hid)
namespace Go.Proofs.YtkpekhpgdajabaaGreatDoor
namespace Ps
open Ps.P (rt fl bd acc see kd len)
open Go.RowKit
open Lx (Tk mt jC)
open Ex (Ex Gives iJ uy qJ bX)
open Sm (St dh Pl)
open Md (Big bU)
structure bS (S:Nat->Prop) (a w:U):Prop where
 os:w.os=a.os
 tape:w.tape=a.tape
 output:w.output=a.output
 size:a.heap.size<=w.heap.size
 block:∀k,k<a.heap.size->S k->w.heap[k]?=a.heap[k]?
section
variable {S S':Nat->Prop} {a w w2:U}
theorem bS.refl (S:Nat->Prop) (w:U):bS S w w:=⟨rfl,rfl,rfl,Nat.le_refl _,fun _ _ _=>rfl⟩
theorem bS.trans (h:bS S a w) (g:bS S w w2):bS S a w2:=⟨g.os.trans h.os,g.tape.trans h.tape,g.output.trans h.output,Nat.le_trans h.size g.size,fun k hk hs=>(g.block k (ag hk h.size) hs).trans (h.block k hk hs)⟩
theorem bS.call (h:bS S a w) (g:bS S' w w2) (hs:∀k,k<a.heap.size->S k->S' k):bS S a w2:=⟨g.os.trans h.os,g.tape.trans h.tape,g.output.trans h.output,Nat.le_trans h.size g.size,fun k hk hsk=>(g.block k (ag hk h.size) (hs k hk hsk)).trans (h.block k hk hsk)⟩
theorem bS.of (h:Below a.heap.size a w):bS S a w:=⟨h.os,h.tape,h.output,h.size,fun k hk _=>h.block k hk⟩
theorem bS.below (h:bS S a w) (g:Below w.heap.size w w2):bS S a w2:=h.trans (bS.of g)
theorem bS.alloc {o:Obj} (h:bS S a w):bS S a (w.alloc o):=h.below (iJ (Below.refl _ _))
theorem bS.drew (h:bS S a w):bS S a w.drew:=h.below (qJ (Below.refl _ _))
theorem bS.drewN {n:Nat} (h:bS S a w):bS S a (w.drewN n):=h.below (uy (Below.refl _ _))
theorem bS.set {p:Addr} {v:af} (h:bS S a w) (hp:a.heap.size<=p.block∨¬S p.block):bS S a (w.setCell p v):=by
 refine h.call (S':=fun k=>k≠p.block) ⟨rfl,rfl,rfl,by show _<=(w.heap.modify _ _).size;rw[Array.size_modify];exact Nat.le_refl _,fun k hk hb=>by show(w.heap.modify _ _)[k]?=_;rw[Array.getElem?_modify,if_neg (fun e=>hb e.symm)]⟩ ?_;intro k hk hs e;rcases hp with hp|hp
 · omega
 · exact hp (e▸hs)
theorem vR {p:Prop} (h:p:=by first|(left;simp;done)|(left;simp;omega)|(right;simp;done)|(right;simp;omega)):p:=h
theorem vS {p:Prop} (h:p:=by intro k hk hs;first|exact hs|((try dsimp only at hs ⊢);omega)):p:=h
theorem vT {p:Prop} (h:p:=by assumption):p:=h
theorem qe {p:Prop} (h:p:=by(repeat (first|(with_reducible exact bS.refl _ _)|(with_reducible assumption)|(with_reducible apply bS.alloc)|(with_reducible apply bS.drewN)|(with_reducible apply bS.drew)|(with_reducible refine bS.set ?_ vR)|(with_reducible refine bS.call ?_ vT vS)))):p:=h
theorem qh {p:Prop} (h:p:=by have bY:=HB.out;(repeat (first|(with_reducible exact bS.refl _ _)|(with_reducible assumption)|(with_reducible apply bS.alloc)|(with_reducible apply bS.drewN)|(with_reducible apply bS.drew)|(with_reducible refine bS.set ?_ vR)|(with_reducible refine bS.call ?_ vT vS)))):p:=h
theorem bS.mono (h:bS S a w) (hs:∀k,k<a.heap.size->S' k->S k):bS S' a w:=⟨h.os,h.tape,h.output,h.size,fun k hk hk2=>h.block k hk (hs k hk hk2)⟩
end
abbrev Bt (g:Nat) (a w:U):Prop:=bS (fun k=>k≠g) a w
abbrev Up (lo:Nat) (a w:U):Prop:=bS (fun k=>lo<=k) a w
abbrev Lw (g:Nat) (a w:U):Prop:=bS (fun k=>k<=g) a w
theorem fA {w:U} {g i:Nat} {t:ai} {c:Array af} (h:bU w g t c):w.frozen? ⟨g,i,X⟩=false:=by
 unfold World.frozen?;rw[show w.heap[(⟨g,i,X⟩:Addr).block]?=_ from h];simp
theorem eX {w:U} {g i:Nat} {t:ai} {c:Array af} {v:af} (h:bU w g t c):bU (w.setCell ⟨g,i,X⟩ v) g t (c.setIfInBounds i v):=by
 unfold bU at h ⊢
 show(w.heap.modify g _)[g]?=_
 rw[Array.getElem?_modify,if_pos rfl,h];rfl
theorem eT {w w2:U} {g:Nat} {t:ai} {c:Array af} {S:Nat->Prop} (h:bU w g t c) (hb:bS S w w2) (hs:S g):bU w2 g t c:=h.keep (hb.block g h.lt hs)
theorem am5 {w:U} {g:Nat} {t:ai} {z c:Array af} (h:bU w g t z):bU (w.setRow g c) g t c:=by
 unfold bU at h ⊢
 show(w.heap.modify g _)[g]?=_
 rw[Array.getElem?_modify,if_pos rfl,h];rfl
theorem am6 {w:U} {g:Nat} {c:Array af}:Bt g w (w.setRow g c):=⟨rfl,rfl,rfl,by show _<=(w.heap.modify _ _).size;rw[Array.size_modify];exact Nat.le_refl _,fun k hk hb=>by show(w.heap.modify _ _)[k]?=_;rw[Array.getElem?_modify,if_neg (fun e=>hb e.symm)]⟩
theorem ae2 {w w2:U} {b g:Nat} {t:ai} {c:Array af} (h:bU w b t c) (hb:Bt g w w2) (hn:¬b=g):bU w2 b t c:=h.keep (hb.block b h.lt hn)
theorem cZ {w w2:U} {b:Nat} {t:ai} {c:Array af} (h:bU w b t c) (hb:bS (fun k=>k=b) w w2):bU w2 b t c:=h.keep (hb.block b h.lt rfl)
theorem bV {w:World} {b:Nat} {t:TypeId} {c:Array Value} (h:Hid (bU w b t c)) (w2:World) (hb:bS (fun k=>k=b) w w2:=by(repeat (first|(with_reducible exact bS.refl _ _)|(with_reducible assumption)|(with_reducible apply bS.alloc)|(with_reducible apply bS.drewN)|(with_reducible apply bS.drew)|(with_reducible refine bS.set ?_ vR)|(with_reducible refine bS.call ?_ vT vS)))):Hid (bU w2 b t c):=Y (cZ h.out hb)
theorem eu {g:Nat} {w w1:World} (h:Hid (Bt g w w1)) (w2:World) (hb:Bt g w w2:=by have bY:=HB.out;(repeat (first|(with_reducible exact bS.refl _ _)|(with_reducible assumption)|(with_reducible apply bS.alloc)|(with_reducible apply bS.drewN)|(with_reducible apply bS.drew)|(with_reducible refine bS.set ?_ vR)|(with_reducible refine bS.call ?_ vT vS)))):Hid (Bt g w w2):=Y hb
theorem dM {w:U} {B:Nat} {t:ai} {a b c d:af} (h:bU w B t #[a,b,c,d]):w.cell? ⟨B,0,X⟩=ah a/\w.cell? ⟨B,1,X⟩=ah b/\w.cell? ⟨B,2,X⟩=ah c/\w.cell? ⟨B,3,X⟩=ah d/\∀i,w.frozen? ⟨B,i,X⟩=false:=⟨h.get rfl,h.get rfl,h.get rfl,h.get rfl,fun i=>fA (i:=i) h⟩
theorem jS {lo:Nat} {w:World} {x:Ex} {p:Option Addr} {m:Nat} (k:bX (fun b=>lo<=b) w x p m) (n:Nat) (h:n<lo:=by first|omega|(simp;omega)):Hid (bX (fun b=>n<b) w x p m):=Y (k.mono fun _ hb _=>ag h hb)
theorem ksU {lo:Nat} {w:World} {x:St} {P:Pl} (k:dh (fun b=>lo<=b) w x P) (n:Nat) (h:n<lo:=by first|omega|(simp;omega)):Hid (dh (fun b=>n<b) w x P):=Y (k.mono fun _ hb _=>ag h hb)
theorem YG {w:U} {B:Nat} {t:ai} {a b:af} (h:bU w B t #[a,b]):w.cell? ⟨B,0,X⟩=ah a/\w.cell? ⟨B,1,X⟩=ah b/\∀i,w.frozen? ⟨B,i,X⟩=false:=⟨h.get rfl,h.get rfl,fun i=>fA (i:=i) h⟩
theorem vo {w:U} {B:Nat} {t:ai} {a b c:af} (h:bU w B t #[a,b,c]):w.cell? ⟨B,0,X⟩=ah a/\w.cell? ⟨B,1,X⟩=ah b/\w.cell? ⟨B,2,X⟩=ah c/\∀i,w.frozen? ⟨B,i,X⟩=false:=⟨h.get rfl,h.get rfl,h.get rfl,fun i=>fA (i:=i) h⟩
theorem zL {g:Nat} {a W w2:World} (hb:Below W.heap.size W w2) (h:Lw g a W:=by(repeat (first|(with_reducible exact bS.refl _ _)|(with_reducible assumption)|(with_reducible apply bS.alloc)|(with_reducible apply bS.drewN)|(with_reducible apply bS.drew)|(with_reducible refine bS.set ?_ vR)|(with_reducible refine bS.call ?_ vT vS)))):Lw g a w2:=h.trans (bS.of hb)
theorem pW (w:U):ak (bU (w.alloc (.cells #[.int .i64 0,.string ⟨#[]⟩,.int .i64 0,.slice X 0 0] 25)) w.heap.size 25 #[.int .i64 0,.string ⟨#[]⟩,.int .i64 0,.slice X 0 0]):=Y bU.new
theorem D6 (w:U):ak (bU (w.alloc (.cells #[.int .i64 0,.string ⟨#[]⟩,.string ⟨#[]⟩,.int .i64 0,.string ⟨#[]⟩,.int .i64 0,.slice X 0 0,.int .i64 0,.string ⟨#[]⟩,.int .i64 0,.slice X 0 0,.slice X 0 0,.int .i64 0,.int .i64 0,.int .i64 0,.int .i64 0,.slice X 0 0,.slice X 0 0,.bool false,.slice X 0 0,.slice X 0 0] 62)) w.heap.size 62 #[.int .i64 0,.string ⟨#[]⟩,.string ⟨#[]⟩,.int .i64 0,.string ⟨#[]⟩,.int .i64 0,.slice X 0 0,.int .i64 0,.string ⟨#[]⟩,.int .i64 0,.slice X 0 0,.slice X 0 0,.int .i64 0,.int .i64 0,.int .i64 0,.int .i64 0,.slice X 0 0,.slice X 0 0,.bool false,.slice X 0 0,.slice X 0 0]):=Y bU.new
theorem Uw (w:U):ak (bU (w.alloc (.cells #[.string ⟨#[]⟩,.slice X 0 0,.slice X 0 0,.slice X 0 0] 40)) w.heap.size 40 #[.string ⟨#[]⟩,.slice X 0 0,.slice X 0 0,.slice X 0 0]):=Y bU.new
structure Put (t:ai) (g:Nat) (c:Array af) (w W:U):Prop where
 var:(storeVar t ⟨g,0,X⟩ (.agg c)).run ae w=.ok () W
 adr:(Instr.storeAt t (.pointer (ah ⟨g,0,X⟩)) (.agg c)).run ae w=.ok () W
 box:bU W g t c
 bt:Bt g w W
 size:W.heap.size=w.heap.size
theorem jr {w:U} {g:Nat} {t:ai} {z c:Array af} (h:bU w g t z) (ht:Big t c.size) (h1:c.all (·.oneCell')=true) (hz:z.size=c.size):∃W,Put t g c w W:=by
 have hv:=run_storeVar_row (P:=ae) w g t t z c h ht.2 hz h1;refine⟨w.setRow g c,hv,?_,am5 h,am6,?_⟩
 · simp only[Instr.storeAt,Instr.sureAddr,Sem.run_bind,Sem.run_pure,Result.andThen];exact hv
 · show(w.heap.modify _ _).size=_
   rw[Array.size_modify]
theorem Put.cells {w W:U} {g:Nat} {t:ai} {c:Array af} {l:List af} (h:Put t g c w W) (hz:(Tryz.prog.info? t).map (·.size)=ah c.size) (hl:c.toList=l):(storeCells ⟨g,0,X⟩ l 0).run ae w=.ok () W:=by
 subst hl;have:=h.var
 cases hq:Tryz.prog.info? t with
 | none=>simp[hq] at hz
 | some i=>
  have hs:c.size=i.size:=by simp[hq] at hz;omega
  simpa [storeVar,sizeOf,typeInfo,hq,Value.cells,hs] using this
structure Lk where
 b:Nat
 o:Nat
 m:Nat
 c:Nat
 l:List Tk
def Lk.at (L:Lk) (t:List Tk):Nat:=L.l.length-t.length
def Si (L:Lk) (t:List Tk):Array af:=#[.slice (ah ⟨L.b,L.o,X⟩) L.m L.c,.int .i64 ((L.at t:Nat):Int)]
structure Rd (L:Lk) (g:Nat) (t:List Tk) (w:U):Prop where
 lt:L.b<g
 box:bU w g 130 (Si L t)
 drop:L.l.drop (L.at t)=t
 toks:jC w (ah ⟨L.b,L.o,X⟩) L.m L.l
 gd:Gd t
 few:L.l.length<=30000
theorem aok {w w2:U} {b o m g:Nat} {l:List Tk} (h:jC w (ah ⟨b,o,X⟩) m l) (hb:Lw g w w2) (hg:b<=g):jC w2 (ah ⟨b,o,X⟩) m l:=by
 obtain⟨e1,e2,e3|⟨b',o',e,hlt,hc⟩⟩:=h
 · exact⟨e1,e2,.inl e3⟩
 · cases e
   have hk:∀(k:Nat),w2.cell? ⟨b,k,X⟩=w.cell? ⟨b,k,X⟩:=fun k=>World.cell?_of_block (a:=⟨b,k,X⟩) (hb.block b hlt hg);exact⟨e1,e2,.inr ⟨b,o,rfl,ag hlt hb.size,Y fun i hi=>by
    obtain⟨q0,q1,q2,q3⟩:=hc.out i hi;exact⟨(hk _).trans q0,(hk _).trans q1,(hk _).trans q2,(hk _).trans q3⟩⟩⟩
theorem Rd.low {L:Lk} {g:Nat} {t:List Tk} {w w2:U} (h:Rd L g t w) (hb:Lw g w w2):Rd L g t w2:=⟨h.lt,h.box.keep (hb.block g h.box.lt (Nat.le_refl _)),h.drop,aok h.toks hb (Nat.le_of_lt h.lt),h.gd,h.few⟩
theorem Rd.len {L:Lk} {g:Nat} {t:List Tk} {w:U} (h:Rd L g t w):L.at t+t.length=L.l.length/\L.l.length=L.m/\L.at t<L.m:=by
 have h1:=h.gd.ne;have h2:t.length<=L.l.length:=by
  have:=congrArg List.length h.drop;rw[List.length_drop] at this;unfold Lk.at at this;omega
 have h3:=h.toks.1;unfold Lk.at;omega
theorem Rd.blk {L:Lk} {g:Nat} {t:List Tk} {w:U} (h:Rd L g t w):g<w.heap.size:=h.box.lt
theorem Rd.small {L:Lk} {g:Nat} {t:List Tk} {w:U} (h:Rd L g t w):t.length<=30000:=by have h1:=h.len;have h2:=h.few;omega
theorem Rd.fu {L:Lk} {g:Nat} {t:List Tk} {w:U} (h:Rd L g t w):t.length<FU:=by have:=h.small;unfold FU;omega
theorem Rd.tok {L:Lk} {g:Nat} {t:List Tk} {w:U} (h:Rd L g t w):Lx.iQ w L.b (L.o+L.at t*4) (hd t):=by
 obtain⟨h1,h2,h3⟩:=h.len;obtain⟨e1,e2,e3|⟨b,o,e,hb,hc⟩⟩:=h.toks
 · omega
 · cases e
   have:=hc.out (L.at t) bT;have e:L.l[L.at t]'(by omega)=hd t:=by
    have h4:=h.drop;rw[List.drop_eq_getElem_cons bT] at h4;exact congrArg (fun z:List Tk=>z.headD ⟨0,mt,0,0⟩) h4
   rwa [e] at this
theorem Rd.c0 {L:Lk} {g:Nat} {t:List Tk} {w:U} (h:Rd L g t w):w.cell? ⟨g,0,X⟩=ah (.slice (ah ⟨L.b,L.o,X⟩) L.m L.c):=h.box.get rfl
theorem Rd.c1 {L:Lk} {g:Nat} {t:List Tk} {w:U} (h:Rd L g t w):w.cell? ⟨g,1,X⟩=ah (.int .i64 ((L.at t:Nat):Int)):=h.box.get rfl
theorem Rd.rJ {L:Lk} {g i:Nat} {t:List Tk} {w:U} (h:Rd L g t w):w.frozen? ⟨g,i,X⟩=false:=by
 unfold World.frozen?;rw[show w.heap[(⟨g,i,X⟩:Addr).block]?=_ from h.box];simp
theorem Rd.step {L:Lk} {g:Nat} {t:List Tk} {w:U} (h:Rd L g t w) (hk:¬(hd t).k=0):Rd L g t.tail (w.setCell ⟨g,1,X⟩ (.int .i64 ((L.at t:Nat)+1:Int))):=by
 obtain⟨h1,h2,h3⟩:=h.len;obtain⟨g1,g2⟩:=h.gd.tail hk;have ha:L.at t.tail=L.at t+1:=by unfold Lk.at at h1 ⊢; omega
 have hlt:=h.lt;refine⟨h.lt,?_,?_,?_,g1,h.few⟩
 · have hb:=h.box;unfold bU at hb ⊢
   show(w.heap.modify g _)[g]?=_
   rw[Array.getElem?_modify,if_pos rfl,hb];unfold Si;rw[ha];rfl
 · rw[ha,← List.drop_drop,h.drop,List.drop_one]
 · obtain⟨e1,e2,e3|⟨b,o,e,hb,hc⟩⟩:=h.toks
   · exact⟨e1,e2,.inl e3⟩
   · cases e
     have hbl:bS (fun k=>k≠g) w (w.setCell ⟨g,1,X⟩ (.int .i64 ((L.at t:Nat)+1:Int))):=bS.set (bS.refl _ _) (.inr fun h=>h rfl);have hk:∀(k:Nat),(w.setCell ⟨g,1,X⟩ (.int .i64 ((L.at t:Nat)+1:Int))).cell? ⟨L.b,k,X⟩=w.cell? ⟨L.b,k,X⟩:=fun k=>World.cell?_of_block (a:=⟨L.b,k,X⟩) (hbl.block L.b hb bT);exact⟨e1,e2,.inr ⟨L.b,L.o,rfl,ag hb hbl.size,Y fun i hi=>by
      obtain⟨q0,q1,q2,q3⟩:=hc.out i hi;exact⟨(hk _).trans q0,(hk _).trans q1,(hk _).trans q2,(hk _).trans q3⟩⟩⟩
theorem Pe {g j:Nat} {w:U} {v:af}:Bt g w (w.setCell ⟨g,j,X⟩ v):=bS.set (bS.refl _ _) (.inr fun h=>h rfl)
theorem Pd {w:U} {g:Nat} {t:ai} {z:Array af} {a b:af} (h:bU w g t z) (hz:z.size=2):bU ((w.setCell ⟨g,0,X⟩ a).setCell ⟨g,1,X⟩ b) g t #[a,b]:=by
 obtain⟨x0,x1,rfl⟩:∃x0 x1,z=#[x0,x1]:=by
  match z,hz with
  | ⟨[x0,x1]⟩,_=>exact⟨x0,x1,rfl⟩
 exact eX (eX h)
theorem J8 {w:U} {g:Nat} {t:ai} {z:Array af} {a b c:af} (h:bU w g t z) (hz:z.size=3):bU (((w.setCell ⟨g,0,X⟩ a).setCell ⟨g,1,X⟩ b).setCell ⟨g,2,X⟩ c) g t #[a,b,c]:=by
 obtain⟨x0,x1,x2,rfl⟩:∃x0 x1 x2,z=#[x0,x1,x2]:=by
  match z,hz with
  | ⟨[x0,x1,x2]⟩,_=>exact⟨x0,x1,x2,rfl⟩
 exact eX (eX (eX h))
theorem qK {w:U} {g:Nat} {t:ai} {z:Array af} {a b c d:af} (h:bU w g t z) (hz:z.size=4):bU ((((w.setCell ⟨g,0,X⟩ a).setCell ⟨g,1,X⟩ b).setCell ⟨g,2,X⟩ c).setCell ⟨g,3,X⟩ d) g t #[a,b,c,d]:=by
 obtain⟨x0,x1,x2,x3,rfl⟩:∃x0 x1 x2 x3,z=#[x0,x1,x2,x3]:=by
  match z,hz with
  | ⟨[x0,x1,x2,x3]⟩,_=>exact⟨x0,x1,x2,x3,rfl⟩
 exact eX (eX (eX (eX h)))
def tC (n:Int):List PanicEntry:=[{ v:=.iface 127 (.agg #[.int .i64 n]),recovered:=false }]
def PO {α:Type} (L:Lk) (g:Nat) (V:Nat->U->α->af->Prop) (r:R α) (w:U) (e:Ending) (w':U):Prop:=
 Bt g w w'/\match r with
  | .ok x u=>∃v,e=.returned v/\V w.heap.size w' x v/\Rd L g u w'
  | .no u=>e=.panicked (tC (hd u).l)
section
variable {α β:Type} {L:Lk} {g:Nat} {V:Nat->U->α->af->Prop} {r:R α} {w w':U} {e:Ending} {x:α} {t u:List Tk} {v:af}
theorem PO.ok (hr:r=.ok x u) (hb:Bt g w w') (hV:V w.heap.size w' x v) (hR:Rd L g u w'):PO L g V r w (.returned v) w':=by subst hr;exact⟨hb,v,rfl,hV,hR⟩
theorem PO.no (hr:r=.no u) (hb:Bt g w w'):PO L g V r w (.panicked (tC (hd u).l)) w':=by subst hr;exact⟨hb,rfl⟩
theorem PO.cases (h:PO L g V r w e w'):(∃x u v,r=.ok x u/\e=.returned v/\Bt g w w'/\V w.heap.size w' x v/\Rd L g u w')∨(∃u,r=.no u/\e=.panicked (tC (hd u).l)/\Bt g w w'):=by
 obtain⟨hb,h⟩:=h
 cases r with
 | ok x u=>obtain⟨v,h1,h2,h3⟩:=h;exact .inl ⟨x,u,v,rfl,h1,hb,h2,h3⟩
 | no u=>exact .inr ⟨u,rfl,h,hb⟩
def tv (x:Tk):af:=.agg #[.int .i64 x.k,.string x.t,.int .i64 x.n,.int .i64 x.l]
def TO (L:Lk) (g:Nat) (k:Int) (t:List Tk) (w:U) (e:Ending) (w':U):Prop:=
 Bt g w w'/\(((hd t).k=k/\e=.returned (tv (hd t))/\Rd L g t.tail w')∨(¬(hd t).k=k/\e=.panicked (tC (hd t).l)))
def AO (L:Lk) (g:Nat) (s:ByteArray) (t:List Tk) (w:U) (e:Ending) (w':U):Prop:=
 Bt g w w'/\((is s t=true/\e=.returned (.bool true)/\Rd L g t.tail w')∨(is s t=false/\e=.returned (.bool false)/\Rd L g t w'))
def VI (lo:Nat) (w:U) (n:Int) (v:af):Prop:=v=.int .i64 n
def VN (lo:Nat) (w:U) (n:Int) (v:af):Prop:=v=.int .i64 n/\0<=n/\n<=1000000000000
def VB (lo:Nat) (w:U) (n:Int) (v:af):Prop:=v=.int .i64 n/\(n=0∨n=1)
def VT (lo:Nat) (w:U) (s:ByteArray) (v:af):Prop:=v=.string s
def VU (lo:Nat) (w:U) (x:Unit) (v:af):Prop:=v=.tuple #[]
def VC {α:Type} (c:α->Array af) (lo:Nat) (w:U) (x:α) (v:af):Prop:=v=.agg (c x)
variable {m:P β} {k:β->P α} {A B:P α} {s:ByteArray} {y:β} {n:Int}
theorem eY (H:ak (run (bd m k) t=r)) (h:run m t=.ok y u):ak (run (k y) u=r):=Y ((dK h).symm.trans H.out)
theorem fw (H:ak (run (bd m k) t=r)) (h:run m t=.no u):r=.no u:=H.out.symm.trans (iq h)
theorem anG (H:ak (run (acc s A B) t=r)) (h:is s t=true):ak (run A t.tail=r):=Y ((nW h).symm.trans H.out)
theorem anB (H:ak (run (acc s A B) t=r)) (h:is s t=false):ak (run B t=r):=Y ((ek h).symm.trans H.out)
theorem DI (H:ak (run (see s A B) t=r)) (h:is s t=true):ak (run A t=r):=Y ((Dw h).symm.trans H.out)
theorem DF (H:ak (run (see s A B) t=r)) (h:is s t=false):ak (run B t=r):=Y ((vL h).symm.trans H.out)
theorem SV (H:ak (run (kd n A B) t=r)) (h:(hd t).k=n):ak (run A t=r):=Y ((EN h).symm.trans H.out)
theorem SX (H:ak (run (kd n A B) t=r)) (h:¬(hd t).k=n):ak (run B t=r):=Y ((yC h).symm.trans H.out)
theorem dz {x:α} (H:ak (run (rt x) t=r)):r=.ok x t:=H.out.symm
theorem MN (H:ak (run (fl:P α) t=r)):r=.no t:=H.out.symm
theorem abW {p q:P α} (H:ak (run p t=r)) (e:p=q):ak (run q t=r):=by rw[← e];exact H
section
variable {α β γ:Type} {L:Lk} {g:Nat} {r:R α} {t u:List Tk} {m:P γ} {k:γ->P β} {K:β->P α} {A B:P β} {s:ByteArray} {y:β} {n:Int}
theorem jb (H:ak (run (bd (bd m k) K) t=r)):ak (run (bd m fun x=>bd (k x) K) t=r):=by
 refine Y (Eq.trans ?_ H.out)
 cases h:run m t with
 | ok x u=>
  rw[dK h]
  cases h2:run (k x) u with
  | ok y v=>rw[dK h2,dK ((dK h).trans h2)]
  | no v=>rw[iq h2,iq ((dK h).trans h2)]
 | no u=>rw[iq h,iq (iq h)]
theorem Eo {m m':P β} {t t':List Tk} (h:run m t=run m' t'):run (bd m K) t=run (bd m' K) t':=by
 cases h2:run m' t' with
 | ok y v=>rw[dK h2,dK (h.trans h2)]
 | no v=>rw[iq h2,iq (h.trans h2)]
theorem anw (H:ak (run (bd (kd n A B) K) t=r)) (h:(hd t).k=n):ak (run (bd A K) t=r):=Y ((Eo (EN h)).symm.trans H.out)
theorem anx (H:ak (run (bd (kd n A B) K) t=r)) (h:¬(hd t).k=n):ak (run (bd B K) t=r):=Y ((Eo (yC h)).symm.trans H.out)
theorem xH (H:ak (run (bd (acc s A B) K) t=r)) (h:is s t=true):ak (run (bd A K) t.tail=r):=Y ((Eo (nW h)).symm.trans H.out)
theorem xG (H:ak (run (bd (acc s A B) K) t=r)) (h:is s t=false):ak (run (bd B K) t=r):=Y ((Eo (ek h)).symm.trans H.out)
theorem anA (H:ak (run (bd (see s A B) K) t=r)) (h:is s t=true):ak (run (bd A K) t=r):=Y ((Eo (Dw h)).symm.trans H.out)
theorem anz (H:ak (run (bd (see s A B) K) t=r)) (h:is s t=false):ak (run (bd B K) t=r):=Y ((Eo (vL h)).symm.trans H.out)
theorem lY (H:ak (run (bd (rt y) K) t=r)):ak (run (K y) t=r):=Y ((dK (zW (x:=y) (t:=t))).symm.trans H.out)
end
end
section
variable {α β:Type} {L:Lk} {g:Nat} {V:Nat->U->β->af->Prop} {V1:Nat->U->α->af->Prop} {r:R α} {w w0 w1 W:U} {t:List Tk} {m:P β} {m1:P α} {k:β->P α} {f:FuncId} {a:Array af} {Q:Ending->U->Prop} {v:af}
theorem po (HS:Hid (run (bd m k) t=r)) (HB:Hid (Bt g w w0)) (c:Calls Tryz.prog f a W (PO L g V (run m t) W)) (ok:∀x u v w',run m t=.ok x u->Hid (run (k x) u=r)->Bt g W w'->V W.heap.size w' x v->Hid (Rd L g u w')->Hid (Bt g w w')->Q (.returned v) w') (hb:Bt g w W:=by have bY:=HB.out;(repeat (first|(with_reducible exact bS.refl _ _)|(with_reducible assumption)|(with_reducible apply bS.alloc)|(with_reducible apply bS.drewN)|(with_reducible apply bS.drew)|(with_reducible refine bS.set ?_ vR)|(with_reducible refine bS.call ?_ vT vS)))) (no:∀u w',run m t=.no u->Bt g W w'->Q (.panicked (tC (hd u).l)) w':=by intro _ _ rr _;have bY:=HB.out;go_wp2_with fail;exact⟨rfl,PO.no (fw HS rr) (by(repeat (first|(with_reducible exact bS.refl _ _)|(with_reducible assumption)|(with_reducible apply bS.alloc)|(with_reducible apply bS.drewN)|(with_reducible apply bS.drew)|(with_reducible refine bS.set ?_ vR)|(with_reducible refine bS.call ?_ vT vS))))⟩):Calls Tryz.prog f a W Q:=by
 refine c.mono ?_;rintro e w' h;rcases h.cases with⟨x,u,v,r1,rfl,b,V1,R1⟩|⟨u,r1,rfl,b⟩
 · exact ok x u v w' r1 (eY HS r1) b V1 (Y R1) (Y (hb.trans b))
 · exact no u w' r1 b
theorem pl (HS:Hid (run m1 t=r)) (HB:Hid (Bt g w w0)) (c:Calls Tryz.prog f a W (PO L g V1 (run m1 t) W)) (ok:∀x u v w',run m1 t=.ok x u->Hid (r=.ok x u)->Bt g W w'->V1 W.heap.size w' x v->Hid (Rd L g u w')->Hid (Bt g w w')->Q (.returned v) w') (hb:Bt g w W:=by have bY:=HB.out;(repeat (first|(with_reducible exact bS.refl _ _)|(with_reducible assumption)|(with_reducible apply bS.alloc)|(with_reducible apply bS.drewN)|(with_reducible apply bS.drew)|(with_reducible refine bS.set ?_ vR)|(with_reducible refine bS.call ?_ vT vS)))) (no:∀u w',run m1 t=.no u->Bt g W w'->Q (.panicked (tC (hd u).l)) w':=by intro _ _ rr _;have bY:=HB.out;go_wp2_with fail;exact⟨rfl,PO.no (HS.out.symm.trans rr) (by(repeat (first|(with_reducible exact bS.refl _ _)|(with_reducible assumption)|(with_reducible apply bS.alloc)|(with_reducible apply bS.drewN)|(with_reducible apply bS.drew)|(with_reducible refine bS.set ?_ vR)|(with_reducible refine bS.call ?_ vT vS))))⟩):Calls Tryz.prog f a W Q:=by
 refine c.mono ?_;rintro e w' h;rcases h.cases with⟨x,u,v,r1,rfl,b,V1,R1⟩|⟨u,r1,rfl,b⟩
 · exact ok x u v w' r1 (Y (HS.out.symm.trans r1)) b V1 (Y R1) (Y (hb.trans b))
 · exact no u w' r1 b
theorem eQ (hR:Rd L g t w) (h:∀r,ak (run m1 t=r)->ak (Rd L g t w)->ak (Bt g w w)->g<w.heap.size->aj ae f a w (PO L g V1 r w)):aj ae f a w (PO L g V1 (run m1 t) w):=h _ (Y rfl) (Y hR) (Y (bS.refl _ _)) hR.blk
theorem ac {A B:P α} {s:ByteArray} (HS:Hid (run (acc s A B) t=r)) (HB:Hid (Bt g w w0)) (c:Calls Tryz.prog f a W (AO L g s t W)) (yes:∀w',is s t=true->Hid (run A t.tail=r)->Bt g W w'->Hid (Rd L g t.tail w')->Hid (Bt g w w')->Q (.returned (.bool true)) w') (no:∀w',is s t=false->Hid (run B t=r)->Bt g W w'->Hid (Rd L g t w')->Hid (Bt g w w')->Q (.returned (.bool false)) w') (hb:Bt g w W:=by have bY:=HB.out;(repeat (first|(with_reducible exact bS.refl _ _)|(with_reducible assumption)|(with_reducible apply bS.alloc)|(with_reducible apply bS.drewN)|(with_reducible apply bS.drew)|(with_reducible refine bS.set ?_ vR)|(with_reducible refine bS.call ?_ vT vS)))):Calls Tryz.prog f a W Q:=by
 refine c.mono ?_;rintro e w' ⟨b,⟨i,rfl,R1⟩|⟨i,rfl,R1⟩⟩
 · exact yes w' i (anG HS i) b (Y R1) (Y (hb.trans b))
 · exact no w' i (anB HS i) b (Y R1) (Y (hb.trans b))
theorem gi (HR:Hid (Rd L g t w1)) (HB:Hid (Bt g w w0)) (c:Calls Tryz.prog f a W (Gives v W)) (ok:∀w',Bt g W w'->Below W.heap.size W w'->Hid (Rd L g t w')->Hid (Bt g w w')->Q (.returned v) w') (hb:Bt g w W:=by have bY:=HB.out;(repeat (first|(with_reducible exact bS.refl _ _)|(with_reducible assumption)|(with_reducible apply bS.alloc)|(with_reducible apply bS.drewN)|(with_reducible apply bS.drew)|(with_reducible refine bS.set ?_ vR)|(with_reducible refine bS.call ?_ vT vS)))) (hr:Lw g w1 W:=by(repeat (first|(with_reducible exact bS.refl _ _)|(with_reducible assumption)|(with_reducible apply bS.alloc)|(with_reducible apply bS.drewN)|(with_reducible apply bS.drew)|(with_reducible refine bS.set ?_ vR)|(with_reducible refine bS.call ?_ vT vS)))):Calls Tryz.prog f a W Q:=by
 refine c.mono ?_;rintro e w' ⟨rfl,h⟩;exact ok w' (bS.of h) h (Y (HR.out.low (hr.trans (bS.of h)))) (Y (hb.trans (bS.of h)))
end
end Ps
namespace Ps
open Ps.P (len)
open Go.RowKit
open Lx (Tk)
open Ex (Gives)
open Md (bU)
theorem KY (a n l:Int) (s:ByteArray) (w:U):(Instr.field 125 (.agg #[.int .i64 a,.string s,.int .i64 n,.int .i64 l]) 0).run ae w=.ok (.int .i64 a) w:=by kernel_rfl
theorem Yg (a n l:Int) (s:ByteArray) (w:U):(Instr.field 125 (.agg #[.int .i64 a,.string s,.int .i64 n,.int .i64 l]) 1).run ae w=.ok (.string s) w:=by kernel_rfl
theorem aii (a n l:Int) (s:ByteArray) (w:U):(Instr.field 125 (.agg #[.int .i64 a,.string s,.int .i64 n,.int .i64 l]) 2).run ae w=.ok (.int .i64 n) w:=by kernel_rfl
theorem aih (a n l:Int) (s:ByteArray) (w:U):(Instr.field 125 (.agg #[.int .i64 a,.string s,.int .i64 n,.int .i64 l]) 3).run ae w=.ok (.int .i64 l) w:=by kernel_rfl
section
variable {L:Lk} {g:Nat} {t:List Tk}
theorem yU (w:U) (hR:Rd L g t w):aj ae 100 #[.pointer (ah ⟨g,0,X⟩)] w (Gives (tv (hd t)) w):=by
 obtain⟨l1,l2,l3⟩:=hR.len;have hlt:=hR.lt;have hgs:=hR.blk;have c0:=hR.c0;have c1:=hR.c1;obtain⟨e0,e1,e2,e3⟩:=hR.tok;have hbs:L.b<w.heap.size:=by omega
 unfold tv
 generalize hd t=x at *
 obtain⟨b,o,m,c,l⟩:=L;obtain⟨k,hk⟩:∃k,Lk.at ⟨b,o,m,c,l⟩ t=k:=⟨_,rfl⟩
 simp only[hk] at *
 have hk0:(0:Int)<=(k:Int):=by omega
 have hk1:(k:Int)<(m:Int):=by omega
 clear hR l1 l2 l3 hk;go_enter func100,ntmps100;go_wp2_with fail;go_region
 go_wp2_with fail;refine au (v:=.agg #[.int .i64 x.k,.string x.t,.int .i64 x.n,.int .i64 x.l]) ?_ rfl ⟨rfl,bl⟩;refine results_cell_row rfl _ _ w.heap.size 125 _ (0,0) _ rfl ?_ underlying125 rfl dx;exact bU.new
theorem BG (w:U) (hR:Rd L g t w):aj ae 85 #[.pointer (ah ⟨g,0,X⟩)] w (Gives (.agg #[.int .i64 (hd t).l]) w):=by
 have C1:=Y (fun W (hW:Below w.heap.size w W)=>yU W (hR.low (bS.of hW)));unfold tv at C1
 generalize hd t=x at *
 have q:=aih x.k x.n x.l x.t;clear hR;go_enter func85,ntmps85;go_wp2_with fail;refine(C1.out _ bl).mono ?_;rintro e w1 ⟨rfl,hb1⟩;have b1:bU w1 w.heap.size 127 #[.int .i64 0]:=bU.new.on hb1;have c1:=b1.get (r:=0) rfl;have f1:=fA (i:=0) b1;go_wp2_with fail;have b2:bU (w1.setCell ⟨w.heap.size,0,X⟩ (.int .i64 x.l)) w.heap.size 127 #[.int .i64 x.l]:=eX b1;refine au (v:=.agg #[.int .i64 x.l]) ?_ rfl ⟨rfl,bl⟩;exact results_cell_row rfl _ _ w.heap.size 127 _ (0,0) _ rfl b2 underlying127 rfl dx
theorem Tq (k:Int) (w:U) (hR:Rd L g t w) (hk:¬k=0):aj ae 71 #[.pointer (ah ⟨g,0,X⟩),.int .i64 k] w (TO L g k t w):=by
 have C1:=Y (fun W (hW:Below w.heap.size w W)=>yU W (hR.low (bS.of hW)));have C2:=Y (fun W (hW:Below w.heap.size w W)=>BG W (hR.low (bS.of hW)));have hg:=hR.blk;have HR:=Y hR;obtain⟨l1,l2,l3⟩:=hR.len;have l4:=hR.few;obtain⟨j,hj⟩:∃j,L.at t=j:=⟨_,rfl⟩
 obtain⟨x,hx⟩:∃x,hd t=x:=⟨_,rfl⟩
 unfold tv at C1;rw[hx] at C1 C2;have HX:=Y hx;have HJ:=Y hj;by_cases h:x.k=k
 · have hb:(x.k != k)=false:=by simp[h]
   have hw:IntKind.i64.wrap ((j:Int)+1)=(j:Int)+1:=by rw[IntKind.wrap_i64];omega
   have HK:=Y h;clear hR l1 l2 l3 l4 hx hj h;go_enter func71,ntmps71;go_wp2_with fail;refine(C1.out _ bl).mono ?_;rintro e w1 ⟨rfl,hb1⟩;have hB1:Below w.heap.size w w1:=bl;have b4:bU w1 w.heap.size 125 _:=bU.new.on hb1;have b5:bU (w1.alloc (.cells #[.int .i64 x.k,.string x.t,.int .i64 x.n,.int .i64 x.l] 125)) w1.heap.size 125 _:=bU.new;have hs1:=b4.lt;have r1:Rd L g t (w1.alloc (.cells #[.int .i64 x.k,.string x.t,.int .i64 x.n,.int .i64 x.l] 125)):=HR.out.low (bS.of bl);have c1:=r1.c1;rw[HJ.out] at c1;have f1:=r1.rJ (i:=1);have r2:=r1.step (by rw[HX.out,HK.out];exact hk);rw[HJ.out] at r2;obtain⟨B,hB⟩:∃B,(w1.alloc (.cells #[.int .i64 x.k,.string x.t,.int .i64 x.n,.int .i64 x.l] 125)).setCell ⟨g,1,X⟩ (.int .i64 ((j:Int)+1))=B:=⟨_,rfl⟩
   have e1:Bt g (w1.alloc (.cells #[.int .i64 x.k,.string x.t,.int .i64 x.n,.int .i64 x.l] 125)) B:=by rw[← hB];exact Pe
   have d5:bU B w1.heap.size 125 _:=eT b5 e1 bT;have d4:bU B w.heap.size 125 _:=eT (b4.on bl) e1 bT;have l0:=d5.get (r:=0) rfl;have l1:=d5.get (r:=1) rfl;have l2:=d5.get (r:=2) rfl;have l3:=d5.get (r:=3) rfl;have p0:=d4.get (r:=0) rfl;have p1:=d4.get (r:=1) rfl;have p2:=d4.get (r:=2) rfl;have p3:=d4.get (r:=3) rfl;have fz:∀i,B.frozen? ⟨w.heap.size,i,X⟩=false:=fun i=>fA d4;have D4:=Y d4;have HE:=Y e1;rw[hB] at r2;have R2:=Y r2;have HB1:=Y hB1;clear e1 r1 r2 d5 d4 b5 b4 hB1 hb1;go_wp2_with fail;have b6:=qK (a:=.int .i64 x.k) (b:=.string x.t) (c:=.int .i64 x.n) (d:=.int .i64 x.l) D4.out rfl;have bY:=HB1.out;have iX:=HE.out;refine au (v:=tv x) ?_ rfl ⟨?_,.inl ⟨by rw[HX.out,HK.out],by rw[HX.out],?_⟩⟩
   · exact results_cell_row rfl _ _ w.heap.size 125 _ (0,0) _ rfl b6 underlying125 rfl dx
   · have q:Bt g w w1:=bS.of bY;exact qe
   · exact R2.out.low qe
 · exact zzd
end
end Ps
namespace Ps
open Ps.P (exp len)
open Go.RowKit
open Lx (Tk bs rH vk)
open Ex (Gives)
section
variable {L:Lk} {g:Nat} {t:List Tk}
theorem acD {p:Prop} (h:p:=by
 clear h;go_enter func81,ntmps81;go_wp2_with fail;refine(C1.out _ bl).mono ?_;exact F9
 ):p:=h
theorem oz (s:ByteArray) (w:U) (hR:Rd L g t w):aj ae 81 #[.pointer (ah ⟨g,0,X⟩),.string s] w (Gives (.bool (is s t)) w):=by
 have C1:=Y (fun W (hW:Below w.heap.size w W)=>yU W (hR.low (bS.of hW)));unfold tv at C1;have HI:ak (is s t=decide (bs (hd t).t=bs s)):=Y rfl;rw[HI.out]
 generalize hd t=x at *
 have q:=Yg x.k x.n x.l x.t;clear hR HI;by_cases h:bs x.t=bs s
 · have h1:=rH h;rw[decide_eq_true h];exact acD
 · have h1:=vk h;rw[decide_eq_false h];exact acD
theorem dD (s:ByteArray) (w:U) (hR:Rd L g t w) (hs:¬bs s=[]):aj ae 50 #[.pointer (ah ⟨g,0,X⟩),.string s] w (AO L g s t w):=by
 have C1:=Y (oz s w hR);have hg:=hR.blk;have HR:=Y hR;obtain⟨l1,l2,l3⟩:=hR.len;have l4:=hR.few;obtain⟨j,hj⟩:∃j,L.at t=j:=⟨_,rfl⟩
 have HJ:=Y hj
 cases h:is s t with
 | false=>
  rw[h] at C1;have HH:=Y h;clear hR l1 l2 l3 l4 hj h;go_enter func50,ntmps50;go_wp2_with fail;refine C1.out.mono ?_;rintro e w1 ⟨rfl,hb1⟩;have HB1:=Y hb1;clear hb1;go_wp2_with fail;go_ret;exact⟨bS.of HB1.out,.inr ⟨HH.out,rfl,HR.out.low (bS.of HB1.out)⟩⟩
 | true=>
  rw[h] at C1;have HH:=Y h;have HK:ak (¬(hd t).k=0):=Y (by rcases ZG hR.gd hs h with g|g <;> omega);have hw:IntKind.i64.wrap ((j:Int)+1)=(j:Int)+1:=by rw[IntKind.wrap_i64];omega
  clear hR l1 l2 l3 l4 hj h;go_enter func50,ntmps50;go_wp2_with fail;refine C1.out.mono ?_;rintro e w1 ⟨rfl,hb1⟩;have r1:Rd L g t w1:=HR.out.low (bS.of hb1);have c1:=r1.c1;rw[HJ.out] at c1;have f1:=r1.rJ (i:=1);have r2:=r1.step HK.out;rw[HJ.out] at r2;have R2:=Y r2;have HB1:=Y hb1;clear r1 r2 hb1;go_wp2_with fail;go_ret;have q:Bt g w w1:=bS.of HB1.out;exact⟨q.trans Pe,.inl ⟨HH.out,rfl,R2.out⟩⟩
theorem gI (s:ByteArray) (w:U) (hR:Rd L g t w) (hs:¬bs s=[]):aj ae 79 #[.pointer (ah ⟨g,0,X⟩),.string s] w (PO L g VU (run (exp s) t) w):=by
 have C1:=Y (dD s w hR hs);obtain⟨r,hr⟩:∃r,run (exp s) t=r:=⟨_,rfl⟩
 rw[hr];have HS:=Y hr;clear hR hr;go_enter func79,ntmps79;go_wp2_with fail;refine C1.out.mono ?_;rintro e w1 ⟨hb,⟨hi,rfl,hR⟩|⟨hi,rfl,hR⟩⟩
 · have HI:=Y hi;have HB:=Y hb;have HR:=Y hR;clear hi hb hR;go_wp2_with fail
   (first|go_end0|refine au (results_none rfl _ _ _) rfl ?_)
   exact PO.ok (HS.out.symm.trans (EF HI.out)) HB.out rfl HR.out
 · have HI:=Y hi;have HB:=Y hb;have HR:=Y hR;clear hi hb hR;go_wp2_with fail;refine(BG _ HR.out).mono ?_;rintro e w2 ⟨rfl,hb2⟩;go_wp2_with fail;exact⟨rfl,PO.no (HS.out.symm.trans (KO HI.out)) (HB.out.below hb2)⟩
end
end Ps
namespace Ps
open Ps.P (rt bd tk)
open Go.RowKit
open Lx (Tk bs)
open Na (gX Rl)
section
variable {L:Lk} {g:Nat} {t:List Tk}
theorem kV (w:U) (hR:Rd L g t w):aj ae 83 #[.pointer (ah ⟨g,0,X⟩)] w (PO L g VN (run num t) w):=by
 have q:=aii (hd t).k (hd t).n (hd t).l (hd t).t;have HN:=Y hR.gd.wf.n;refine eQ hR ?_;clear hR;intro r HS HR HB hg;go_enter func83,ntmps83;go_wp2_with fail;refine(Tq 2 _ (HR.out.low qe) bR).mono ?_;rintro e w1 ⟨b1,⟨k1,rfl,R1⟩|⟨k1,rfl⟩⟩;rotate_left 1
 · have bY:=HB.out;go_wp2_with fail;exact⟨rfl,PO.no (fw HS (DJ k1)) qe⟩
 replace HS:=eY HS (yT k1);replace HB:=eu HB w1;replace HR:=Y R1;clear b1 R1;clear k1;unfold tv;go_wp2_with fail;go_ret;exact PO.ok (dz HS) HB.out ⟨rfl,HN.out⟩ HR.out
theorem FH {p:Prop} (h:p:=by
 go_wp2_with fail;go_ret;exact PO.ok (dz HS) HB.out rfl HR.out
 ):p:=h
theorem acF {p:Prop} (h:p:=by
 replace HS:=HS.out.symm.trans r2;replace HB:=eu HB w2;replace HR:=Y R2;clear b2 R2;go_wp2_with fail;go_ret;exact PO.ok HS HB.out rfl HR.out
 ):p:=h
theorem Lp (w:U) (hR:Rd L g t w):aj ae 126 #[.pointer (ah ⟨g,0,X⟩)] w (PO L g VI (run yB t) w):=by
 refine eQ hR ?_;clear hR;intro r HS HR HB hg;go_enter func126,ntmps126;go_wp2_with fail;refine ac HS HB (dD _ _ (HR.out.low qe) bR) ?_ ?_
 · clear HS HB HR;rintro w1-HS b1 HR HB;clear b1;go_wp2_with fail;refine po HS HB (kV _ (HR.out.low qe)) ?_;clear HS HB HR;rintro x2 u2 v2 w2-HS b2 ⟨rfl,n0,n1⟩ HR HB;clear b2;have hw:wrap64 (-x2) = -x2:=by unfold wrap64;omega
   exact FH
 · clear HS HB HR;rintro w1-HS b1 HR HB;clear b1;go_wp2_with fail;refine(kV _ (HR.out.low qe)).mono ?_;rintro e w2 h2;rcases h2.cases with⟨x2,u2,v2,r2,rfl,b2,V2,R2⟩|⟨u2,r2,rfl,b2⟩
   · obtain⟨rfl,n0,n1⟩:=V2;exact acF
   · have bY:=HB.out;go_wp2_with fail;exact⟨rfl,PO.no (HS.out.symm.trans r2) qe⟩
theorem MX (w:U) (hR:Rd L g t w):aj ae 125 #[.pointer (ah ⟨g,0,X⟩)] w (PO L g VB (run tV t) w):=by
 refine eQ hR ?_;clear hR;intro r HS HR HB hg;go_enter func125,ntmps125;go_wp2_with fail;refine ac HS HB (dD _ _ (HR.out.low qe) bR) ?_ ?_
 · clear HS HB HR;rintro w1-HS b1 HR HB;clear b1;go_wp2_with fail;go_ret;exact PO.ok (dz HS) HB.out ⟨rfl,.inr rfl⟩ HR.out
 · clear HS HB HR;rintro w1-HS b1 HR HB;clear b1;go_wp2_with fail;refine po HS HB (gI _ _ (HR.out.low qe) bR) ?_;clear HS HB HR;rintro x2 u2 v2 w2-HS b2 rfl HR HB;clear b2;go_wp2_with fail;go_ret;exact PO.ok (dz HS) HB.out ⟨rfl,.inl rfl⟩ HR.out
theorem jo (w:U) (hR:Rd L g t w):aj ae 80 #[.pointer (ah ⟨g,0,X⟩)] w (PO L g VT (run fM t) w):=by
 have q:=Yg (hd t).k (hd t).n (hd t).l (hd t).t;have C1:=Y (fun W (hW:Below w.heap.size w W)=>yU W (hR.low (bS.of hW)));have C2:=Y (fun W=>Rl (hd t).t W);unfold tv at C1;refine eQ hR ?_;clear hR;intro r HS HR HB hg
 cases hk:gX (bs (hd t).t) with
 | true=>
  rw[hk] at C2;have HK:=Y hk;clear hk;go_enter func80,ntmps80;go_wp2_with fail;refine(C1.out _ bl).mono ?_;rintro e w1 ⟨rfl,hb1⟩;replace HB:ak (Bt g w w1):=Y (bS.of hb1);replace HR:ak (Rd L g t w1):=Y (HR.out.low (bS.of hb1));clear hb1;go_wp2_with fail;refine(C2.out _).mono ?_;rintro e w2 ⟨rfl,rfl⟩;go_wp2_with fail;refine(BG _ (HR.out.low qe)).mono ?_;rintro e w3 ⟨rfl,b3⟩;have bY:=HB.out;go_wp2_with fail;exact⟨rfl,PO.no (HS.out.symm.trans (Ih HK.out)) (bY.below b3)⟩
 | false=>
  rw[hk] at C2;replace HS:ak (run (bd (tk 1) fun x=>rt x.1) t=r):=Y ((LM hk).symm.trans HS.out);clear hk;go_enter func80,ntmps80;go_wp2_with fail;refine(C1.out _ bl).mono ?_;rintro e w1 ⟨rfl,hb1⟩;replace HB:ak (Bt g w w1):=Y (bS.of hb1);replace HR:ak (Rd L g t w1):=Y (HR.out.low (bS.of hb1));clear hb1;go_wp2_with fail;refine(C2.out _).mono ?_;rintro e w2 ⟨rfl,rfl⟩;go_wp2_with fail;refine(Tq 1 _ (HR.out.low qe) bR).mono ?_;rintro e w3 ⟨b3,⟨k3,rfl,R3⟩|⟨k3,rfl⟩⟩;rotate_left 1
  · have bY:=HB.out;go_wp2_with fail;exact⟨rfl,PO.no (fw HS (DJ k3)) qe⟩
  replace HS:=eY HS (yT k3);replace HB:=eu HB w3;replace HR:=Y R3;clear b3 R3;clear k3;unfold tv;exact FH
theorem L6 (s:ByteArray) (w:U) (hR:Rd L g t w) (hs:¬bs s=[]):aj ae 49 #[.pointer (ah ⟨g,0,X⟩),.string s] w (PO L g VT (run (yH s) t) w):=by
 refine eQ hR ?_;clear hR;intro r HS HR HB hg;go_enter func49,ntmps49;go_wp2_with fail;refine po HS HB (gI _ _ (HR.out.low qe) hs) ?_;clear HS HB HR;rintro x1 u1 v1 w1-HS b1 rfl HR HB;clear b1;go_wp2_with fail;refine(jo _ (HR.out.low qe)).mono ?_;rintro e w2 h2;rcases h2.cases with⟨x2,u2,v2,r2,rfl,b2,V2,R2⟩|⟨u2,r2,rfl,b2⟩
 · obtain rfl:=V2;exact acF
 · have bY:=HB.out;go_wp2_with fail;exact⟨rfl,PO.no (HS.out.symm.trans r2) qe⟩
theorem kS (w:U) (hR:Rd L g t w):aj ae 40 #[.pointer (ah ⟨g,0,X⟩)] w (PO L g VU (run fV t) w):=by
 refine eQ hR ?_;clear hR;intro r HS HR HB hg;go_enter func40,ntmps40;go_wp2_with fail;refine(Tq 4 _ (HR.out.low qe) bR).mono ?_;rintro e w1 ⟨b1,⟨k1,rfl,R1⟩|⟨k1,rfl⟩⟩;rotate_left 1
 · have bY:=HB.out;go_wp2_with fail;exact⟨rfl,PO.no (fw HS (DJ k1)) qe⟩
 replace HS:=eY HS (yT k1);replace HB:=eu HB w1;replace HR:=Y R1;clear b1 R1;clear k1;go_wp2_with fail
 (first|go_end0|refine au (results_none rfl _ _ _) rfl ?_)
 exact PO.ok (dz HS) HB.out rfl HR.out
theorem E_ (w:U) (hR:Rd L g t w):aj ae 127 #[.pointer (ah ⟨g,0,X⟩)] w (PO L g VT (run xc t) w):=by
 refine eQ hR ?_;clear hR;intro r HS HR HB hg;go_enter func127,ntmps127;go_wp2_with fail;refine po HS HB (jo _ (HR.out.low qe)) ?_;clear HS HB HR;rintro x1 u1 v1 w1-HS b1 rfl HR HB;clear b1;go_wp2_with fail;refine po HS HB (kS _ (HR.out.low qe)) ?_;clear HS HB HR;rintro x2 u2 v2 w2-HS b2 rfl HR HB;clear b2;exact FH
theorem acE {p:Prop} (h:p:=by
 go_wp2_with fail;refine ac HS HB (dD _ _ (HR.out.low qe) bR) ?_ ?_
 · clear HS HB HR;rintro w1-HS b1 HR HB;clear b1;exact FH
 · clear HS HB HR;rintro w1-HS b1 HR HB;clear b1;go_wp2_with fail;refine ac HS HB (dD _ _ (HR.out.low qe) bR) ?_ ?_
   · clear HS HB HR;rintro w2-HS b2 HR HB;clear b2;exact FH
   · clear HS HB HR;rintro w2-HS b2 HR HB;clear b2;go_wp2_with fail;refine ac HS HB (dD _ _ (HR.out.low qe) bR) ?_ ?_
     · clear HS HB HR;rintro w3-HS b3 HR HB;clear b3;exact FH
     · clear HS HB HR;rintro w3-HS b3 HR HB;clear b3;go_wp2_with fail;refine(BG _ (HR.out.low qe)).mono ?_;rintro e w4 ⟨rfl,b4⟩;have bY:=HB.out;go_wp2_with fail;exact⟨rfl,PO.no (MN HS) (by have q:Bt g _ w4:=bS.of b4;exact qe)⟩
 ):p:=h
theorem ab_ (w:U) (hR:Rd L g t w):aj ae 124 #[.pointer (ah ⟨g,0,X⟩)] w (PO L g VI (run typ t) w):=by
 refine eQ hR ?_;clear hR;intro r HS HR HB hg;go_enter func124,ntmps124;exact acE
theorem alm (w:U) (hR:Rd L g t w):aj ae 195 #[.pointer (ah ⟨g,0,X⟩)] w (PO L g VI (run RX t) w):=by
 refine eQ hR ?_;clear hR;intro r HS HR HB hg;go_enter func195,ntmps195;exact acE
end
end Ps
namespace Ps
open Go.RowKit
open Lx (Tk)
section
variable {L:Lk} {g:Nat} {t:List Tk}
theorem acJ {p:Prop} (h:p:=by
 have HL:=Y (HS.out.symm.trans r3);replace HB:=eu HB w3;replace HR:=Y R3;clear b3 R3;go_wp2_with fail;go_ret;exact PO.ok HL.out HB.out rfl HR.out
 ):p:=h
theorem acI {p:Prop} (h:p:=by
 go_wp2_with fail;refine(MX _ (HR.out.low qe)).mono ?_;rintro e w3 h3;rcases h3.cases with⟨x3,u3,v3,r3,rfl,b3,V3,R3⟩|⟨u3,r3,rfl,b3⟩
 · obtain⟨rfl,-⟩:=V3;exact acJ
 · have bY:=HB.out;go_wp2_with fail;exact⟨rfl,PO.no (HS.out.symm.trans r3) qe⟩
 ):p:=h
theorem aeC (w:U) (hR:Rd L g t w):aj ae 199 #[.pointer (ah ⟨g,0,X⟩)] w (PO L g VI (run arg t) w):=by
 refine eQ hR ?_;clear hR;intro r HS HR HB hg;go_enter func199,ntmps199
 cases i1:is sU t
 · replace HS:=DF HS i1
   cases i2:is vC t
   · replace HS:=DF HS i2;go_wp2_with fail;refine gi HR HB (oz sU _ (HR.out.low qe)) ?_;clear HR HB;rintro w1 b1-HR HB;rw[i1];clear b1;go_wp2_with fail;refine gi HR HB (oz vC _ (HR.out.low qe)) ?_;clear HR HB;rintro w2 b2-HR HB;rw[i2];clear b2;clear i1 i2;go_wp2_with fail;refine(Lp _ (HR.out.low qe)).mono ?_;rintro e w3 h3;rcases h3.cases with⟨x3,u3,v3,r3,rfl,b3,V3,R3⟩|⟨u3,r3,rfl,b3⟩
     · obtain rfl:=V3;exact acJ
     · have bY:=HB.out;go_wp2_with fail;exact⟨rfl,PO.no (HS.out.symm.trans r3) qe⟩
   · replace HS:=DI HS i2;go_wp2_with fail;refine gi HR HB (oz sU _ (HR.out.low qe)) ?_;clear HR HB;rintro w1 b1-HR HB;rw[i1];clear b1;go_wp2_with fail;refine gi HR HB (oz vC _ (HR.out.low qe)) ?_;clear HR HB;rintro w2 b2-HR HB;rw[i2];clear b2;clear i1 i2;exact acI
 · replace HS:=DI HS i1;go_wp2_with fail;refine gi HR HB (oz sU _ (HR.out.low qe)) ?_;clear HR HB;rintro w1 b1-HR HB;rw[i1];clear b1;clear i1;exact acI
end
end Ps
namespace Ps
open Md
theorem y7 {p:Prop} (h:p:=by kernel_rfl):p:=h
theorem YH:Kind 36 105 3:=lW underlying36 (z:=.agg #[.string ⟨#[]⟩,.int .i64 0,.int .i64 0]) (b:=32) y7 bR bR bR
theorem MF:g_ 3 ik:=by intro G w x c h;exact h.is
theorem aiC:Kind 46 199 17:=lW underlying46 (z:=.agg #[.string ⟨#[]⟩,.int .i64 0,.slice X 0 0,.int .i64 0,.string ⟨#[]⟩,.int .i64 0,.int .i64 0,.int .i64 0,.int .i64 0,.slice X 0 0,.slice X 0 0,.int .i64 0,.int .i64 0,.int .i64 0,.int .i64 0,.slice X 0 0,.slice X 0 0]) (b:=232) y7 bR bR bR
theorem abp:g_ 17 iO:=by intro G w x c h;exact h.is
theorem aiF:Kind 47 205 3:=lW underlying47 (z:=.agg #[.string ⟨#[]⟩,.int .i64 0,.int .i64 0]) (b:=32) y7 bR bR bR
theorem abw:g_ 3 jY:=by intro G w x c h;exact h.is
theorem aiz:Kind 48 209 3:=lW underlying48 (z:=.agg #[.string ⟨#[]⟩,.int .i64 0,.int .i64 0]) (b:=32) y7 bR bR bR
theorem abk:g_ 3 jX:=by intro G w x c h;exact h.is
theorem aiD:Kind 50 215 4:=lW underlying50 (z:=.agg #[.string ⟨#[]⟩,.slice X 0 0,.slice X 0 0,.slice X 0 0]) (b:=88) y7 bR bR bR
theorem abq:g_ 4 gU:=by intro G w x c h;exact h.is
theorem aiE:Kind 51 219 5:=lW underlying51 (z:=.agg #[.string ⟨#[]⟩,.slice X 0 0,.int .i64 0,.int .i64 0,.int .i64 0]) (b:=64) y7 bR bR bR
theorem abt:g_ 5 kN:=by intro G w x c h;exact h.is
theorem gLw:Kind 52 241 3:=lW underlying52 (z:=.agg #[.string ⟨#[]⟩,.slice X 0 0,.int .i64 0]) (b:=48) y7 bR bR bR
theorem abn:g_ 3 kL:=by intro G w x c h;exact h.is
theorem QD:Kind 239 268 3:=lW underlying239 (z:=.agg #[.int .i64 0,.string ⟨#[]⟩,.string ⟨#[]⟩]) (b:=40) y7 bR bR bR
theorem aiB:Kind 38 145 3:=lW underlying38 (z:=.agg #[.string ⟨#[]⟩,.string ⟨#[]⟩,.int .i64 0]) (b:=40) y7 bR bR bR
theorem abm:g_ 3 nC:=by intro G w x c h;exact h.is
theorem aiA:Kind 195 260 2:=lW underlying195 (z:=.agg #[.int .i64 0,.int .i64 0]) (b:=16) y7 bR bR bR
theorem IL:g_ 2 iM:=by intro G w x c h;exact h.is
theorem abu:g_ 13 gK:=by intro G w x c h;exact h.is
theorem yO:g_ 1 dU:=by intro G w x c h;subst h;exact⟨rfl,by simp[Value.oneCell']⟩
end Ps
end Go.Proofs.YtkpekhpgdajabaaGreatDoor
