/-
  Parts of this proof: Words for the reader of tokens in memory, and fo. Mathematics of the reference's parser. The contracts of the reader's single steps. The contracts of the reader's tests.
-/
import Derived.Test.YthnillhnjhalmaaGreatDoorYNmCheck
open Go.Proofs.Tryz
open Go renaming World->U,Value->ae,TypeId->ah
open Option renaming none->X,some->ai
open Go.Proofs.Tryz renaming prog->af
open Go.Lib renaming hid->Y
open Nat renaming lt_of_lt_of_le->ag
open Go.RowKit renaming Hid->Z
set_option linter.unusedVariables false
set_option maxRecDepth 100000
set_option maxHeartbeats 2000000
open Go.Lib (hid)
namespace Go.Proofs.YthnillhnjhalmaaGreatDoor
namespace Ps
open Ps.P (rt fl bd acc see kd len)
open Go.RowKit
open Lx (Tk mt jg)
open Ex (Ex Gives iw vN rC bW)
open Sm (St dC Pl)
open Md (Big bX)
structure bT (S:Nat->Prop) (a w:U):Prop where
 os:w.os=a.os
 tape:w.tape=a.tape
 output:w.output=a.output
 size:a.heap.size<=w.heap.size
 block:∀k,k<a.heap.size->S k->w.heap[k]?=a.heap[k]?
section
variable {S S':Nat->Prop} {a w w2:U}
theorem bT.refl (S:Nat->Prop) (w:U):bT S w w:=⟨rfl,rfl,rfl,Nat.le_refl _,fun _ _ _=>rfl⟩
theorem bT.trans (h:bT S a w) (g:bT S w w2):bT S a w2:=⟨g.os.trans h.os,g.tape.trans h.tape,g.output.trans h.output,Nat.le_trans h.size g.size,fun k hk hs=>(g.block k (ag hk h.size) hs).trans (h.block k hk hs)⟩
theorem bT.call (h:bT S a w) (g:bT S' w w2) (hs:∀k,k<a.heap.size->S k->S' k):bT S a w2:=⟨g.os.trans h.os,g.tape.trans h.tape,g.output.trans h.output,Nat.le_trans h.size g.size,fun k hk hsk=>(g.block k (ag hk h.size) (hs k hk hsk)).trans (h.block k hk hsk)⟩
theorem bT.of (h:Below a.heap.size a w):bT S a w:=⟨h.os,h.tape,h.output,h.size,fun k hk _=>h.block k hk⟩
theorem bT.below (h:bT S a w) (g:Below w.heap.size w w2):bT S a w2:=h.trans (bT.of g)
theorem bT.alloc {o:Obj} (h:bT S a w):bT S a (w.alloc o):=h.below (iw (Below.refl _ _))
theorem bT.drew (h:bT S a w):bT S a w.drew:=h.below (rC (Below.refl _ _))
theorem bT.drewN {n:Nat} (h:bT S a w):bT S a (w.drewN n):=h.below (vN (Below.refl _ _))
theorem bT.set {p:Addr} {v:ae} (h:bT S a w) (hp:a.heap.size<=p.block∨¬S p.block):bT S a (w.setCell p v):=by
 refine h.call (S':=fun k=>k≠p.block) ⟨rfl,rfl,rfl,by show _<=(w.heap.modify _ _).size;rw[Array.size_modify];exact Nat.le_refl _,fun k hk hb=>by show(w.heap.modify _ _)[k]?=_;rw[Array.getElem?_modify,if_neg (fun e=>hb e.symm)]⟩ ?_;intro k hk hs e;rcases hp with hp|hp
 · omega
 · exact hp (e▸hs)
theorem vo {p:Prop} (h:p:=by first|(left;simp;done)|(left;simp;omega)|(right;simp;done)|(right;simp;omega)):p:=h
theorem vz {p:Prop} (h:p:=by intro k hk hs;first|exact hs|((try dsimp only at hs ⊢);omega)):p:=h
theorem vB {p:Prop} (h:p:=by assumption):p:=h
theorem qe {p:Prop} (h:p:=by(repeat (first|(with_reducible exact bT.refl _ _)|(with_reducible assumption)|(with_reducible apply bT.alloc)|(with_reducible apply bT.drewN)|(with_reducible apply bT.drew)|(with_reducible refine bT.set ?_ vo)|(with_reducible refine bT.call ?_ vB vz)))):p:=h
theorem qh {p:Prop} (h:p:=by have bZ:=HB.out;(repeat (first|(with_reducible exact bT.refl _ _)|(with_reducible assumption)|(with_reducible apply bT.alloc)|(with_reducible apply bT.drewN)|(with_reducible apply bT.drew)|(with_reducible refine bT.set ?_ vo)|(with_reducible refine bT.call ?_ vB vz)))):p:=h
theorem bT.mono (h:bT S a w) (hs:∀k,k<a.heap.size->S' k->S k):bT S' a w:=⟨h.os,h.tape,h.output,h.size,fun k hk hk2=>h.block k hk (hs k hk hk2)⟩
end
abbrev Bt (g:Nat) (a w:U):Prop:=bT (fun k=>k≠g) a w
abbrev Up (lo:Nat) (a w:U):Prop:=bT (fun k=>lo<=k) a w
abbrev Lw (g:Nat) (a w:U):Prop:=bT (fun k=>k<=g) a w
theorem eu {w:U} {g i:Nat} {t:ah} {c:Array ae} (h:bX w g t c):w.frozen? ⟨g,i,X⟩=false:=by
 unfold World.frozen?;rw[show w.heap[(⟨g,i,X⟩:Addr).block]?=_ from h];simp
theorem eX {w:U} {g i:Nat} {t:ah} {c:Array ae} {v:ae} (h:bX w g t c):bX (w.setCell ⟨g,i,X⟩ v) g t (c.setIfInBounds i v):=by
 unfold bX at h ⊢
 show(w.heap.modify g _)[g]?=_
 rw[Array.getElem?_modify,if_pos rfl,h];rfl
theorem fw {w w2:U} {g:Nat} {t:ah} {c:Array ae} {S:Nat->Prop} (h:bX w g t c) (hb:bT S w w2) (hs:S g):bX w2 g t c:=h.keep (hb.block g h.lt hs)
theorem aoP {w:U} {g:Nat} {t:ah} {z c:Array ae} (h:bX w g t z):bX (w.setRow g c) g t c:=by
 unfold bX at h ⊢
 show(w.heap.modify g _)[g]?=_
 rw[Array.getElem?_modify,if_pos rfl,h];rfl
theorem aoQ {w:U} {g:Nat} {c:Array ae}:Bt g w (w.setRow g c):=⟨rfl,rfl,rfl,by show _<=(w.heap.modify _ _).size;rw[Array.size_modify];exact Nat.le_refl _,fun k hk hb=>by show(w.heap.modify _ _)[k]?=_;rw[Array.getElem?_modify,if_neg (fun e=>hb e.symm)]⟩
theorem agv {w w2:U} {b g:Nat} {t:ah} {c:Array ae} (h:bX w b t c) (hb:Bt g w w2) (hn:¬b=g):bX w2 b t c:=h.keep (hb.block b h.lt hn)
theorem cO {w w2:U} {b:Nat} {t:ah} {c:Array ae} (h:bX w b t c) (hb:bT (fun k=>k=b) w w2):bX w2 b t c:=h.keep (hb.block b h.lt rfl)
theorem bV {w:World} {b:Nat} {t:TypeId} {c:Array Value} (h:Hid (bX w b t c)) (w2:World) (hb:bT (fun k=>k=b) w w2:=by(repeat (first|(with_reducible exact bT.refl _ _)|(with_reducible assumption)|(with_reducible apply bT.alloc)|(with_reducible apply bT.drewN)|(with_reducible apply bT.drew)|(with_reducible refine bT.set ?_ vo)|(with_reducible refine bT.call ?_ vB vz)))):Hid (bX w2 b t c):=Y (cO h.out hb)
theorem dJ {g:Nat} {w w1:World} (h:Hid (Bt g w w1)) (w2:World) (hb:Bt g w w2:=by have bZ:=HB.out;(repeat (first|(with_reducible exact bT.refl _ _)|(with_reducible assumption)|(with_reducible apply bT.alloc)|(with_reducible apply bT.drewN)|(with_reducible apply bT.drew)|(with_reducible refine bT.set ?_ vo)|(with_reducible refine bT.call ?_ vB vz)))):Hid (Bt g w w2):=Y hb
theorem df {w:U} {B:Nat} {t:ah} {a b c d:ae} (h:bX w B t #[a,b,c,d]):w.cell? ⟨B,0,X⟩=ai a/\w.cell? ⟨B,1,X⟩=ai b/\w.cell? ⟨B,2,X⟩=ai c/\w.cell? ⟨B,3,X⟩=ai d/\∀i,w.frozen? ⟨B,i,X⟩=false:=⟨h.get rfl,h.get rfl,h.get rfl,h.get rfl,fun i=>eu (i:=i) h⟩
theorem jo {w:World} {b:Nat} {t:TypeId} {c:Array Value} (h:Hid (bX w b t c)) (w2:World) (hb:bT (fun k=>k=b) w w2:=by have hgB:¬w.heap.size+1=g:=bU;(repeat (first|(with_reducible exact bT.refl _ _)|(with_reducible assumption)|(with_reducible apply bT.alloc)|(with_reducible apply bT.drewN)|(with_reducible apply bT.drew)|(with_reducible refine bT.set ?_ vo)|(with_reducible refine bT.call ?_ vB vz)))):Hid (bX w2 b t c):=Y (cO h.out hb)
theorem jv {lo:Nat} {w:World} {x:Ex} {p:Option Addr} {m:Nat} (k:bW (fun b=>lo<=b) w x p m) (n:Nat) (h:n<lo:=by first|omega|(simp;omega)):Hid (bW (fun b=>n<b) w x p m):=Y (k.mono fun _ hb _=>ag h hb)
theorem ksU {lo:Nat} {w:World} {x:St} {P:Pl} (k:dC (fun b=>lo<=b) w x P) (n:Nat) (h:n<lo:=by first|omega|(simp;omega)):Hid (dC (fun b=>n<b) w x P):=Y (k.mono fun _ hb _=>ag h hb)
theorem sV {w:U} {B:Nat} {t:ah} {a b:ae} (h:bX w B t #[a,b]):w.cell? ⟨B,0,X⟩=ai a/\w.cell? ⟨B,1,X⟩=ai b/\∀i,w.frozen? ⟨B,i,X⟩=false:=⟨h.get rfl,h.get rfl,fun i=>eu (i:=i) h⟩
theorem g3U {w:U} {B:Nat} {t:ah} {a b c:ae} (h:bX w B t #[a,b,c]):w.cell? ⟨B,0,X⟩=ai a/\w.cell? ⟨B,1,X⟩=ai b/\w.cell? ⟨B,2,X⟩=ai c/\∀i,w.frozen? ⟨B,i,X⟩=false:=⟨h.get rfl,h.get rfl,h.get rfl,fun i=>eu (i:=i) h⟩
theorem oJ {g:Nat} {a W w2:World} (hb:Below W.heap.size W w2) (h:Lw g a W:=by(repeat (first|(with_reducible exact bT.refl _ _)|(with_reducible assumption)|(with_reducible apply bT.alloc)|(with_reducible apply bT.drewN)|(with_reducible apply bT.drew)|(with_reducible refine bT.set ?_ vo)|(with_reducible refine bT.call ?_ vB vz)))):Lw g a w2:=h.trans (bT.of hb)
theorem jR (w:U):Z (bX (w.alloc (.cells #[.int .i64 0,.string ⟨#[]⟩,.int .i64 0,.slice X 0 0] 26)) w.heap.size 26 #[.int .i64 0,.string ⟨#[]⟩,.int .i64 0,.slice X 0 0]):=Y bX.new
theorem EW (w:U):Z (bX (w.alloc (.cells #[.int .i64 0,.string ⟨#[]⟩,.string ⟨#[]⟩,.int .i64 0,.string ⟨#[]⟩,.int .i64 0,.slice X 0 0,.int .i64 0,.string ⟨#[]⟩,.int .i64 0,.slice X 0 0,.slice X 0 0,.int .i64 0,.int .i64 0,.int .i64 0,.int .i64 0,.slice X 0 0,.slice X 0 0,.bool false,.slice X 0 0,.slice X 0 0] 58)) w.heap.size 58 #[.int .i64 0,.string ⟨#[]⟩,.string ⟨#[]⟩,.int .i64 0,.string ⟨#[]⟩,.int .i64 0,.slice X 0 0,.int .i64 0,.string ⟨#[]⟩,.int .i64 0,.slice X 0 0,.slice X 0 0,.int .i64 0,.int .i64 0,.int .i64 0,.int .i64 0,.slice X 0 0,.slice X 0 0,.bool false,.slice X 0 0,.slice X 0 0]):=Y bX.new
theorem VS (w:U):Z (bX (w.alloc (.cells #[.string ⟨#[]⟩,.slice X 0 0,.slice X 0 0,.slice X 0 0] 36)) w.heap.size 36 #[.string ⟨#[]⟩,.slice X 0 0,.slice X 0 0,.slice X 0 0]):=Y bX.new
structure Put (t:ah) (g:Nat) (c:Array ae) (w W:U):Prop where
 var:(storeVar t ⟨g,0,X⟩ (.agg c)).run af w=.ok () W
 adr:(Instr.storeAt t (.pointer (ai ⟨g,0,X⟩)) (.agg c)).run af w=.ok () W
 box:bX W g t c
 bt:Bt g w W
 size:W.heap.size=w.heap.size
theorem jM {w:U} {g:Nat} {t:ah} {z c:Array ae} (h:bX w g t z) (ht:Big t c.size) (h1:c.all (·.oneCell')=true) (hz:z.size=c.size):∃W,Put t g c w W:=by
 have hv:=run_storeVar_row (P:=af) w g t t z c h ht.2 hz h1;refine⟨w.setRow g c,hv,?_,aoP h,aoQ,?_⟩
 · simp only[Instr.storeAt,Instr.sureAddr,Sem.run_bind,Sem.run_pure,Result.andThen];exact hv
 · show(w.heap.modify _ _).size=_
   rw[Array.size_modify]
theorem Put.cells {w W:U} {g:Nat} {t:ah} {c:Array ae} {l:List ae} (h:Put t g c w W) (hz:(Tryz.prog.info? t).map (·.size)=ai c.size) (hl:c.toList=l):(storeCells ⟨g,0,X⟩ l 0).run af w=.ok () W:=by
 subst hl;have:=h.var
 cases hq:Tryz.prog.info? t with
 | none=>simp[hq] at hz
 | some i=>
  have hs:c.size=i.size:=by simp[hq] at hz;omega
  simpa [storeVar,sizeOf,typeInfo,hq,Value.cells,hs] using this
structure Lk where
 b:Nat
 o:Nat
 m:Nat
 c:Nat
 l:List Tk
def Lk.at (L:Lk) (t:List Tk):Nat:=L.l.length-t.length
def Ub (L:Lk) (t:List Tk):Array ae:=#[.slice (ai ⟨L.b,L.o,X⟩) L.m L.c,.int .i64 ((L.at t:Nat):Int)]
structure Rd (L:Lk) (g:Nat) (t:List Tk) (w:U):Prop where
 lt:L.b<g
 box:bX w g 123 (Ub L t)
 drop:L.l.drop (L.at t)=t
 toks:jg w (ai ⟨L.b,L.o,X⟩) L.m L.l
 gd:Gd t
 few:L.l.length<=30000
theorem UT {w w2:U} {b o m g:Nat} {l:List Tk} (h:jg w (ai ⟨b,o,X⟩) m l) (hb:Lw g w w2) (hg:b<=g):jg w2 (ai ⟨b,o,X⟩) m l:=by
 obtain⟨e1,e2,e3|⟨b',o',e,hlt,hc⟩⟩:=h
 · exact⟨e1,e2,.inl e3⟩
 · cases e
   have hk:∀(k:Nat),w2.cell? ⟨b,k,X⟩=w.cell? ⟨b,k,X⟩:=fun k=>World.cell?_of_block (a:=⟨b,k,X⟩) (hb.block b hlt hg);exact⟨e1,e2,.inr ⟨b,o,rfl,ag hlt hb.size,Y fun i hi=>by
    obtain⟨q0,q1,q2,q3⟩:=hc.out i hi;exact⟨(hk _).trans q0,(hk _).trans q1,(hk _).trans q2,(hk _).trans q3⟩⟩⟩
theorem Rd.low {L:Lk} {g:Nat} {t:List Tk} {w w2:U} (h:Rd L g t w) (hb:Lw g w w2):Rd L g t w2:=⟨h.lt,h.box.keep (hb.block g h.box.lt (Nat.le_refl _)),h.drop,UT h.toks hb (Nat.le_of_lt h.lt),h.gd,h.few⟩
theorem Rd.len {L:Lk} {g:Nat} {t:List Tk} {w:U} (h:Rd L g t w):L.at t+t.length=L.l.length/\L.l.length=L.m/\L.at t<L.m:=by
 exact zzx
theorem Rd.blk {L:Lk} {g:Nat} {t:List Tk} {w:U} (h:Rd L g t w):g<w.heap.size:=h.box.lt
theorem Rd.small {L:Lk} {g:Nat} {t:List Tk} {w:U} (h:Rd L g t w):t.length<=30000:=by have h1:=h.len;have h2:=h.few;omega
theorem Rd.fu {L:Lk} {g:Nat} {t:List Tk} {w:U} (h:Rd L g t w):t.length<FU:=by have:=h.small;unfold FU;omega
theorem Rd.tok {L:Lk} {g:Nat} {t:List Tk} {w:U} (h:Rd L g t w):Lx.h_ w L.b (L.o+L.at t*4) (hd t):=by
 obtain⟨h1,h2,h3⟩:=h.len;obtain⟨e1,e2,e3|⟨b,o,e,hb,hc⟩⟩:=h.toks
 · omega
 · cases e
   have:=hc.out (L.at t) bU;have e:L.l[L.at t]'(by omega)=hd t:=by
    have h4:=h.drop;rw[List.drop_eq_getElem_cons bU] at h4;exact congrArg (fun z:List Tk=>z.headD ⟨0,mt,0,0⟩) h4
   rwa [e] at this
theorem Rd.c0 {L:Lk} {g:Nat} {t:List Tk} {w:U} (h:Rd L g t w):w.cell? ⟨g,0,X⟩=ai (.slice (ai ⟨L.b,L.o,X⟩) L.m L.c):=h.box.get rfl
theorem Rd.c1 {L:Lk} {g:Nat} {t:List Tk} {w:U} (h:Rd L g t w):w.cell? ⟨g,1,X⟩=ai (.int .i64 ((L.at t:Nat):Int)):=h.box.get rfl
theorem Rd.ny {L:Lk} {g i:Nat} {t:List Tk} {w:U} (h:Rd L g t w):w.frozen? ⟨g,i,X⟩=false:=by
 unfold World.frozen?;rw[show w.heap[(⟨g,i,X⟩:Addr).block]?=_ from h.box];simp
theorem Rd.step {L:Lk} {g:Nat} {t:List Tk} {w:U} (h:Rd L g t w) (hk:¬(hd t).k=0):Rd L g t.tail (w.setCell ⟨g,1,X⟩ (.int .i64 ((L.at t:Nat)+1:Int))):=by
 obtain⟨h1,h2,h3⟩:=h.len;obtain⟨g1,g2⟩:=h.gd.tail hk;have ha:L.at t.tail=L.at t+1:=by unfold Lk.at at h1 ⊢; omega
 have hlt:=h.lt;refine⟨h.lt,?_,?_,?_,g1,h.few⟩
 · have hb:=h.box;unfold bX at hb ⊢
   show(w.heap.modify g _)[g]?=_
   rw[Array.getElem?_modify,if_pos rfl,hb];unfold Ub;rw[ha];rfl
 · rw[ha,← List.drop_drop,h.drop,List.drop_one]
 · obtain⟨e1,e2,e3|⟨b,o,e,hb,hc⟩⟩:=h.toks
   · exact⟨e1,e2,.inl e3⟩
   · cases e
     have hbl:bT (fun k=>k≠g) w (w.setCell ⟨g,1,X⟩ (.int .i64 ((L.at t:Nat)+1:Int))):=bT.set (bT.refl _ _) (.inr fun h=>h rfl);have hk:∀(k:Nat),(w.setCell ⟨g,1,X⟩ (.int .i64 ((L.at t:Nat)+1:Int))).cell? ⟨L.b,k,X⟩=w.cell? ⟨L.b,k,X⟩:=fun k=>World.cell?_of_block (a:=⟨L.b,k,X⟩) (hbl.block L.b hb bU);exact zzr
theorem QJ {g j:Nat} {w:U} {v:ae}:Bt g w (w.setCell ⟨g,j,X⟩ v):=bT.set (bT.refl _ _) (.inr fun h=>h rfl)
theorem Xq {w:U} {g:Nat} {t:ah} {z:Array ae} {a b:ae} (h:bX w g t z) (hz:z.size=2):bX ((w.setCell ⟨g,0,X⟩ a).setCell ⟨g,1,X⟩ b) g t #[a,b]:=by
 obtain⟨x0,x1,rfl⟩:∃x0 x1,z=#[x0,x1]:=by
  match z,hz with
  | ⟨[x0,x1]⟩,_=>exact⟨x0,x1,rfl⟩
 exact eX (eX h)
theorem LX {w:U} {g:Nat} {t:ah} {z:Array ae} {a b c:ae} (h:bX w g t z) (hz:z.size=3):bX (((w.setCell ⟨g,0,X⟩ a).setCell ⟨g,1,X⟩ b).setCell ⟨g,2,X⟩ c) g t #[a,b,c]:=by
 obtain⟨x0,x1,x2,rfl⟩:∃x0 x1 x2,z=#[x0,x1,x2]:=by
  match z,hz with
  | ⟨[x0,x1,x2]⟩,_=>exact⟨x0,x1,x2,rfl⟩
 exact eX (eX (eX h))
theorem mi {w:U} {g:Nat} {t:ah} {z:Array ae} {a b c d:ae} (h:bX w g t z) (hz:z.size=4):bX ((((w.setCell ⟨g,0,X⟩ a).setCell ⟨g,1,X⟩ b).setCell ⟨g,2,X⟩ c).setCell ⟨g,3,X⟩ d) g t #[a,b,c,d]:=by
 obtain⟨x0,x1,x2,x3,rfl⟩:∃x0 x1 x2 x3,z=#[x0,x1,x2,x3]:=by
  match z,hz with
  | ⟨[x0,x1,x2,x3]⟩,_=>exact⟨x0,x1,x2,x3,rfl⟩
 exact eX (eX (eX (eX h)))
def uP (n:Int):List PanicEntry:=[{ v:=.iface 120 (.agg #[.int .i64 n]),recovered:=false }]
def PO {α:Type} (L:Lk) (g:Nat) (V:Nat->U->α->ae->Prop) (r:R α) (w:U) (e:Ending) (w':U):Prop:=
 Bt g w w'/\match r with
  | .ok x u=>∃v,e=.returned v/\V w.heap.size w' x v/\Rd L g u w'
  | .no u=>e=.panicked (uP (hd u).l)
section
variable {α β:Type} {L:Lk} {g:Nat} {V:Nat->U->α->ae->Prop} {r:R α} {w w':U} {e:Ending} {x:α} {t u:List Tk} {v:ae}
theorem PO.ok (hr:r=.ok x u) (hb:Bt g w w') (hV:V w.heap.size w' x v) (hR:Rd L g u w'):PO L g V r w (.returned v) w':=by subst hr;exact⟨hb,v,rfl,hV,hR⟩
theorem PO.no (hr:r=.no u) (hb:Bt g w w'):PO L g V r w (.panicked (uP (hd u).l)) w':=by subst hr;exact⟨hb,rfl⟩
theorem PO.cases (h:PO L g V r w e w'):(∃x u v,r=.ok x u/\e=.returned v/\Bt g w w'/\V w.heap.size w' x v/\Rd L g u w')∨(∃u,r=.no u/\e=.panicked (uP (hd u).l)/\Bt g w w'):=by
 obtain⟨hb,h⟩:=h
 cases r with
 | ok x u=>obtain⟨v,h1,h2,h3⟩:=h;exact .inl ⟨x,u,v,rfl,h1,hb,h2,h3⟩
 | no u=>exact .inr ⟨u,rfl,h,hb⟩
def tv (x:Tk):ae:=.agg #[.int .i64 x.k,.string x.t,.int .i64 x.n,.int .i64 x.l]
def TO (L:Lk) (g:Nat) (k:Int) (t:List Tk) (w:U) (e:Ending) (w':U):Prop:=
 Bt g w w'/\(((hd t).k=k/\e=.returned (tv (hd t))/\Rd L g t.tail w')∨(¬(hd t).k=k/\e=.panicked (uP (hd t).l)))
def AO (L:Lk) (g:Nat) (s:ByteArray) (t:List Tk) (w:U) (e:Ending) (w':U):Prop:=
 Bt g w w'/\((is s t=true/\e=.returned (.bool true)/\Rd L g t.tail w')∨(is s t=false/\e=.returned (.bool false)/\Rd L g t w'))
def VI (lo:Nat) (w:U) (n:Int) (v:ae):Prop:=v=.int .i64 n
def VN (lo:Nat) (w:U) (n:Int) (v:ae):Prop:=v=.int .i64 n/\0<=n/\n<=1000000000000
def VB (lo:Nat) (w:U) (n:Int) (v:ae):Prop:=v=.int .i64 n/\(n=0∨n=1)
def VT (lo:Nat) (w:U) (s:ByteArray) (v:ae):Prop:=v=.string s
def VU (lo:Nat) (w:U) (x:Unit) (v:ae):Prop:=v=.tuple #[]
def VC {α:Type} (c:α->Array ae) (lo:Nat) (w:U) (x:α) (v:ae):Prop:=v=.agg (c x)
variable {m:P β} {k:β->P α} {A B:P α} {s:ByteArray} {y:β} {n:Int}
theorem fB (H:Z (run (bd m k) t=r)) (h:run m t=.ok y u):Z (run (k y) u=r):=Y ((dN h).symm.trans H.out)
theorem fI (H:Z (run (bd m k) t=r)) (h:run m t=.no u):r=.no u:=H.out.symm.trans (eU h)
theorem EI (H:Z (run (acc s A B) t=r)) (h:is s t=true):Z (run A t.tail=r):=Y ((um h).symm.trans H.out)
theorem EF (H:Z (run (acc s A B) t=r)) (h:is s t=false):Z (run B t=r):=Y ((lQ h).symm.trans H.out)
theorem EH (H:Z (run (see s A B) t=r)) (h:is s t=true):Z (run A t=r):=Y ((Ez h).symm.trans H.out)
theorem EG (H:Z (run (see s A B) t=r)) (h:is s t=false):Z (run B t=r):=Y ((Ey h).symm.trans H.out)
theorem Uy (H:Z (run (kd n A B) t=r)) (h:(hd t).k=n):Z (run A t=r):=Y ((BO h).symm.trans H.out)
theorem Uz (H:Z (run (kd n A B) t=r)) (h:¬(hd t).k=n):Z (run B t=r):=Y ((DX h).symm.trans H.out)
theorem dD {x:α} (H:Z (run (rt x) t=r)):r=.ok x t:=H.out.symm
theorem Oe (H:Z (run (fl:P α) t=r)):r=.no t:=H.out.symm
theorem ac9 {p q:P α} (H:Z (run p t=r)) (e:p=q):Z (run q t=r):=by rw[← e];exact H
section
variable {α β γ:Type} {L:Lk} {g:Nat} {r:R α} {t u:List Tk} {m:P γ} {k:γ->P β} {K:β->P α} {A B:P β} {s:ByteArray} {y:β} {n:Int}
theorem jw (H:Z (run (bd (bd m k) K) t=r)):Z (run (bd m fun x=>bd (k x) K) t=r):=by
 refine Y (Eq.trans ?_ H.out)
 cases h:run m t with
 | ok x u=>
  rw[dN h]
  cases h2:run (k x) u with
  | ok y v=>rw[dN h2,dN ((dN h).trans h2)]
  | no v=>rw[eU h2,eU ((dN h).trans h2)]
 | no u=>rw[eU h,eU (eU h)]
theorem Fs {m m':P β} {t t':List Tk} (h:run m t=run m' t'):run (bd m K) t=run (bd m' K) t':=by
 cases h2:run m' t' with
 | ok y v=>rw[dN h2,dN (h.trans h2)]
 | no v=>rw[eU h2,eU (h.trans h2)]
theorem apd (H:Z (run (bd (kd n A B) K) t=r)) (h:(hd t).k=n):Z (run (bd A K) t=r):=Y ((Fs (BO h)).symm.trans H.out)
theorem ape (H:Z (run (bd (kd n A B) K) t=r)) (h:¬(hd t).k=n):Z (run (bd B K) t=r):=Y ((Fs (DX h)).symm.trans H.out)
theorem yz (H:Z (run (bd (acc s A B) K) t=r)) (h:is s t=true):Z (run (bd A K) t.tail=r):=Y ((Fs (um h)).symm.trans H.out)
theorem yx (H:Z (run (bd (acc s A B) K) t=r)) (h:is s t=false):Z (run (bd B K) t=r):=Y ((Fs (lQ h)).symm.trans H.out)
theorem apg (H:Z (run (bd (see s A B) K) t=r)) (h:is s t=true):Z (run (bd A K) t=r):=Y ((Fs (Ez h)).symm.trans H.out)
theorem apf (H:Z (run (bd (see s A B) K) t=r)) (h:is s t=false):Z (run (bd B K) t=r):=Y ((Fs (Ey h)).symm.trans H.out)
theorem mI (H:Z (run (bd (rt y) K) t=r)):Z (run (K y) t=r):=Y ((dN (jX (x:=y) (t:=t))).symm.trans H.out)
end
end
section
variable {α β:Type} {L:Lk} {g:Nat} {V:Nat->U->β->ae->Prop} {V1:Nat->U->α->ae->Prop} {r:R α} {w w0 w1 W:U} {t:List Tk} {m:P β} {m1:P α} {k:β->P α} {f:FuncId} {a:Array ae} {Q:Ending->U->Prop} {v:ae}
theorem po (HS:Hid (run (bd m k) t=r)) (HB:Hid (Bt g w w0)) (c:Calls Tryz.prog f a W (PO L g V (run m t) W)) (ok:∀x u v w',run m t=.ok x u->Hid (run (k x) u=r)->Bt g W w'->V W.heap.size w' x v->Hid (Rd L g u w')->Hid (Bt g w w')->Q (.returned v) w') (hb:Bt g w W:=by have bZ:=HB.out;(repeat (first|(with_reducible exact bT.refl _ _)|(with_reducible assumption)|(with_reducible apply bT.alloc)|(with_reducible apply bT.drewN)|(with_reducible apply bT.drew)|(with_reducible refine bT.set ?_ vo)|(with_reducible refine bT.call ?_ vB vz)))) (no:∀u w',run m t=.no u->Bt g W w'->Q (.panicked (uP (hd u).l)) w':=by intro _ _ rr _;have bZ:=HB.out;go_wp2_with fail;exact⟨rfl,PO.no (fI HS rr) (by(repeat (first|(with_reducible exact bT.refl _ _)|(with_reducible assumption)|(with_reducible apply bT.alloc)|(with_reducible apply bT.drewN)|(with_reducible apply bT.drew)|(with_reducible refine bT.set ?_ vo)|(with_reducible refine bT.call ?_ vB vz))))⟩):Calls Tryz.prog f a W Q:=by
 refine c.mono ?_;rintro e w' h;rcases h.cases with⟨x,u,v,r1,rfl,b,V1,R1⟩|⟨u,r1,rfl,b⟩
 · exact ok x u v w' r1 (fB HS r1) b V1 (Y R1) (Y (hb.trans b))
 · exact no u w' r1 b
theorem pl (HS:Hid (run m1 t=r)) (HB:Hid (Bt g w w0)) (c:Calls Tryz.prog f a W (PO L g V1 (run m1 t) W)) (ok:∀x u v w',run m1 t=.ok x u->Hid (r=.ok x u)->Bt g W w'->V1 W.heap.size w' x v->Hid (Rd L g u w')->Hid (Bt g w w')->Q (.returned v) w') (hb:Bt g w W:=by have bZ:=HB.out;(repeat (first|(with_reducible exact bT.refl _ _)|(with_reducible assumption)|(with_reducible apply bT.alloc)|(with_reducible apply bT.drewN)|(with_reducible apply bT.drew)|(with_reducible refine bT.set ?_ vo)|(with_reducible refine bT.call ?_ vB vz)))) (no:∀u w',run m1 t=.no u->Bt g W w'->Q (.panicked (uP (hd u).l)) w':=by intro _ _ rr _;have bZ:=HB.out;go_wp2_with fail;exact⟨rfl,PO.no (HS.out.symm.trans rr) (by(repeat (first|(with_reducible exact bT.refl _ _)|(with_reducible assumption)|(with_reducible apply bT.alloc)|(with_reducible apply bT.drewN)|(with_reducible apply bT.drew)|(with_reducible refine bT.set ?_ vo)|(with_reducible refine bT.call ?_ vB vz))))⟩):Calls Tryz.prog f a W Q:=by
 refine c.mono ?_;rintro e w' h;rcases h.cases with⟨x,u,v,r1,rfl,b,V1,R1⟩|⟨u,r1,rfl,b⟩
 · exact ok x u v w' r1 (Y (HS.out.symm.trans r1)) b V1 (Y R1) (Y (hb.trans b))
 · exact no u w' r1 b
theorem eD (hR:Rd L g t w) (h:∀r,Z (run m1 t=r)->Z (Rd L g t w)->Z (Bt g w w)->g<w.heap.size->Calls af f a w (PO L g V1 r w)):Calls af f a w (PO L g V1 (run m1 t) w):=h _ (Y rfl) (Y hR) (Y (bT.refl _ _)) hR.blk
theorem ac {A B:P α} {s:ByteArray} (HS:Hid (run (acc s A B) t=r)) (HB:Hid (Bt g w w0)) (c:Calls Tryz.prog f a W (AO L g s t W)) (yes:∀w',is s t=true->Hid (run A t.tail=r)->Bt g W w'->Hid (Rd L g t.tail w')->Hid (Bt g w w')->Q (.returned (.bool true)) w') (no:∀w',is s t=false->Hid (run B t=r)->Bt g W w'->Hid (Rd L g t w')->Hid (Bt g w w')->Q (.returned (.bool false)) w') (hb:Bt g w W:=by have bZ:=HB.out;(repeat (first|(with_reducible exact bT.refl _ _)|(with_reducible assumption)|(with_reducible apply bT.alloc)|(with_reducible apply bT.drewN)|(with_reducible apply bT.drew)|(with_reducible refine bT.set ?_ vo)|(with_reducible refine bT.call ?_ vB vz)))):Calls Tryz.prog f a W Q:=by
 refine c.mono ?_;rintro e w' ⟨b,⟨i,rfl,R1⟩|⟨i,rfl,R1⟩⟩
 · exact yes w' i (EI HS i) b (Y R1) (Y (hb.trans b))
 · exact no w' i (EF HS i) b (Y R1) (Y (hb.trans b))
theorem gi (HR:Hid (Rd L g t w1)) (HB:Hid (Bt g w w0)) (c:Calls Tryz.prog f a W (Gives v W)) (ok:∀w',Bt g W w'->Below W.heap.size W w'->Hid (Rd L g t w')->Hid (Bt g w w')->Q (.returned v) w') (hb:Bt g w W:=by have bZ:=HB.out;(repeat (first|(with_reducible exact bT.refl _ _)|(with_reducible assumption)|(with_reducible apply bT.alloc)|(with_reducible apply bT.drewN)|(with_reducible apply bT.drew)|(with_reducible refine bT.set ?_ vo)|(with_reducible refine bT.call ?_ vB vz)))) (hr:Lw g w1 W:=by(repeat (first|(with_reducible exact bT.refl _ _)|(with_reducible assumption)|(with_reducible apply bT.alloc)|(with_reducible apply bT.drewN)|(with_reducible apply bT.drew)|(with_reducible refine bT.set ?_ vo)|(with_reducible refine bT.call ?_ vB vz)))):Calls Tryz.prog f a W Q:=by
 exact Pq
end
end Ps
namespace Ps
open Ps.P (rt bd acc see kd tk exp len)
open Go.RowKit
open Lx (Tk bs)
open Ex (Ex)
def Rel {α:Type} (m:P α) (b:Bool) (t:List Tk) (x:α) (b':Bool) (u:List Tk):Prop:=
 (b=true->b'=true/\u=t)/\(b=false->(run m t=.ok x u/\b'=false)∨(run m t=.no u/\b'=true))
section
variable {α β:Type} {m m':P β} {k:β->P α} {A B:P α} {s:ByteArray} {n:Int} {b b1 b2:Bool} {t u v:List Tk} {x:α} {y:β}
theorem Rel.bad:Rel A true t x true t:=⟨fun _=>⟨rfl,rfl⟩,fun h=>by cases h⟩
theorem Rel.rt:Rel (rt x) b t x b t:=⟨fun h=>⟨h,rfl⟩,fun h=>.inl ⟨jX,h⟩⟩
theorem Rel.ok (h:run A t=.ok x u):Rel A false t x false u:=⟨fun h=>(by cases h),fun _=>.inl ⟨h,rfl⟩⟩
theorem Rel.no (h:run A t=.no u):Rel A false t x true u:=⟨fun h=>(by cases h),fun _=>.inr ⟨h,rfl⟩⟩
theorem Rel.bd (h:Rel m b t y b1 u) (g:Rel (k y) b1 u x b2 v):Rel (bd m k) b t x b2 v:=by
 refine⟨fun e=>?_,fun e=>?_⟩
 · obtain⟨e1,rfl⟩:=h.1 e;exact g.1 e1
 · rcases h.2 e with⟨h1,h2⟩|⟨h1,h2⟩
   · rcases g.2 h2 with⟨h3,h4⟩|⟨h3,h4⟩
     · exact .inl ⟨(dN h1).trans h3,h4⟩
     · exact .inr ⟨(dN h1).trans h3,h4⟩
   · obtain⟨h3,rfl⟩:=g.1 h2;exact .inr ⟨eU h1,h3⟩
theorem Rel.of (h:b=false->run A t=run B t) (g:Rel B b t x b1 u):Rel A b t x b1 u:=⟨g.1,fun e=>by rw[h e];exact g.2 e⟩
end
def To {α:Type} (m0:P α) (b0:Bool) (t0:List Tk) (m:P α) (b:Bool) (t:List Tk):Prop:=∀x b' u,Rel m b t x b' u->Rel m0 b0 t0 x b' u
section
variable {α β:Type} {m0:P α} {b0:Bool} {t0:List Tk} {m:P β} {k:β->P α} {A B:P α} {s:ByteArray} {n:Int} {b b1:Bool} {t u:List Tk} {x:α} {y:β}
theorem yE:Z (To m0 b0 t0 m0 b0 t0):=Y fun _ _ _ h=>h
theorem Oj (H:Z (To m0 b0 t0 (bd m k) b t)) (h:Rel m b t y b1 u):Z (To m0 b0 t0 (k y) b1 u):=Y fun _ _ _ g=>H.out _ _ _ (h.bd g)
theorem GA (H:Z (To m0 b0 t0 A b t)) (h:b=false->run A t=run B t):Z (To m0 b0 t0 B b t):=Y fun _ _ _ g=>H.out _ _ _ (g.of h)
theorem pY (H:Z (To m0 b0 t0 (acc s A B) false t)) (h:is s t=true):Z (To m0 b0 t0 A false t.tail):=Y fun x b' u g=>H.out _ _ _ ⟨fun e=>(by cases e),fun _=>by rw[um h];exact g.2 rfl⟩
theorem pX (H:Z (To m0 b0 t0 (acc s A B) b t)) (h:(!b&&is s t)=false):Z (To m0 b0 t0 B b t):=GA H fun e=>by subst e;exact lQ h
theorem UR (H:Z (To m0 b0 t0 (see s A B) false t)) (h:is s t=true):Z (To m0 b0 t0 A false t):=GA H fun _=>Ez h
theorem UQ (H:Z (To m0 b0 t0 (see s A B) b t)) (h:(!b&&is s t)=false):Z (To m0 b0 t0 B b t):=GA H fun e=>by subst e;exact Ey h
theorem apW (H:Z (To m0 b0 t0 (kd n A B) false t)) (h:(hd t).k=n):Z (To m0 b0 t0 A false t):=GA H fun _=>BO h
theorem apX (H:Z (To m0 b0 t0 (kd n A B) b t)) (h:(!b&&decide ((hd t).k=n))=false):Z (To m0 b0 t0 B b t):=GA H fun e=>by subst e;exact DX Ad
theorem uY (H:Z (To m0 b0 t0 (rt x) b t)):Rel m0 b0 t0 x b t:=H.out _ _ _ Rel.rt
theorem adl (H:Z (To m0 b0 t0 A b t)) (h:Rel A b t x b1 u):Rel m0 b0 t0 x b1 u:=H.out _ _ _ h
end
def pat (t:List Tk):Bool:=is fK t&&is eH t.tail&&decide ((hd t.tail.tail).k=2)&&is iG t.tail.tail.tail
theorem X5 {m:P Ex} {os:List (ByteArray×Int)}:∀(n:Nat) (e:Ex) (t u:List Tk) (x:Ex),run (gU m os n e) t=.ok x u->(x=e/\u=t)∨x.o∈os.map (·.2)
 | 0,e,t,u,x,h=>by rw[gU,Gw] at h;cases h
 | n+1,e,t,u,x,h=>by
  rw[gU] at h;have key:∀(o:Int),o∈os.map (·.2)->∀(v:List Tk),run (bd m fun y=>gU m os n (dF o e y)) v=.ok x u->x.o∈os.map (·.2):=by
   intro o ho v h
   cases hm:run m v with
   | ok y v2=>
    rw[dN hm] at h;rcases X5 n _ _ _ _ h with⟨e1,-⟩|g
    · rw[e1];exact ho
    · exact g
   | no v2=>rw[eU hm] at h;cases h
  have all:∀(l:List (ByteArray×Int)),(∀q∈l,q∈os)->run (rZ (fun o=>bd m fun y=>gU m os n (dF o e y)) (rt e) l) t=.ok x u->(x=e/\u=t)∨x.o∈os.map (·.2):=by
   intro l
   induction l with
   | nil=>intro _ h;rw[rZ,jX] at h;cases h;exact .inl ⟨rfl,rfl⟩
   | cons q l ih=>
    intro hl h;rw[rZ] at h
    cases hi:is q.1 t with
    | true=>rw[um hi] at h;exact .inr (key q.2 (List.mem_map.2 ⟨q,hl q (.head _),rfl⟩) _ h)
    | false=>rw[lQ hi] at h;exact ih (fun p hp=>hl p (.tail _ hp)) h
  exact all os (fun _ h=>h) h
theorem Mh {m:P Ex} {os:List (ByteArray×Int)} {t u:List Tk} {x:Ex} (h:run (gI m os) t=.ok x u) (ho:¬x.o∈os.map (·.2)):run m t=.ok x u:=by
 unfold gI at h
 cases hm:run m t with
 | ok e v=>
  rw[dN hm] at h;rcases X5 _ _ _ _ _ h with⟨e1,e2⟩|g
  · rw[e1,e2]
  · exact absurd g ho
 | no v=>rw[eU hm] at h;cases h
theorem qH {α:Type} {s:ByteArray} {A B:P α} {t u:List Tk} {x:α} (h:run (acc s A B) t=.ok x u) (hA:¬run A t.tail=.ok x u):run B t=.ok x u:=by
 cases hi:is s t with
 | true=>rw[um hi] at h;exact absurd h hA
 | false=>rwa [lQ hi] at h
theorem acX {α:Type} {s:ByteArray} {A B:P α} {t u:List Tk} {x:α} (h:run (see s A B) t=.ok x u) (hA:¬run A t=.ok x u):run B t=.ok x u:=by
 cases hi:is s t with
 | true=>rw[Ez hi] at h;exact absurd h hA
 | false=>rwa [Ey hi] at h
structure Fo {α:Type} (Q:α->Prop) (m:P α):Prop where
 out:∀{t u:List Tk} {x:α},run m t=.ok x u->Q x
theorem Fo.rt {α:Type} {Q:α->Prop} {x:α} (h:Q x):Fo Q (rt x):=⟨fun e=>by rw[jX] at e;cases e;exact h⟩
theorem Fo.bd {α β:Type} {Q:α->Prop} {m:P β} {k:β->P α} (h:∀x,Fo Q (k x)):Fo Q (bd m k):=⟨fun {t u x} e=>by
 cases hm:run m t with
 | ok y v=>rw[dN hm] at e;exact(h y).out e
 | no v=>rw[eU hm] at e;cases e⟩
theorem ZN (E:P Ex) (o:Int):Fo (fun x=>x.o=o) (one E o):=.bd fun _=>.bd fun _=>.bd fun _=>.rt rfl
theorem ZO (E:P Ex) (o:Int):Fo (fun x=>x.o=o) (two E o):=.bd fun _=>.bd fun _=>.bd fun _=>.bd fun _=>.bd fun _=>.rt rfl
theorem Sd (o:Int):Fo (fun x=>x.o=o) (xZ o):=.bd fun _=>.bd fun _=>.bd fun _=>.rt rfl
theorem ah9 {f:P Ex} {t u:List Tk} {x:Ex} (h:run (cmp f) t=.ok x u) (ho:x.o=5):run (sum f) t=.ok x u:=by
 unfold cmp at h
 cases hm:run (sum f) t with
 | no v=>rw[eU hm] at h;cases h
 | ok e v=>
  rw[dN hm] at h;have k:∀(o:Int) (q:Ex->Ex),(∀y,(q y).o=o)->¬o=5->∀w,¬run (bd (sum f) fun y=>rt (q y)) w=.ok x u:=fun o q hq h5 w e=>h5 (by
   have:=(Fo.bd (Q:=fun x=>x.o=o) (m:=sum f) (k:=fun y=>rt (q y)) fun y=>.rt (hq y)).out e;rw[← this,ho])
  replace h:=qH h (k 14 (fun y=>dF 14 e y) (fun _=>rfl) bS _);replace h:=qH h (k 15 (fun y=>dF 15 e y) (fun _=>rfl) bS _);replace h:=qH h (k 16 (fun y=>dF 16 e y) (fun _=>rfl) bS _);replace h:=qH h (k 17 (fun y=>dF 17 e y) (fun _=>rfl) bS _);replace h:=qH h (k 16 (fun y=>dF 16 y e) (fun _=>rfl) bS _);replace h:=qH h (k 17 (fun y=>dF 17 y e) (fun _=>rfl) bS _);rw[jX] at h;cases h
  rfl
theorem ajv {n:Nat} {t u:List Tk} {x:Ex} (h:run (fE (n+1)) t=.ok x u) (ho:x.o=5):run (fF (n+1)) t=.ok x u:=by
 rw[IP] at h;have h1:=Mh (Mh h (by rw[ho];decide)) (by rw[ho];decide);rw[IQ] at h1;have h2:run (cmp (fF (n+1))) t=.ok x u:=qH h1 fun e=>by
  have:=(Fo.bd (Q:=fun x=>x.o=6) (m:=fN n) (k:=fun x=>rt (iR 6 x)) fun y=>.rt rfl).out e;omega
 exact Mh (Mh (ah9 h2 ho) (by rw[ho];decide)) (by rw[ho];decide)
theorem ake {E:P Ex} (h:Dn 1 E):Dn 3 (wH E):=.len (.bd (a:=1) (b:=2) (.exp bS) (fun _=>.bd (a:=1) (b:=1) h (fun _=>.bd (a:=1) (b:=0) (.exp bS) (fun _=>.rt) bS) bS) bS)
theorem ab2 {E:P Ex} {t u:List Tk} {x:Ex} (hE:Dn 1 E) (g:Gd t) (h:run (wO E) t=.ok x u) (hu:t.length<=u.length+2) (ho:x.o=1∨x.o=5):(hd t).k=2/\x=fo 1 (hd t).n/\u=t.tail:=by
 unfold wO at h;by_cases hk:(hd t).k=2
 · rw[BO hk] at h;unfold num at h;have e2:run (bd (tk 2) fun x=>rt x.2) t=.ok (hd t).n t.tail:=by rw[dN (tO hk)];rfl
   rw[dN e2,jX] at h;cases h
   exact⟨hk,rfl,rfl⟩
 · exfalso
   rw[DX hk] at h;have k:∀(q:P Ex) (o:Int) (w:List Tk),Fo (fun x=>x.o=o) q->¬o=1->¬o=5->¬run q w=.ok x u:=fun q o w hq h1 h5 e=>by
    have:=hq.out e;rcases ho with ho|ho <;> omega
   replace h:=acX h (k _ 2 _ (.bd fun _=>.rt rfl) bS bS);replace h:=acX h (k _ 2 _ (.bd fun _=>.rt rfl) bS bS);replace h:=qH h (k _ 4 _ (.rt rfl) bS bS);replace h:=qH h (k _ 7 _ (ZN _ _) bS bS);replace h:=qH h (k _ 8 _ (ZN _ _) bS bS);replace h:=qH h (k _ 20 _ (ZO _ _) bS bS);replace h:=qH h (k _ 21 _ (ZO _ _) bS bS);replace h:=qH h (k _ 22 _ (Sd _) bS bS);replace h:=qH h (k _ 23 _ (Sd _) bS bS);replace h:=qH h (k _ 24 _ (Sd _) bS bS)
   cases hi:is fK t with
   | true=>
    rw[Ez hi] at h;have:=((ake hE).out g h).2;omega
   | false=>
    rw[Ey hi] at h;exact k _ 3 _ (.bd fun _=>.rt rfl) bS bS h
theorem ajx {n:Nat} {t u:List Tk} {s s':ByteArray} {a a':Int} {l:List Ex} (g:Gd t) (h:run (fE n) t=.ok (.mk 5 s a [.mk 1 s' a' l]) u) (hu:t.length<=u.length+2):is eH t=true/\(hd t.tail).k=2/\u=t.tail.tail:=by
 cases n with
 | zero=>rw[fE,Gw] at h;cases h
 | succ n=>
  have h1:=ajv h rfl;rw[DF] at h1;unfold rJ at h1
  cases hi:is eH t with
  | false=>
   rw[lQ hi] at h1;have:=(ab2 (Dx n) g h1 hu (.inr rfl)).2.1;cases this
  | true=>
   rw[um hi] at h1;obtain⟨g2,g3⟩:=kU g bS hi
   cases hm:run (fF n) t.tail with
   | no v=>rw[eU hm] at h1;cases h1
   | ok y v=>
    rw[dN hm,jX] at h1;have hy:y=.mk 1 s' a' l/\v=u:=by
     unfold iR at h1;injection h1 with e1 e2;injection e1 with _ _ _ e4;injection e4 with e5;exact⟨e5,e2⟩
    obtain⟨rfl,rfl⟩:=hy;refine⟨rfl,?_⟩
    cases n with
    | zero=>rw[fF,Gw] at hm;cases hm
    | succ n=>
     rw[DF] at hm;unfold rJ at hm;have h2:=qH hm fun e=>by
      have:=(Fo.bd (Q:=fun x=>x.o=5) (m:=fF n) (k:=fun x=>rt (iR 5 x)) fun y=>.rt rfl).out e;cases this
     obtain⟨q1,-,q3⟩:=ab2 (Dx n) g2 h2 bU (.inl rfl);exact⟨q1,q3⟩
theorem Mi {m:P Ex} {os:List (ByteArray×Int)} {t u:List Tk} {x:Ex} (h:run m t=.ok x u) (hf:∀q∈os,is q.1 u=false):run (gI m os) t=.ok x u:=by
 unfold gI;rw[dN h,show FU=99999+1 from rfl,gU];have all:∀(l:List (ByteArray×Int)),(∀q∈l,is q.1 u=false)->run (rZ (fun o=>bd m fun y=>gU m os 99999 (dF o x y)) (rt x) l) u=.ok x u:=by
  intro l
  induction l with
  | nil=>intro _;rw[rZ,jX]
  | cons q l ih=>intro hl;rw[rZ,lQ (hl q (.head _))];exact ih fun p hp=>hl p (.tail _ hp)
 exact all os hf
theorem Te {s s':ByteArray} {t:List Tk} (h:is s t=true) (hn:¬bs s=bs s'):is s' t=false:=aaL.2 fun e=>hn ((M_.1 h).symm.trans e)
theorem ajw {n:Nat} {t:List Tk} (h0:is eH t=true) (h1:(hd t.tail).k=2) (g:Gd t.tail) (h2:is iG t.tail.tail=true):run (fE (n+2)) t=.ok (iR 5 (fo 1 (hd t.tail).n)) t.tail.tail:=by
 have hm:is eH t.tail=false:=aaL.2 fun e=>by
  have:=g.wf.txt bU bU;rw[this] at e;exact absurd e bS
 have f1:run (fF (n+1)) t.tail=.ok (fo 1 (hd t.tail).n) t.tail.tail:=by
  rw[DF];unfold rJ wO num;rw[lQ hm,BO h1];have e2:run (bd (tk 2) fun x=>rt x.2) t.tail=.ok (hd t.tail).n t.tail.tail:=by rw[dN (tO h1)];rfl
  rw[dN e2,jX]
 have f2:run (fF (n+2)) t=.ok (iR 5 (fo 1 (hd t.tail).n)) t.tail.tail:=by
  rw[show n+2=(n+1)+1 from rfl,DF];unfold rJ;rw[um h0,dN f1,jX]
 have no:∀s,¬bs iG=bs s->is s t.tail.tail=false:=fun s hs=>Te h2 hs;have f3:run (sum (fF (n+2))) t=.ok (iR 5 (fo 1 (hd t.tail).n)) t.tail.tail:=by
  refine Mi (Mi f2 ?_) ?_
  · intro q hq;simp only[List.mem_cons,List.not_mem_nil,or_false] at hq;rcases hq with rfl|rfl|rfl <;> exact no _ bS
  · intro q hq;simp only[List.mem_cons,List.not_mem_nil,or_false] at hq;rcases hq with rfl|rfl <;> exact no _ bS
 have f4:run (cmp (fF (n+2))) t=.ok (iR 5 (fo 1 (hd t.tail).n)) t.tail.tail:=by
  unfold cmp;rw[dN f3,lQ (no _ bS),lQ (no _ bS),lQ (no _ bS),lQ (no _ bS),lQ (no _ bS),lQ (no _ bS),jX]
 have f5:run (fN (n+2)) t=.ok (iR 5 (fo 1 (hd t.tail).n)) t.tail.tail:=by
  rw[show n+2=(n+1)+1 from rfl,IQ];unfold qP;rw[lQ (Te h0 bS)];exact f4
 rw[show n+2=(n+1)+1 from rfl,IP];refine Mi (Mi f5 ?_) ?_
 · exact Pv
 · exact Pv
def FV (E:P Ex):P Ex:=bd (exp fK) fun _=>bd E fun e=>bd (exp iG) fun _=>rt e
theorem akg {n:Nat} {t:List Tk} (g:Gd t) (h:pat t=true):run (wH (fE (n+2))) t=.ok (fo 1 (-(hd t.tail.tail).n)) t.tail.tail.tail.tail:=by
 unfold pat at h;simp only[Bool.and_eq_true,decide_eq_true_eq] at h;obtain⟨⟨⟨h1,h2⟩,h3⟩,h4⟩:=h;obtain⟨g1,l1⟩:=kU g bS h1;obtain⟨g2,l2⟩:=kU g1 bS h2;obtain⟨g3,l3⟩:=g2.tail bU;obtain⟨g4,l4⟩:=kU g3 bS h4;have e:run (bd (exp fK) fun _=>bd (fE (n+2)) fun e=>bd (exp iG) fun _=>rt e) t=.ok (iR 5 (fo 1 (hd t.tail.tail).n)) t.tail.tail.tail.tail:=by
  rw[dN (uJ h1),dN (ajw h2 h3 g2 h4),dN (uJ h4),jX]
 unfold wH;rw[Gg e,show t.length-t.tail.tail.tail.tail.length=4 by omega];rfl
theorem akf {n:Nat} {t:List Tk} (g:Gd t) (h:pat t=false):run (wH (fE n)) t=run (FV (fE n)) t:=by
 have hd0:∀(u:List Tk) (x:Ex),run (FV (fE n)) t=.ok x u->neg (t.length-u.length) x=x:=by
  intro u x e;unfold neg
  split
  · rename_i hl
    exfalso
    unfold FV at e
    cases h1:is fK t with
    | false=>rw[eU (BH h1)] at e;cases e
    | true=>
     obtain⟨g1,l1⟩:=kU g bS h1;rw[dN (uJ h1)] at e
     cases hm:run (fE n) t.tail with
     | no v=>rw[eU hm] at e;cases e
     | ok y v=>
      rw[dN hm] at e;have gv:=((Dx n).out g1 hm).1
      cases h4:is iG v with
      | false=>rw[eU (BH h4)] at e;cases e
      | true=>
       obtain⟨g4,l4⟩:=kU gv bS h4;rw[dN (uJ h4),jX] at e;injection e with e1 e2;subst e2;subst e1;obtain⟨q1,q2,hv⟩:=ajx g1 hm bU;rw[hv] at h4;unfold pat at h;rw[h1,q1,decide_eq_true q2,h4] at h;cases h
  · rfl
 unfold wH;unfold FV at hd0
 cases e:run (bd (exp fK) fun _=>bd (fE n) fun e=>bd (exp iG) fun _=>rt e) t with
 | ok x u=>rw[Gg e,hd0 u x e];unfold FV;rw[e]
 | no u=>rw[JA e];unfold FV;rw[e]
end Ps
namespace Ps
open Ps.P (len)
open Go.RowKit
open Lx (Tk)
open Ex (Gives)
open Md (bX)
theorem zl (a n l:Int) (s:ByteArray) (w:U):(Instr.field 87 (.agg #[.int .i64 a,.string s,.int .i64 n,.int .i64 l]) 0).run af w=.ok (.int .i64 a) w:=by kernel_rfl
theorem IX (a n l:Int) (s:ByteArray) (w:U):(Instr.field 87 (.agg #[.int .i64 a,.string s,.int .i64 n,.int .i64 l]) 1).run af w=.ok (.string s) w:=by kernel_rfl
theorem ZF (a n l:Int) (s:ByteArray) (w:U):(Instr.field 87 (.agg #[.int .i64 a,.string s,.int .i64 n,.int .i64 l]) 2).run af w=.ok (.int .i64 n) w:=by kernel_rfl
theorem ZE (a n l:Int) (s:ByteArray) (w:U):(Instr.field 87 (.agg #[.int .i64 a,.string s,.int .i64 n,.int .i64 l]) 3).run af w=.ok (.int .i64 l) w:=by kernel_rfl
section
variable {L:Lk} {g:Nat} {t:List Tk}
theorem zP (w:U) (hR:Rd L g t w):Calls af 102 #[.pointer (ai ⟨g,0,X⟩)] w (Gives (tv (hd t)) w):=by
 obtain⟨l1,l2,l3⟩:=hR.len;have hlt:=hR.lt;have hgs:=hR.blk;have c0:=hR.c0;have c1:=hR.c1;obtain⟨e0,e1,e2,e3⟩:=hR.tok;have hbs:L.b<w.heap.size:=by omega
 unfold tv
 generalize hd t=x at *
 obtain⟨b,o,m,c,l⟩:=L;obtain⟨k,hk⟩:∃k,Lk.at ⟨b,o,m,c,l⟩ t=k:=⟨_,rfl⟩
 simp only[hk] at *
 have hk0:(0:Int)<=(k:Int):=by omega
 have hk1:(k:Int)<(m:Int):=by omega
 clear hR l1 l2 l3 hk;go_enter func102,ntmps102;exact zzl
theorem Cw (w:U) (hR:Rd L g t w):Calls af 87 #[.pointer (ai ⟨g,0,X⟩)] w (Gives (.agg #[.int .i64 (hd t).l]) w):=by
 have C1:=Y (fun W (hW:Below w.heap.size w W)=>zP W (hR.low (bT.of hW)));unfold tv at C1
 generalize hd t=x at *
 have q:=ZE x.k x.n x.l x.t;clear hR;go_enter func87,ntmps87;go_wp2_with fail;refine(C1.out _ bl).mono ?_;rintro e w1 ⟨rfl,hb1⟩;have b1:bX w1 w.heap.size 120 #[.int .i64 0]:=bX.new.on hb1;have c1:=b1.get (r:=0) rfl;have f1:=eu (i:=0) b1;go_wp2_with fail;have b2:bX (w1.setCell ⟨w.heap.size,0,X⟩ (.int .i64 x.l)) w.heap.size 120 #[.int .i64 x.l]:=eX b1;refine bodyPost_ret (v:=.agg #[.int .i64 x.l]) ?_ rfl ⟨rfl,bl⟩;exact results_cell_row rfl _ _ w.heap.size 120 _ (0,0) _ rfl b2 underlying120 rfl dA
theorem UK (k:Int) (w:U) (hR:Rd L g t w) (hk:¬k=0):Calls af 67 #[.pointer (ai ⟨g,0,X⟩),.int .i64 k] w (TO L g k t w):=by
 have C1:=Y (fun W (hW:Below w.heap.size w W)=>zP W (hR.low (bT.of hW)));have C2:=Y (fun W (hW:Below w.heap.size w W)=>Cw W (hR.low (bT.of hW)));have hg:=hR.blk;have HR:=Y hR;obtain⟨l1,l2,l3⟩:=hR.len;have l4:=hR.few;obtain⟨j,hj⟩:∃j,L.at t=j:=⟨_,rfl⟩
 obtain⟨x,hx⟩:∃x,hd t=x:=⟨_,rfl⟩
 unfold tv at C1;rw[hx] at C1 C2;have HX:=Y hx;have HJ:=Y hj;by_cases h:x.k=k
 · have hb:(x.k != k)=false:=by simp[h]
   have hw:IntKind.i64.wrap ((j:Int)+1)=(j:Int)+1:=by rw[IntKind.wrap_i64];omega
   have HK:=Y h;clear hR l1 l2 l3 l4 hx hj h;go_enter func67,ntmps67;go_wp2_with fail;refine(C1.out _ bl).mono ?_;rintro e w1 ⟨rfl,hb1⟩;have hB1:Below w.heap.size w w1:=bl;have b4:bX w1 w.heap.size 87 _:=bX.new.on hb1;have b5:bX (w1.alloc (.cells #[.int .i64 x.k,.string x.t,.int .i64 x.n,.int .i64 x.l] 87)) w1.heap.size 87 _:=bX.new;have hs1:=b4.lt;have r1:Rd L g t (w1.alloc (.cells #[.int .i64 x.k,.string x.t,.int .i64 x.n,.int .i64 x.l] 87)):=HR.out.low (bT.of bl);have c1:=r1.c1;rw[HJ.out] at c1;have f1:=r1.ny (i:=1);have r2:=r1.step (by rw[HX.out,HK.out];exact hk);rw[HJ.out] at r2;obtain⟨B,hB⟩:∃B,(w1.alloc (.cells #[.int .i64 x.k,.string x.t,.int .i64 x.n,.int .i64 x.l] 87)).setCell ⟨g,1,X⟩ (.int .i64 ((j:Int)+1))=B:=⟨_,rfl⟩
   have e1:Bt g (w1.alloc (.cells #[.int .i64 x.k,.string x.t,.int .i64 x.n,.int .i64 x.l] 87)) B:=by rw[← hB];exact QJ
   have d5:bX B w1.heap.size 87 _:=fw b5 e1 bU;have d4:bX B w.heap.size 87 _:=fw (b4.on bl) e1 bU;have l0:=d5.get (r:=0) rfl;have l1:=d5.get (r:=1) rfl;have l2:=d5.get (r:=2) rfl;have l3:=d5.get (r:=3) rfl;have p0:=d4.get (r:=0) rfl;have p1:=d4.get (r:=1) rfl;have p2:=d4.get (r:=2) rfl;have p3:=d4.get (r:=3) rfl;have fz:∀i,B.frozen? ⟨w.heap.size,i,X⟩=false:=fun i=>eu d4;have D4:=Y d4;have HE:=Y e1;rw[hB] at r2;have R2:=Y r2;have HB1:=Y hB1;clear e1 r1 r2 d5 d4 b5 b4 hB1 hb1;go_wp2_with fail;have b6:=mi (a:=.int .i64 x.k) (b:=.string x.t) (c:=.int .i64 x.n) (d:=.int .i64 x.l) D4.out rfl;have bZ:=HB1.out;have gH:=HE.out;refine bodyPost_ret (v:=tv x) ?_ rfl ⟨?_,.inl ⟨by rw[HX.out,HK.out],by rw[HX.out],?_⟩⟩
   · exact results_cell_row rfl _ _ w.heap.size 87 _ (0,0) _ rfl b6 underlying87 rfl dA
   · have q:Bt g w w1:=bT.of bZ;exact qe
   · exact R2.out.low qe
 · exact zzc
end
end Ps
namespace Ps
open Ps.P (exp len)
open Go.RowKit
open Lx (Tk bs nS pE)
open Ex (Gives)
section
variable {L:Lk} {g:Nat} {t:List Tk}
theorem adO {p:Prop} (h:p:=by
 clear h;go_enter func83,ntmps83;exact Px
 ):p:=h
theorem oM (s:ByteArray) (w:U) (hR:Rd L g t w):Calls af 83 #[.pointer (ai ⟨g,0,X⟩),.string s] w (Gives (.bool (is s t)) w):=by
 have C1:=Y (fun W (hW:Below w.heap.size w W)=>zP W (hR.low (bT.of hW)));unfold tv at C1;have HI:Z (is s t=decide (bs (hd t).t=bs s)):=Y rfl;rw[HI.out]
 generalize hd t=x at *
 have q:=IX x.k x.n x.l x.t;clear hR HI;by_cases h:bs x.t=bs s
 · have h1:=nS h;rw[decide_eq_true h];exact adO
 · have h1:=pE h;rw[decide_eq_false h];exact adO
theorem dH (s:ByteArray) (w:U) (hR:Rd L g t w) (hs:¬bs s=[]):Calls af 47 #[.pointer (ai ⟨g,0,X⟩),.string s] w (AO L g s t w):=by
 have C1:=Y (oM s w hR);have hg:=hR.blk;have HR:=Y hR;obtain⟨l1,l2,l3⟩:=hR.len;have l4:=hR.few;obtain⟨j,hj⟩:∃j,L.at t=j:=⟨_,rfl⟩
 have HJ:=Y hj
 cases h:is s t with
 | false=>
  rw[h] at C1;have HH:=Y h;clear hR l1 l2 l3 l4 hj h;go_enter func47,ntmps47;go_wp2_with fail;refine C1.out.mono ?_;rintro e w1 ⟨rfl,hb1⟩;have HB1:=Y hb1;clear hb1;go_wp2_with fail;go_ret;exact⟨bT.of HB1.out,.inr ⟨HH.out,rfl,HR.out.low (bT.of HB1.out)⟩⟩
 | true=>
  rw[h] at C1;have HH:=Y h;have HK:Z (¬(hd t).k=0):=Y (by rcases zo hR.gd hs h with g|g <;> omega);have hw:IntKind.i64.wrap ((j:Int)+1)=(j:Int)+1:=by rw[IntKind.wrap_i64];omega
  clear hR l1 l2 l3 l4 hj h;go_enter func47,ntmps47;go_wp2_with fail;refine C1.out.mono ?_;rintro e w1 ⟨rfl,hb1⟩;have r1:Rd L g t w1:=HR.out.low (bT.of hb1);have c1:=r1.c1;rw[HJ.out] at c1;have f1:=r1.ny (i:=1);have r2:=r1.step HK.out;rw[HJ.out] at r2;have R2:=Y r2;have HB1:=Y hb1;clear r1 r2 hb1;go_wp2_with fail;go_ret;have q:Bt g w w1:=bT.of HB1.out;exact⟨q.trans QJ,.inl ⟨HH.out,rfl,R2.out⟩⟩
theorem gX (s:ByteArray) (w:U) (hR:Rd L g t w) (hs:¬bs s=[]):Calls af 81 #[.pointer (ai ⟨g,0,X⟩),.string s] w (PO L g VU (run (exp s) t) w):=by
 have C1:=Y (dH s w hR hs);obtain⟨r,hr⟩:∃r,run (exp s) t=r:=⟨_,rfl⟩
 rw[hr];have HS:=Y hr;clear hR hr;go_enter func81,ntmps81;go_wp2_with fail;refine C1.out.mono ?_;rintro e w1 ⟨hb,⟨hi,rfl,hR⟩|⟨hi,rfl,hR⟩⟩
 · have HI:=Y hi;have HB:=Y hb;have HR:=Y hR;clear hi hb hR;go_wp2_with fail
   (first|go_end0|refine bodyPost_ret (results_none rfl _ _ _) rfl ?_)
   exact PO.ok (HS.out.symm.trans (uJ HI.out)) HB.out rfl HR.out
 · have HI:=Y hi;have HB:=Y hb;have HR:=Y hR;clear hi hb hR;go_wp2_with fail;refine(Cw _ HR.out).mono ?_;rintro e w2 ⟨rfl,hb2⟩;go_wp2_with fail;exact⟨rfl,PO.no (HS.out.symm.trans (BH HI.out)) (HB.out.below hb2)⟩
end
end Ps
end Go.Proofs.YthnillhnjhalmaaGreatDoor
