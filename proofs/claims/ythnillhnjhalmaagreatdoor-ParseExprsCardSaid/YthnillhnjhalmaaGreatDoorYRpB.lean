/-
  Parts of this proof: The reference's parser in memory. The contract of the reference's Keyword. The contracts of the reference's steps and tests. The contracts of the reader's small rules. The contracts of the reference's small rules. The contract of the reference's Check. The contract of the reader's argument.
-/
import Derived.Test.YthnillhnjhalmaaGreatDoorYTBase
open Go.Proofs.Tryz
open Go.Proofs.Tryz renaming prog->ae
open Go renaming World->af,Calls->ag,bodyPost_ret->au
open Go.Lib renaming hid->U
open Option renaming none->ah,some->ai
open Bool renaming and_eq_true->aj
open Go.RowKit renaming Below->ak
set_option linter.unusedVariables false
set_option maxRecDepth 100000
set_option maxHeartbeats 2000000
open Go.Lib (hid)
namespace Go.Proofs.YthnillhnjhalmaaGreatDoor
namespace Ps
open Ps.P (bd tk exp len)
open Go.RowKit
open Lx (Tk bs jg)
open Ex (Gives)
open Md (bX)
def Ug (L:Lk) (b:Bool) (t:List Tk):Array Value:=#[.slice (ai ⟨L.b,L.o,ah⟩) L.m L.c,.int .i64 ((L.at t:Nat):Int),.bool b]
structure Rp (L:Lk) (g:Nat) (b:Bool) (t:List Tk) (w:af):Prop where
 lt:L.b<g
 box:bX w g 70 (Ug L b t)
 drop:L.l.drop (L.at t)=t
 toks:jg w (ai ⟨L.b,L.o,ah⟩) L.m L.l
 gd:Gd t
 few:L.l.length<=30000
section
variable {L:Lk} {g:Nat} {b:Bool} {t:List Tk} {w w2:af}
theorem Rp.low (h:Rp L g b t w) (hb:Lw g w w2):Rp L g b t w2:=⟨h.lt,h.box.keep (hb.block g h.box.lt (Nat.le_refl _)),h.drop,UT h.toks hb (Nat.le_of_lt h.lt),h.gd,h.few⟩
theorem Rp.len (h:Rp L g b t w):L.at t+t.length=L.l.length/\L.l.length=L.m/\L.at t<L.m:=by
 exact zzx
theorem Rp.blk (h:Rp L g b t w):g<w.heap.size:=h.box.lt
theorem Rp.small (h:Rp L g b t w):t.length<=30000:=by have h1:=h.len;have h2:=h.few;omega
theorem Rp.nth (h:Rp L g b t w) {k:Nat} (hk:k<t.length):Lx.h_ w L.b (L.o+(L.at t+k)*4) (t[k]):=by
 obtain⟨h1,h2,h3⟩:=h.len;obtain⟨e1,e2,e3|⟨b',o,e,hb,hc⟩⟩:=h.toks
 · omega
 · cases e
   have:=hc.out (L.at t+k) bU;have e:L.l[L.at t+k]'(by omega)=t[k]:=by
    have h4:(L.l.drop (L.at t))[k]?=t[k]?:=by rw[h.drop]
    rw[List.getElem?_drop,List.getElem?_eq_getElem bU,List.getElem?_eq_getElem hk] at h4;exact Option.some.inj h4
   rwa [e] at this
theorem akr {t:List Tk} (h:0<t.length):t[0]=hd t:=by
 cases t with
 | nil=>simp at h
 | cons x r=>rfl
theorem Rp.tok (h:Rp L g b t w):Lx.h_ w L.b (L.o+L.at t*4) (hd t):=by
 have:=h.nth h.gd.ne;rwa [akr h.gd.ne] at this
theorem Rp.c0 (h:Rp L g b t w):w.cell? ⟨g,0,ah⟩=ai (.slice (ai ⟨L.b,L.o,ah⟩) L.m L.c):=h.box.get rfl
theorem Rp.c1 (h:Rp L g b t w):w.cell? ⟨g,1,ah⟩=ai (.int .i64 ((L.at t:Nat):Int)):=h.box.get rfl
theorem Rp.c2 (h:Rp L g b t w):w.cell? ⟨g,2,ah⟩=ai (.bool b):=h.box.get rfl
theorem Rp.ny {i:Nat} (h:Rp L g b t w):w.frozen? ⟨g,i,ah⟩=false:=eu h.box
theorem adn {L:Lk} {g i:Nat} {v:Value} {w:af} (h:jg w (ai ⟨L.b,L.o,ah⟩) L.m L.l) (hl:L.b<g):jg (w.setCell ⟨g,i,ah⟩ v) (ai ⟨L.b,L.o,ah⟩) L.m L.l:=by
 have hbl:bT (fun k=>k≠g) w (w.setCell ⟨g,i,ah⟩ v):=bT.set (bT.refl _ _) (.inr fun h=>h rfl);obtain⟨e1,e2,e3|⟨b,o,e,hb,hc⟩⟩:=h
 · exact⟨e1,e2,.inl e3⟩
 · cases e
   have hk:∀(k:Nat),(w.setCell ⟨g,i,ah⟩ v).cell? ⟨L.b,k,ah⟩=w.cell? ⟨L.b,k,ah⟩:=fun k=>World.cell?_of_block (a:=⟨L.b,k,ah⟩) (hbl.block L.b hb bU);exact zzr
theorem Rp.step (h:Rp L g b t w) (hk:¬(hd t).k=0):Rp L g b t.tail (w.setCell ⟨g,1,ah⟩ (.int .i64 ((L.at t:Nat)+1:Int))):=by
 obtain⟨h1,h2,h3⟩:=h.len;obtain⟨g1,g2⟩:=h.gd.tail hk;have ha:L.at t.tail=L.at t+1:=by unfold Lk.at at h1 ⊢; omega
 refine⟨h.lt,?_,?_,adn h.toks h.lt,g1,h.few⟩
 · have hb:=eX (i:=1) (v:=.int .i64 ((L.at t:Nat)+1:Int)) h.box;unfold Ug at hb ⊢;rw[ha];exact hb
 · rw[ha,← List.drop_drop,h.drop,List.drop_one]
theorem Rp.wrong (h:Rp L g b t w):Rp L g true t (w.setCell ⟨g,2,ah⟩ (.bool true)):=⟨h.lt,eX (i:=2) (v:=.bool true) h.box,h.drop,adn h.toks h.lt,h.gd,h.few⟩
end
def jb (r b:Bool) (t:List Tk):Bool:=b||(!r||decide ((hd t).k=0))
def og (r b:Bool) (t:List Tk):List Tk:=if jb r b t=true then t else t.tail
def QO {α:Type} (L:Lk) (g:Nat) (V:Nat->af->α->Value->Prop) (m:P α) (b:Bool) (t:List Tk) (w:af) (e:Ending) (w':af):Prop:=
 ∃x b' u v,e=.returned v/\Bt g w w'/\V w.heap.size w' x v/\Rp L g b' u w'/\Rel m b t x b' u
section
variable {α:Type} {L:Lk} {g:Nat} {V:Nat->af->α->Value->Prop} {m:P α} {b b1:Bool} {t u:List Tk} {w w':af} {x:α} {v:Value}
theorem QO.mk (hv:V w.heap.size w' x v) (hb:Bt g w w') (hR:Rp L g b1 u w') (h:Rel m b t x b1 u):QO L g V m b t w (.returned v) w':=⟨x,b1,u,v,rfl,hb,hv,hR,h⟩
end
section
variable {b:Bool} {t:List Tk} {s:ByteArray} {k:Int}
theorem adk:jb false b t=true:=by unfold jb;cases b <;> rfl
theorem apU (h:jb false b t=true):og false b t=t:=by unfold og;rw[if_pos h]
theorem NN {α:Type} {m:P α} {x:α} (h:b=false->run m t=.no t):Rel m b t x (jb false b t) (og false b t):=by
 rw[apU adk,adk];exact⟨fun _=>⟨rfl,rfl⟩,fun e=>.inr ⟨h e,rfl⟩⟩
theorem JV {α:Type} {m:P α} {x:α} (hb:b=false) (hk:¬(hd t).k=0) (h:run m t=.ok x t.tail):Rel m b t x (jb true b t) (og true b t):=by
 subst hb;have e:jb true false t=false:=by unfold jb;rw[decide_eq_false hk];rfl
 unfold og;rw[e,if_neg bS];exact Rel.ok h
theorem acj (g:Gd t) (hs:¬bs s=[]):Rel (exp s) b t () (jb (!b&&is s t) b t) (og (!b&&is s t) b t):=by
 cases h:(!b&&is s t) with
 | false=>exact NN fun e=>BH (by subst e;simpa using h)
 | true=>
  simp only[aj,Bool.not_eq_true'] at h;exact JV h.1 (by rcases zo g hs h.2 with q|q <;> omega) (uJ h.2)
theorem acm (hk:¬k=0):Rel (tk k) b t ((hd t).t,(hd t).n) (jb (!b&&decide ((hd t).k=k)) b t) (og (!b&&decide ((hd t).k=k)) b t):=by
 cases h:(!b&&decide ((hd t).k=k)) with
 | false=>exact NN fun e=>zO (by subst e;simpa using h)
 | true=>
  simp only[aj,Bool.not_eq_true',decide_eq_true_eq] at h;exact JV h.1 bU (tO h.2)
end
section
variable {L:Lk} {g:Nat} {b:Bool} {t:List Tk}
theorem BV (w:af) (hR:Rp L g b t w):ag ae 43 #[.pointer (ai ⟨g,0,ah⟩)] w (Gives (tv (hd t)) w):=by
 obtain⟨l1,l2,l3⟩:=hR.len;have hlt:=hR.lt;have hgs:=hR.blk;have c0:=hR.c0;have c1:=hR.c1;obtain⟨e0,e1,e2,e3⟩:=hR.tok;have hbs:L.b<w.heap.size:=by omega
 unfold tv
 generalize hd t=x at *
 obtain⟨B,o,m,c,l⟩:=L;obtain⟨k,hk⟩:∃k,Lk.at ⟨B,o,m,c,l⟩ t=k:=⟨_,rfl⟩
 simp only[hk] at *
 have hk0:(0:Int)<=(k:Int):=by omega
 have hk1:(k:Int)<(m:Int):=by omega
 clear hR l1 l2 l3 hk;go_enter func43,ntmps43;exact zzl
end
section
variable {α β:Type} {L:Lk} {g:Nat} {V:Nat->af->β->Value->Prop} {V1:Nat->af->α->Value->Prop} {w w0 w1 W:af} {t0 t:List Tk} {b0 b:Bool} {m0 m1:P α} {m:P β} {k:β->P α} {f:FuncId} {a:Array Value} {Q:Ending->af->Prop} {v:Value}
theorem awY {p:Prop} (h:p:=by first|(left;simp;done)|(left;simp;omega)|(right;simp;done)|(right;simp;omega)):p:=h
theorem awZ {p:Prop} (h:p:=by intro k hk hs;first|exact hs|((try dsimp only at hs ⊢);omega)):p:=h
theorem qo (HS:Hid (To m0 b0 t0 (bd m k) b t)) (HB:Hid (Bt g w w0)) (c:Calls Tryz.prog f a W (QO L g V m b t W)) (ok:∀x b1 u v w',Rel m b t x b1 u->Hid (To m0 b0 t0 (k x) b1 u)->Bt g W w'->V W.heap.size w' x v->Hid (Rp L g b1 u w')->Hid (Bt g w w')->Q (.returned v) w') (hb:Bt g w W:=by have bZ:=HB.out;(repeat (first|(with_reducible exact bT.refl _ _)|(with_reducible assumption)|(with_reducible apply bT.alloc)|(with_reducible apply bT.drewN)|(with_reducible apply bT.drew)|(with_reducible refine bT.set ?_ awY)|(with_reducible refine bT.call ?_ (by assumption) awZ)))):Calls Tryz.prog f a W Q:=by
 refine c.mono ?_;rintro e w' ⟨x,b1,u,v,rfl,q,h,R1,r1⟩;exact ok x b1 u v w' r1 (Oj HS r1) q h (U R1) (U (hb.trans q))
theorem ql (HS:Hid (To m0 b0 t0 m1 b t)) (HB:Hid (Bt g w w0)) (c:Calls Tryz.prog f a W (QO L g V1 m1 b t W)) (ok:∀x b1 u v w',Rel m1 b t x b1 u->Hid (Rel m0 b0 t0 x b1 u)->Bt g W w'->V1 W.heap.size w' x v->Hid (Rp L g b1 u w')->Hid (Bt g w w')->Q (.returned v) w') (hb:Bt g w W:=by have bZ:=HB.out;(repeat (first|(with_reducible exact bT.refl _ _)|(with_reducible assumption)|(with_reducible apply bT.alloc)|(with_reducible apply bT.drewN)|(with_reducible apply bT.drew)|(with_reducible refine bT.set ?_ awY)|(with_reducible refine bT.call ?_ (by assumption) awZ)))):Calls Tryz.prog f a W Q:=by
 refine c.mono ?_;rintro e w' ⟨x,b1,u,v,rfl,q,h,R1,r1⟩;exact ok x b1 u v w' r1 (U (adl HS r1)) q h (U R1) (U (hb.trans q))
theorem qr (HB:Hid (Bt g w w0)) (c:Calls Tryz.prog f a W (QO L g V1 m1 b t W)) (ok:∀x b1 u v w',Rel m1 b t x b1 u->Bt g W w'->V1 W.heap.size w' x v->Hid (Rp L g b1 u w')->Hid (Bt g w w')->Q (.returned v) w') (hb:Bt g w W:=by have bZ:=HB.out;(repeat (first|(with_reducible exact bT.refl _ _)|(with_reducible assumption)|(with_reducible apply bT.alloc)|(with_reducible apply bT.drewN)|(with_reducible apply bT.drew)|(with_reducible refine bT.set ?_ awY)|(with_reducible refine bT.call ?_ (by assumption) awZ)))):Calls Tryz.prog f a W Q:=by
 refine c.mono ?_;rintro e w' ⟨x,b1,u,v,rfl,q,h,R1,r1⟩;exact ok x b1 u v w' r1 q h (U R1) (U (hb.trans q))
theorem gp (HR:Hid (Rp L g b t w1)) (HB:Hid (Bt g w w0)) (c:Calls Tryz.prog f a W (Gives v W)) (ok:∀w',Bt g W w'->Below W.heap.size W w'->Hid (Rp L g b t w')->Hid (Bt g w w')->Q (.returned v) w') (hb:Bt g w W:=by have bZ:=HB.out;(repeat (first|(with_reducible exact bT.refl _ _)|(with_reducible assumption)|(with_reducible apply bT.alloc)|(with_reducible apply bT.drewN)|(with_reducible apply bT.drew)|(with_reducible refine bT.set ?_ awY)|(with_reducible refine bT.call ?_ (by assumption) awZ)))) (hr:Lw g w1 W:=by(repeat (first|(with_reducible exact bT.refl _ _)|(with_reducible assumption)|(with_reducible apply bT.alloc)|(with_reducible apply bT.drewN)|(with_reducible apply bT.drew)|(with_reducible refine bT.set ?_ awY)|(with_reducible refine bT.call ?_ (by assumption) awZ)))):Calls Tryz.prog f a W Q:=by
 exact Pq
end
end Ps
namespace Na
open Go.RowKit
def sv (l:List ByteArray):List Value:=l.map Value.string
theorem apK {l:List ByteArray} {i:Nat} (h:i<l.length):(sv l)[i]?=ai (.string (l[i])):=by unfold sv;simp[h]
theorem apI {w:af} {l:List ByteArray} {cs:Array Value} (h:(sv l).toArray=cs) (hl:l.length<=9223372036854775807):Strs (w.alloc (.cells cs 9)) (ai ⟨w.heap.size,0,ah⟩) l.length l:=by
 subst h;refine⟨rfl,hl,.inr ⟨_,_,rfl,by simp,U fun i hi=>?_⟩⟩;rw[World.cell?_alloc_mark,Nat.zero_add,List.getElem?_toArray];exact apK hi
def mkS (l:List UInt8):ByteArray:=⟨l.toArray⟩
def Jw:List ByteArray:=Gb.map mkS
theorem ZX (s:ByteArray):∀L:List (List UInt8),decide (0<=fst (L.map mkS) s)=L.contains (bs s)
 | []=>rfl
 | x::t=>by
  have ih:=ZX s t;have h0:(fst ((x::t).map mkS) s)=if x=bs s then 0 else if fst (t.map mkS) s = -1 then -1 else fst (t.map mkS) s+1:=rfl
  rw[h0,List.contains_cons,← ih];by_cases h:x=bs s
  · rw[if_pos h,h];simp
  · rw[if_neg h];have hb:(bs s==x)=false:=beq_eq_false_iff_ne.2 fun g=>h g.symm;rw[hb,Bool.false_or];have:=MV s (t.map mkS);by_cases h2:fst (t.map mkS) s = -1
    · rw[if_pos h2,h2]
    · rw[if_neg h2];rw[decide_eq_decide];omega
theorem ajV (s:ByteArray):decide (0<=fst Jw s)=iP (bs s):=ZX s Gb
theorem alb (w:af):ag ae 211 #[] w fun e w'=>e=.returned (.slice (ai ⟨w.heap.size,0,ah⟩) 73 73)/\Strs w' (ai ⟨w.heap.size,0,ah⟩) 73 Jw/\ak w.heap.size w w':=by
 go_enter func211,ntmps211;go_wp2_with fail;go_ret;exact⟨rfl,apI (l:=Jw) dA bS,iw (Below.refl _ _)⟩
theorem Ue (s:ByteArray) (w:af):ag ae 180 #[.string s] w (Gives (.bool (iP (bs s))) w):=by
 have HR:=U (ajV s);go_enter func180,ntmps180;go_wp2_with fail;refine(alb w).mono ?_;rintro e w1 ⟨rfl,hs,hb1⟩;have I1:=anH (ai ⟨w.heap.size,0,ah⟩) 73 73 Jw s w1 hs;obtain⟨x,hx⟩:∃x,fst Jw s=x:=⟨_,rfl⟩
 rw[hx] at I1 HR;clear hs hx;go_wp2_with fail;refine I1.mono ?_;rintro e w2 ⟨rfl,rfl⟩;clear I1;by_cases h:0<=x
 · have t:decide (0<=x)=true:=decide_eq_true h;rw[t] at HR;go_wp2_with fail;go_ret;exact⟨lJ HR.out,hb1⟩
 · have t:decide (0<=x)=false:=decide_eq_false h;rw[t] at HR;go_wp2_with fail;go_ret;exact⟨lJ HR.out,hb1⟩
end Na
namespace Ps
open Ps.P (exp len)
open Go.RowKit
open Lx (Tk bs nS pE jG fZ)
open Ex (Gives)
def xq (L:Lk) (g:Nat) (r b:Bool) (t:List Tk) (w:af) (e:Ending) (w':af):Prop:=e=.returned (.tuple #[])/\Bt g w w'/\Rp L g (jb r b t) (og r b t) w'
section
variable {L:Lk} {g:Nat} {b:Bool} {t:List Tk}
theorem xq.bad {r:Bool} {w w':af} (h:jb r b t=true) (hb:Bt g w w') (hR:Rp L g true t w'):xq L g r b t w (.returned (.tuple #[])) w':=⟨rfl,hb,by unfold og;rw[h,if_pos rfl];exact hR⟩
theorem xq.go {r:Bool} {w w':af} (h:jb r b t=false) (hb:Bt g w w') (hR:Rp L g false t.tail w'):xq L g r b t w (.returned (.tuple #[])) w':=⟨rfl,hb,by unfold og;rw[h,if_neg bS];exact hR⟩
theorem yg (r:Bool) (w:af) (hR:Rp L g b t w):ag ae 42 #[.pointer (ai ⟨g,0,ah⟩),.bool r] w (xq L g r b t w):=by
 have C1:=U (fun W (hW:ak w.heap.size w W)=>BV W (hR.low (bT.of hW)));unfold tv at C1;have q:=zl (hd t).k (hd t).n (hd t).l (hd t).t;have hg:=hR.blk;have c2:=hR.c2;have f2:=hR.ny (i:=2);have HR:=U hR
 cases b with
 | true=>
  clear C1 q hR;go_enter func42,ntmps42;go_wp2_with fail
  (first|go_end0|refine au (results_none rfl _ _ _) rfl ?_)
  exact xq.bad (by unfold jb;rfl) qe HR.out
 | false=>
  cases r with
  | false=>
   clear C1 q hR;go_enter func42,ntmps42;go_wp2_with fail
   (first|go_end0|refine au (results_none rfl _ _ _) rfl ?_)
   exact xq.bad (by unfold jb;rfl) qe HR.out.wrong
  | true=>
   obtain⟨l1,l2,l3⟩:=hR.len;have l4:=hR.few;obtain⟨j,hj⟩:∃j,L.at t=j:=⟨_,rfl⟩
   have HJ:=U hj;have hw:IntKind.i64.wrap ((j:Int)+1)=(j:Int)+1:=by rw[IntKind.wrap_i64];omega
   by_cases h:(hd t).k=0
   · have e1:((hd t).k==0)=true:=by simp[h]
     have HK:=U h;clear hR l1 l2 l3 l4 hj h;go_enter func42,ntmps42;go_wp2_with fail;refine(C1.out _ bl).mono ?_;rintro e w1 ⟨rfl,hb1⟩;have q1:Bt g w w1:=bT.of hb1;have R1:Rp L g false t w1:=HR.out.low (bT.of hb1);have d2:=R1.c2;have f2':=R1.ny (i:=2);have R2:=U R1.wrong;clear hb1 R1 c2 f2;go_wp2_with fail
     (first|go_end0|refine au (results_none rfl _ _ _) rfl ?_)
     exact xq.bad (by unfold jb;rw[HK.out];rfl) qe R2.out
   · have e1:((hd t).k==0)=false:=by simp[h]
     have HK:=U h;clear hR l1 l2 l3 l4 hj h;go_enter func42,ntmps42;go_wp2_with fail;refine(C1.out _ bl).mono ?_;rintro e w1 ⟨rfl,hb1⟩;have q1:Bt g w w1:=bT.of hb1;have R1:Rp L g false t w1:=HR.out.low (bT.of hb1);have d1:=R1.c1;rw[HJ.out] at d1;have f1':=R1.ny (i:=1);have r2:=R1.step HK.out;rw[HJ.out] at r2;have R2:=U r2;clear hb1 R1 c2 f2 r2;go_wp2_with fail
     (first|go_end0|refine au (results_none rfl _ _ _) rfl ?_)
     exact xq.go (by unfold jb;rw[decide_eq_false HK.out];rfl) qe R2.out
theorem axF {p:Prop} (h:p:=by
 go_enter func76,ntmps76;go_wp2_with fail;refine(C1.out _ bl).mono ?_;rintro e w1 ⟨rfl,hb1⟩;go_wp2_with fail;refine(C1.out _ bl).mono ?_;exact CJ
 ):p:=h
theorem axq {p:Prop} (h:p:=by
 exact Px
 ):p:=h
theorem aaK (k:Int) (s:ByteArray) (w:af) (hR:Rp L g b t w):ag ae 76 #[.pointer (ai ⟨g,0,ah⟩),.int .i64 k,.string s] w (Gives (.bool (!b&&(decide ((hd t).k=k)&&is s t))) w):=by
 have C1:=U (fun W (hW:ak w.heap.size w W)=>BV W (hR.low (bT.of hW)));unfold tv at C1;have q0:=zl (hd t).k (hd t).n (hd t).l (hd t).t;have q1:=IX (hd t).k (hd t).n (hd t).l (hd t).t;have c2:=hR.c2;have HI:Hid (is s t=decide (bs (hd t).t=bs s)):=U rfl;rw[HI.out]
 generalize hd t=x at *
 clear hR HI
 cases b with
 | true=>
  show ag _ _ _ _ (Gives (.bool false) w)
  clear C1 q0 q1;go_enter func76,ntmps76;exact dS
 | false=>
  by_cases h:x.k=k
  · have e1:(x.k==k)=true:=by simp[h]
    rw[decide_eq_true h];by_cases h2:bs x.t=bs s
    · have h1:=nS h2;rw[decide_eq_true h2];clear h h2
      show ag _ _ _ _ (Gives (.bool true) w)
      exact axF
    · have h1:=pE h2;rw[decide_eq_false h2];clear h h2
      show ag _ _ _ _ (Gives (.bool false) w)
      exact axF
  · have e1:(x.k==k)=false:=by simp[h]
    rw[decide_eq_false h];clear h
    show ag _ _ _ _ (Gives (.bool false) w)
    go_enter func76,ntmps76;exact axq
theorem akI {s:ByteArray} (g:Gd t) (hs:fZ (bs s)=false) (h0:¬bs s=[]):(!b&&(decide ((hd t).k=1)&&is s t))=(!b&&is s t):=by
 cases h:is s t with
 | true=>rw[decide_eq_true (akJ g hs h0 h)];rfl
 | false=>rw[Bool.and_false]
theorem akH {s:ByteArray} (g:Gd t) (hs:jG (bs s)=false) (h0:¬bs s=[]):(!b&&(decide ((hd t).k=3)&&is s t))=(!b&&is s t):=by
 cases h:is s t with
 | true=>rw[decide_eq_true (Tf g hs h0 h)];rfl
 | false=>rw[Bool.and_false]
theorem qL (s:ByteArray) (w:af) (hR:Rp L g b t w) (hs:fZ (bs s)=false) (h0:¬bs s=[]):ag ae 39 #[.pointer (ai ⟨g,0,ah⟩),.string s] w (Gives (.bool (!b&&is s t)) w):=by
 have C1:=U (fun W (hW:ak w.heap.size w W)=>aaK 1 s W (hR.low (bT.of hW)));rw[akI hR.gd hs h0] at C1
 generalize (!b&&is s t)=v at *
 clear hR hs h0;go_enter func39,ntmps39;exact axq
theorem iF (s:ByteArray) (w:af) (hR:Rp L g b t w) (hs:jG (bs s)=false) (h0:¬bs s=[]):ag ae 126 #[.pointer (ai ⟨g,0,ah⟩),.string s] w (Gives (.bool (!b&&is s t)) w):=by
 have C1:=U (fun W (hW:ak w.heap.size w W)=>aaK 3 s W (hR.low (bT.of hW)));rw[akH hR.gd hs h0] at C1
 generalize (!b&&is s t)=v at *
 clear hR hs h0;go_enter func126,ntmps126;exact axq
theorem ay0 {p:Prop} (h:p:=by
 go_wp2_with fail;refine C1.out.mono ?_;rintro e w1 ⟨rfl,hb1⟩;have q1:Bt g w w1:=bT.of hb1;have R1:Rp L g b t w1:=HR.out.low (bT.of hb1);clear hb1;go_wp2_with fail;refine(yg v w1 R1).mono ?_;exact afc
 ):p:=h
theorem Ow (s:ByteArray) (w:af) (hR:Rp L g b t w) (hs:fZ (bs s)=false) (h0:¬bs s=[]):ag ae 40 #[.pointer (ai ⟨g,0,ah⟩),.string s] w (QO L g VU (exp s) b t w):=by
 have C1:=U (qL s w hR hs h0);have HR:=U hR;have HL:=U (acj (b:=b) hR.gd h0)
 generalize (!b&&is s t)=v at *
 clear hR hs h0;go_enter func40,ntmps40;exact ay0
theorem qX (s:ByteArray) (w:af) (hR:Rp L g b t w) (hs:jG (bs s)=false) (h0:¬bs s=[]):ag ae 127 #[.pointer (ai ⟨g,0,ah⟩),.string s] w (QO L g VU (exp s) b t w):=by
 have C1:=U (iF s w hR hs h0);have HR:=U hR;have HL:=U (acj (b:=b) hR.gd h0)
 generalize (!b&&is s t)=v at *
 clear hR hs h0;go_enter func127,ntmps127;exact ay0
end
end Ps
namespace Ps
open Ps.P (rt bd tk)
open Go.RowKit
open Lx (Tk bs)
open Na (iP Tt)
section
variable {L:Lk} {g:Nat} {t:List Tk}
theorem lI (w:af) (hR:Rd L g t w):ag ae 85 #[.pointer (ai ⟨g,0,ah⟩)] w (PO L g VN (run num t) w):=by
 have q:=ZF (hd t).k (hd t).n (hd t).l (hd t).t;have HN:=U hR.gd.wf.n;refine eD hR ?_;clear hR;intro r HS HR HB hg;go_enter func85,ntmps85;go_wp2_with fail;refine(UK 2 _ (HR.out.low qe) bS).mono ?_;rintro e w1 ⟨b1,⟨k1,rfl,R1⟩|⟨k1,rfl⟩⟩;rotate_left 1
 · have bZ:=HB.out;go_wp2_with fail;exact⟨rfl,PO.no (fI HS (zO k1)) qe⟩
 replace HS:=fB HS (tO k1);replace HB:=dJ HB w1;replace HR:=U R1;clear b1 R1;clear k1;unfold tv;go_wp2_with fail;go_ret;exact PO.ok (dD HS) HB.out ⟨rfl,HN.out⟩ HR.out
theorem ayy {p:Prop} (h:p:=by
 go_wp2_with fail;go_ret;exact PO.ok (dD HS) HB.out rfl HR.out
 ):p:=h
theorem ay2 {p:Prop} (h:p:=by
 replace HS:=HS.out.symm.trans r2;replace HB:=dJ HB w2;replace HR:=U R2;clear b2 R2;go_wp2_with fail;go_ret;exact PO.ok HS HB.out rfl HR.out
 ):p:=h
theorem M8 (w:af) (hR:Rd L g t w):ag ae 135 #[.pointer (ai ⟨g,0,ah⟩)] w (PO L g VI (run rQ t) w):=by
 refine eD hR ?_;clear hR;intro r HS HR HB hg;go_enter func135,ntmps135;go_wp2_with fail;refine ac HS HB (dH _ _ (HR.out.low qe) bS) ?_ ?_
 · clear HS HB HR;rintro w1-HS b1 HR HB;clear b1;go_wp2_with fail;refine po HS HB (lI _ (HR.out.low qe)) ?_;clear HS HB HR;rintro x2 u2 v2 w2-HS b2 ⟨rfl,n0,n1⟩ HR HB;clear b2;have hw:wrap64 (-x2) = -x2:=by unfold wrap64;omega
   exact ayy
 · clear HS HB HR;rintro w1-HS b1 HR HB;clear b1;go_wp2_with fail;refine(lI _ (HR.out.low qe)).mono ?_;rintro e w2 h2;rcases h2.cases with⟨x2,u2,v2,r2,rfl,b2,V2,R2⟩|⟨u2,r2,rfl,b2⟩
   · obtain⟨rfl,n0,n1⟩:=V2;exact ay2
   · have bZ:=HB.out;go_wp2_with fail;exact⟨rfl,PO.no (HS.out.symm.trans r2) qe⟩
theorem Ol (w:af) (hR:Rd L g t w):ag ae 134 #[.pointer (ai ⟨g,0,ah⟩)] w (PO L g VB (run sD t) w):=by
 refine eD hR ?_;clear hR;intro r HS HR HB hg;go_enter func134,ntmps134;go_wp2_with fail;refine ac HS HB (dH _ _ (HR.out.low qe) bS) ?_ ?_
 · clear HS HB HR;rintro w1-HS b1 HR HB;clear b1;go_wp2_with fail;go_ret;exact PO.ok (dD HS) HB.out ⟨rfl,.inr rfl⟩ HR.out
 · clear HS HB HR;rintro w1-HS b1 HR HB;clear b1;go_wp2_with fail;refine po HS HB (gX _ _ (HR.out.low qe) bS) ?_;clear HS HB HR;rintro x2 u2 v2 w2-HS b2 rfl HR HB;clear b2;go_wp2_with fail;go_ret;exact PO.ok (dD HS) HB.out ⟨rfl,.inl rfl⟩ HR.out
theorem jK (w:af) (hR:Rd L g t w):ag ae 82 #[.pointer (ai ⟨g,0,ah⟩)] w (PO L g VT (run f_ t) w):=by
 have q:=IX (hd t).k (hd t).n (hd t).l (hd t).t;have C1:=U (fun W (hW:ak w.heap.size w W)=>zP W (hR.low (bT.of hW)));have C2:=U (fun W=>Tt (hd t).t W);unfold tv at C1;refine eD hR ?_;clear hR;intro r HS HR HB hg
 cases hk:iP (bs (hd t).t) with
 | true=>
  rw[hk] at C2;have HK:=U hk;clear hk;go_enter func82,ntmps82;go_wp2_with fail;refine(C1.out _ bl).mono ?_;rintro e w1 ⟨rfl,hb1⟩;replace HB:Hid (Bt g w w1):=U (bT.of hb1);replace HR:Hid (Rd L g t w1):=U (HR.out.low (bT.of hb1));clear hb1;go_wp2_with fail;refine(C2.out _).mono ?_;rintro e w2 ⟨rfl,rfl⟩;go_wp2_with fail;refine(Cw _ (HR.out.low qe)).mono ?_;rintro e w3 ⟨rfl,b3⟩;have bZ:=HB.out;go_wp2_with fail;exact⟨rfl,PO.no (HS.out.symm.trans (Ga HK.out)) (bZ.below b3)⟩
 | false=>
  rw[hk] at C2;replace HS:Hid (run (bd (tk 1) fun x=>rt x.1) t=r):=U ((Jy hk).symm.trans HS.out);clear hk;go_enter func82,ntmps82;go_wp2_with fail;refine(C1.out _ bl).mono ?_;rintro e w1 ⟨rfl,hb1⟩;replace HB:Hid (Bt g w w1):=U (bT.of hb1);replace HR:Hid (Rd L g t w1):=U (HR.out.low (bT.of hb1));clear hb1;go_wp2_with fail;refine(C2.out _).mono ?_;rintro e w2 ⟨rfl,rfl⟩;go_wp2_with fail;refine(UK 1 _ (HR.out.low qe) bS).mono ?_;rintro e w3 ⟨b3,⟨k3,rfl,R3⟩|⟨k3,rfl⟩⟩;rotate_left 1
  · have bZ:=HB.out;go_wp2_with fail;exact⟨rfl,PO.no (fI HS (zO k3)) qe⟩
  replace HS:=fB HS (tO k3);replace HB:=dJ HB w3;replace HR:=U R3;clear b3 R3;clear k3;unfold tv;exact ayy
theorem Nr (s:ByteArray) (w:af) (hR:Rd L g t w) (hs:¬bs s=[]):ag ae 46 #[.pointer (ai ⟨g,0,ah⟩),.string s] w (PO L g VT (run (zy s) t) w):=by
 refine eD hR ?_;clear hR;intro r HS HR HB hg;go_enter func46,ntmps46;go_wp2_with fail;refine po HS HB (gX _ _ (HR.out.low qe) hs) ?_;clear HS HB HR;rintro x1 u1 v1 w1-HS b1 rfl HR HB;clear b1;go_wp2_with fail;refine(jK _ (HR.out.low qe)).mono ?_;rintro e w2 h2;rcases h2.cases with⟨x2,u2,v2,r2,rfl,b2,V2,R2⟩|⟨u2,r2,rfl,b2⟩
 · obtain rfl:=V2;exact ay2
 · have bZ:=HB.out;go_wp2_with fail;exact⟨rfl,PO.no (HS.out.symm.trans r2) qe⟩
theorem lF (w:af) (hR:Rd L g t w):ag ae 31 #[.pointer (ai ⟨g,0,ah⟩)] w (PO L g VU (run fM t) w):=by
 refine eD hR ?_;clear hR;intro r HS HR HB hg;go_enter func31,ntmps31;go_wp2_with fail;refine(UK 4 _ (HR.out.low qe) bS).mono ?_;rintro e w1 ⟨b1,⟨k1,rfl,R1⟩|⟨k1,rfl⟩⟩;rotate_left 1
 · have bZ:=HB.out;go_wp2_with fail;exact⟨rfl,PO.no (fI HS (zO k1)) qe⟩
 replace HS:=fB HS (tO k1);replace HB:=dJ HB w1;replace HR:=U R1;clear b1 R1;clear k1;go_wp2_with fail
 (first|go_end0|refine au (results_none rfl _ _ _) rfl ?_)
 exact PO.ok (dD HS) HB.out rfl HR.out
theorem Gl (w:af) (hR:Rd L g t w):ag ae 136 #[.pointer (ai ⟨g,0,ah⟩)] w (PO L g VT (run xW t) w):=by
 refine eD hR ?_;clear hR;intro r HS HR HB hg;go_enter func136,ntmps136;go_wp2_with fail;refine po HS HB (jK _ (HR.out.low qe)) ?_;clear HS HB HR;rintro x1 u1 v1 w1-HS b1 rfl HR HB;clear b1;go_wp2_with fail;refine po HS HB (lF _ (HR.out.low qe)) ?_;clear HS HB HR;rintro x2 u2 v2 w2-HS b2 rfl HR HB;clear b2;exact ayy
theorem ay1 {p:Prop} (h:p:=by
 go_wp2_with fail;refine ac HS HB (dH _ _ (HR.out.low qe) bS) ?_ ?_
 · clear HS HB HR;rintro w1-HS b1 HR HB;clear b1;exact ayy
 · clear HS HB HR;rintro w1-HS b1 HR HB;clear b1;go_wp2_with fail;refine ac HS HB (dH _ _ (HR.out.low qe) bS) ?_ ?_
   · clear HS HB HR;rintro w2-HS b2 HR HB;clear b2;exact ayy
   · clear HS HB HR;rintro w2-HS b2 HR HB;clear b2;go_wp2_with fail;refine ac HS HB (dH _ _ (HR.out.low qe) bS) ?_ ?_
     · clear HS HB HR;rintro w3-HS b3 HR HB;clear b3;exact ayy
     · clear HS HB HR;rintro w3-HS b3 HR HB;clear b3;go_wp2_with fail;refine(Cw _ (HR.out.low qe)).mono ?_;rintro e w4 ⟨rfl,b4⟩;have bZ:=HB.out;go_wp2_with fail;exact⟨rfl,PO.no (Oe HS) (by have q:Bt g _ w4:=bT.of b4;exact qe)⟩
 ):p:=h
theorem adp (w:af) (hR:Rd L g t w):ag ae 133 #[.pointer (ai ⟨g,0,ah⟩)] w (PO L g VI (run typ t) w):=by
 refine eD hR ?_;clear hR;intro r HS HR HB hg;go_enter func133,ntmps133;exact ay1
theorem amT (w:af) (hR:Rd L g t w):ag ae 212 #[.pointer (ai ⟨g,0,ah⟩)] w (PO L g VI (run TP t) w):=by
 refine eD hR ?_;clear hR;intro r HS HR HB hg;go_enter func212,ntmps212;exact ay1
end
end Ps
namespace Ps
open Ps.P (rt bd)
open Go.RowKit
open Lx (Tk bs)
open Na (iP Ue)
open Ex (Gives)
section
variable {α:Type} {m:P α} {L:Lk} {g:Nat} {b b1:Bool} {t u:List Tk} {x y:α}
theorem ack (h:Rel m b t x b1 u) (hx:b1=false->x=y):Rel m b t y b1 u:=⟨h.1,fun e=>by
 rcases h.2 e with⟨h1,h2⟩|⟨h1,h2⟩
 · exact .inl ⟨by rw[← hx h2];exact h1,h2⟩
 · exact .inr ⟨h1,h2⟩⟩
def AB (b:Bool) (t:List Tk):Bool:=!b&&(decide ((hd t).k=1) && !iP (bs (hd t).t))
theorem anA:Rel f_ b t (hd t).t (jb (AB b t) b t) (og (AB b t) b t):=by
 cases h:AB b t with
 | false=>
  refine NN fun e=>?_;subst e;unfold f_
  cases hk:iP (bs (hd t).t) with
  | true=>rw[Ga hk];rfl
  | false=>
   unfold AB at h;rw[hk] at h;rw[Jy hk,eU (zO Ad)]
 | true=>
  unfold AB at h;simp only[aj,Bool.not_eq_true',decide_eq_true_eq] at h;obtain⟨h1,h2,h3⟩:=h;refine JV h1 bU ?_;unfold f_;rw[Jy h3,dN (tO h2),jX]
theorem anB:Rel num b t (hd t).n (jb (!b&&decide ((hd t).k=2)) b t) (og (!b&&decide ((hd t).k=2)) b t):=(acm bS).bd Rel.rt
theorem anz:Rel fM b t () (jb (!b&&decide ((hd t).k=4)) b t) (og (!b&&decide ((hd t).k=4)) b t):=(acm bS).bd Rel.rt
theorem anD (g:Gd t):Rel sD b t (if (!b&&is oI t)=true then 1 else 0) (jb ((!b&&is oI t)||(!b&&is qM t)) b t) (og ((!b&&is oI t)||(!b&&is qM t)) b t):=by
 cases h:(!b&&is oI t) with
 | true=>
  simp only[aj,Bool.not_eq_true'] at h;refine JV h.1 (by rcases zo g bS h.2 with q|q <;> omega) ?_;unfold sD;rw[um h.2,jX,if_pos rfl]
 | false=>
  rw[Bool.false_or]
  cases h2:(!b&&is qM t) with
  | true=>
   simp only[aj,Bool.not_eq_true'] at h2;rw[h2.1] at h;refine JV h2.1 (by rcases zo g bS h2.2 with q|q <;> omega) ?_;unfold sD;rw[lQ Ad,dN (uJ h2.2),jX];rfl
  | false=>
   refine NN fun e=>?_;subst e;unfold sD;rw[lQ Ad,eU (BH (by simpa using h2))]
theorem xq.at {r:Bool} {w w':af} {e:Ending} (h:xq L g r b t w e w'):e=.returned (.tuple #[])/\Bt g w w'/\Rp L g (jb r b t) (og r b t) w':=h
theorem ay3 {p:Prop} (h:p:=by
 exact afc
 ):p:=h
theorem al0 (w:af) (hR:Rp L g b t w):ag ae 16 #[.pointer (ai ⟨g,0,ah⟩)] w (QO L g VU fM b t w):=by
 have C1:=U (fun W (hW:ak w.heap.size w W)=>BV W (hR.low (bT.of hW)));unfold tv at C1;have q:=zl (hd t).k (hd t).n (hd t).l (hd t).t;have c2:=hR.c2;have HR:=U hR;have HL:=U (anz (b:=b) (t:=t));obtain⟨v,hv⟩:∃v,(!b&&decide ((hd t).k=4))=v:=⟨_,rfl⟩
 rw[hv] at HL;have HV:=U hv;clear hR hv
 cases b with
 | true=>
  obtain rfl:v=false:=HV.out.symm;clear C1 q;go_enter func16,ntmps16;go_wp2_with fail;refine(yg false _ (HR.out.low qe)).mono ?_;exact ay3
 | false=>
  have hk:((hd t).k==4)=v:=by have h:=HV.out;rw[← h];rfl
  clear HV;go_enter func16,ntmps16;go_wp2_with fail;refine(C1.out _ bl).mono ?_;rintro e w1 ⟨rfl,hb1⟩;have q1:Bt g w w1:=bT.of hb1;have R1:Rp L g false t w1:=HR.out.low (bT.of hb1);clear hb1 c2;go_wp2_with fail;refine(yg v _ (R1.low qe)).mono ?_;exact ay3
theorem aaG (w:af) (hR:Rp L g b t w):ag ae 239 #[.pointer (ai ⟨g,0,ah⟩)] w (Gives (.bool (!b&&decide ((hd t).k=2))) w):=by
 have C1:=U (fun W (hW:ak w.heap.size w W)=>BV W (hR.low (bT.of hW)));unfold tv at C1;have q:=zl (hd t).k (hd t).n (hd t).l (hd t).t;have c2:=hR.c2;obtain⟨v,hv⟩:∃v,(!b&&decide ((hd t).k=2))=v:=⟨_,rfl⟩
 rw[hv];clear hR
 cases b with
 | true=>
  obtain rfl:v=false:=hv.symm;clear C1 q hv;go_enter func239,ntmps239;exact dS
 | false=>
  have hk:((hd t).k==2)=v:=by rw[← hv];rfl
  clear hv;go_enter func239,ntmps239;exact Px
theorem TW (w:af) (hR:Rp L g b t w):ag ae 240 #[.pointer (ai ⟨g,0,ah⟩)] w (QO L g VN num b t w):=by
 have C1:=U (fun W (hW:ak w.heap.size w W)=>BV W (hR.low (bT.of hW)));unfold tv at C1;have q:=ZF (hd t).k (hd t).n (hd t).l (hd t).t;have HN:=U hR.gd.wf.n;have HR:=U hR;have HL:=U (anB (b:=b) (t:=t));have C2:=U (fun W (hW:ak w.heap.size w W)=>aaG W (hR.low (bT.of hW)))
 generalize (!b&&decide ((hd t).k=2))=v at *
 obtain⟨c,hc⟩:∃c,jb v b t=c:=⟨_,rfl⟩
 rw[hc] at HL;have HC:=U hc;clear hR hc;go_enter func240,ntmps240;go_wp2_with fail;refine(C1.out _ bl).mono ?_;rintro e w1 ⟨rfl,hb1⟩;have B1:ak w.heap.size w w1:=bl;clear hb1;go_wp2_with fail;refine(C2.out _ bl).mono ?_;rintro e w2 ⟨rfl,hb2⟩;have B2:ak w.heap.size w w2:=bl;have q2:Bt g w w2:=bT.of B2;have R2:Rp L g b t w2:=HR.out.low (bT.of B2);clear hb2 B1 B2;go_wp2_with fail;refine(yg v _ (R2.low qe)).mono ?_;rintro e w3 ⟨rfl,q3,R3⟩;rw[HC.out] at R3;have d2:=R3.c2;have HR3:=U R3;clear R2 R3;have q4:Bt g w w3:=by exact qe
 clear q2 q3
 cases c with
 | true=>
  go_wp2_with fail;go_ret;exact QO.mk ⟨rfl,by omega⟩ qe HR3.out (ack HL.out fun h=>by cases h)
 | false=>
  go_wp2_with fail;go_ret;exact QO.mk ⟨rfl,HN.out⟩ qe HR3.out HL.out
theorem am5 (w:af) (hR:Rp L g b t w):ag ae 245 #[.pointer (ai ⟨g,0,ah⟩)] w (QO L g VI rQ b t w):=by
 have C1:=U (iF eH w hR bS bS);have HR:=U hR;have HS:Hid (To rQ b t rQ b t):=yE;obtain⟨v,hv⟩:∃v,(!b&&is eH t)=v:=⟨_,rfl⟩
 rw[hv] at C1;have HV:=U hv;clear hR hv
 cases v with
 | true=>
  obtain⟨rfl,hi⟩:b=false/\is eH t=true:=by have h:=HV.out;simpa using h
  have HI:=U hi;clear hi HV;go_enter func245,ntmps245;go_wp2_with fail;refine C1.out.mono ?_;rintro e w1 ⟨rfl,hb1⟩;have q1:Bt g w w1:=bT.of hb1;have R1:Rp L g false t w1:=HR.out.low (bT.of hb1);clear hb1;go_wp2_with fail;refine(qX eH _ R1 bS bS).mono ?_;rintro e w2 ⟨x2,b2,u2,v2,rfl,q2,rfl,R2,L2⟩;have q3:Bt g w w2:=by exact qe
  have HR2:=U R2;have h:=L2.2 rfl;rw[uJ HI.out] at h;obtain⟨rfl,rfl⟩:u2=t.tail/\b2=false:=by
   rcases h with⟨h1,h2⟩|⟨h1,h2⟩
   · cases h1;exact⟨rfl,h2⟩
   · cases h1
  replace HS:=pY HS HI.out;clear q1 q2 R1 R2 L2 h;go_wp2_with fail;refine(TW _ HR2.out).mono ?_;rintro e w4 ⟨x4,b4,u4,v4,rfl,q4,⟨rfl,n0,n1⟩,R4,L4⟩;have hw:wrap64 (-x4) = -x4:=by unfold wrap64;omega
  have HR4:=U R4;have H4:=Oj HS L4;have HL:=U (uY H4);clear H4;have q5:Bt g w w4:=by exact qe
  clear R4 L4 q3 q4 HS;go_wp2_with fail;go_ret;exact QO.mk rfl qe HR4.out HL.out
 | false=>
  replace HS:=pX HS HV.out;clear HV;go_enter func245,ntmps245;go_wp2_with fail;refine C1.out.mono ?_;rintro e w1 ⟨rfl,hb1⟩;have q1:Bt g w w1:=bT.of hb1;have R1:Rp L g b t w1:=HR.out.low (bT.of hb1);clear hb1;go_wp2_with fail;refine(TW _ R1).mono ?_;rintro e w4 ⟨x4,b4,u4,v4,rfl,q4,⟨rfl,n0,n1⟩,R4,L4⟩;have HR4:=U R4;have HL:=U (adl HS L4);have q5:Bt g w w4:=by exact qe
  clear R4 L4 q4 HS R1 q1;go_wp2_with fail;go_ret;exact QO.mk rfl qe HR4.out HL.out
theorem akF (w:af) (hR:Rp L g b t w):ag ae 255 #[.pointer (ai ⟨g,0,ah⟩)] w (Gives (.bool (AB b t)) w):=by
 have C1:=U (fun W (hW:ak w.heap.size w W)=>BV W (hR.low (bT.of hW)));unfold tv at C1;have q:=zl (hd t).k (hd t).n (hd t).l (hd t).t;have q2:=IX (hd t).k (hd t).n (hd t).l (hd t).t;have C2:=U (fun W=>Ue (hd t).t W);have c2:=hR.c2;obtain⟨v,hv⟩:∃v,AB b t=v:=⟨_,rfl⟩
 rw[hv];unfold AB at hv;clear hR
 cases b with
 | true=>
  obtain rfl:v=false:=hv.symm;clear C1 C2 q q2 hv;go_enter func255,ntmps255;exact dS
 | false=>
  by_cases h:(hd t).k=1
  · have e1:((hd t).k==1)=true:=by simp[h]
    obtain⟨z,hz⟩:∃z,iP (bs (hd t).t)=z:=⟨_,rfl⟩
    rw[hz,decide_eq_true h] at hv;rw[hz] at C2;obtain rfl:v = !z:=hv.symm;clear hv hz h;go_enter func255,ntmps255;go_wp2_with fail;refine(C1.out _ bl).mono ?_;rintro e w1 ⟨rfl,hb1⟩;go_wp2_with fail;refine(C1.out _ bl).mono ?_;rintro e w2 ⟨rfl,hb2⟩;go_wp2_with fail;refine(C2.out _).mono ?_;rintro e w3 ⟨rfl,hb3⟩;exact dS
  · have e1:((hd t).k==1)=false:=by simp[h]
    rw[decide_eq_false h] at hv;obtain rfl:v=false:=hv.symm;clear hv h C2;go_enter func255,ntmps255;exact Px
theorem ab6 (w:af) (hR:Rp L g b t w):ag ae 246 #[.pointer (ai ⟨g,0,ah⟩)] w (QO L g VT f_ b t w):=by
 have C1:=U (fun W (hW:ak w.heap.size w W)=>BV W (hR.low (bT.of hW)));unfold tv at C1;have q:=IX (hd t).k (hd t).n (hd t).l (hd t).t;have HR:=U hR;have HL:=U (anA (b:=b) (t:=t));have C2:=U (fun W (hW:ak w.heap.size w W)=>akF W (hR.low (bT.of hW)))
 generalize AB b t=v at *
 obtain⟨c,hc⟩:∃c,jb v b t=c:=⟨_,rfl⟩
 rw[hc] at HL;have HC:=U hc;clear hR hc;go_enter func246,ntmps246;go_wp2_with fail;refine(C1.out _ bl).mono ?_;rintro e w1 ⟨rfl,hb1⟩;have B1:ak w.heap.size w w1:=bl;clear hb1;go_wp2_with fail;refine(C2.out _ bl).mono ?_;rintro e w2 ⟨rfl,hb2⟩;have B2:ak w.heap.size w w2:=bl;have q2:Bt g w w2:=bT.of B2;have R2:Rp L g b t w2:=HR.out.low (bT.of B2);clear hb2 B1 B2;go_wp2_with fail;refine(yg v _ (R2.low qe)).mono ?_;rintro e w3 ⟨rfl,q3,R3⟩;rw[HC.out] at R3;have d2:=R3.c2;have HR3:=U R3;clear R2 R3;have q4:Bt g w w3:=by exact qe
 clear q2 q3
 cases c with
 | true=>
  go_wp2_with fail;go_ret;exact QO.mk (V:=VT) (x:=(⟨#[]⟩:ByteArray)) rfl qe HR3.out (ack HL.out fun h=>by cases h)
 | false=>
  go_wp2_with fail;go_ret;exact QO.mk rfl qe HR3.out HL.out
theorem ana (w:af) (hR:Rp L g b t w):ag ae 241 #[.pointer (ai ⟨g,0,ah⟩)] w (QO L g VB sD b t w):=by
 have C1:=U (fun W (hW:ak w.heap.size w W)=>qL oI W (hR.low (bT.of hW)) bS bS);have C2:=U (fun W (hW:ak w.heap.size w W)=>qL qM W (hR.low (bT.of hW)) bS bS);have HR:=U hR;have HL:=U (anD (b:=b) hR.gd)
 generalize (!b&&is oI t)=v1 at *
 generalize (!b&&is qM t)=v2 at *
 clear hR
 cases v1 with
 | true=>
  clear C2;go_enter func241,ntmps241;go_wp2_with fail;refine(C1.out _ bl).mono ?_;rintro e w1 ⟨rfl,hb1⟩;go_wp2_with fail;refine(C1.out _ bl).mono ?_;rintro e w2 ⟨rfl,hb2⟩;have B2:ak w.heap.size w w2:=bl;have q2:Bt g w w2:=bT.of B2;have R2:Rp L g b t w2:=HR.out.low (bT.of B2);clear hb1 hb2 B2;go_wp2_with fail;refine(yg true _ (R2.low qe)).mono ?_;rintro e w3 ⟨rfl,q3,R3⟩;go_wp2_with fail;go_ret;exact QO.mk ⟨rfl,.inr rfl⟩ qe R3 HL.out
 | false=>
  go_enter func241,ntmps241;go_wp2_with fail;refine(C1.out _ bl).mono ?_;rintro e w1 ⟨rfl,hb1⟩;go_wp2_with fail;refine(C1.out _ bl).mono ?_;rintro e w2 ⟨rfl,hb2⟩;go_wp2_with fail;refine(C2.out _ bl).mono ?_;rintro e w3 ⟨rfl,hb3⟩;have B2:ak w.heap.size w w3:=bl;have q2:Bt g w w3:=bT.of B2;have R2:Rp L g b t w3:=HR.out.low (bT.of B2);clear hb1 hb2 hb3 B2;go_wp2_with fail;refine(yg v2 _ (R2.low qe)).mono ?_;rintro e w4 ⟨rfl,q3,R3⟩;go_wp2_with fail;go_ret;exact QO.mk ⟨rfl,.inl rfl⟩ qe R3 HL.out
end
end Ps
namespace Na
open Go.RowKit
theorem acs {s:ByteArray} {b:Bool} (h:iP (bs s)=b) (w:af):ag ae 180 #[.string s] w (Gives (.bool b) w):=by rw[← h];exact Ue s w
theorem aiv {x:Int} (h1:¬x<48) (h2:¬57<x):gV x=true:=by unfold gV;simp;omega
theorem Yo {x:Int} (h:x<48∨57<x):gV x=false:=by unfold gV;simp;omega
theorem azs {p:Prop} (h:p:=by
 exact Ww
 ):p:=h
theorem azq {p:Prop} (h:p:=by
 exact afr
 ):p:=h
theorem NM (s:ByteArray) (w:af) (hs:s.size<=9223372036854775807):ag ae 132 #[.string s] w (Gives (.int .i64 (fT (bs s))) w):=by
 have hs':(s.size:Int)<=9223372036854775807:=by omega
 by_cases h1:s.size<1
 · have t1:decide ((s.size:Int)<1)=true:=decide_eq_true bU;have HR:=U (Xl (l:=bs s) (by rw[eF];exact h1));go_enter func132,ntmps132;exact PH
 have t1:decide ((s.size:Int)<1)=false:=decide_eq_false bU;by_cases h2:24<s.size
 · have t2:decide (24<(s.size:Int))=true:=decide_eq_true bU;have HR:=U (Xk (l:=bs s) (by rw[eF];exact h2));go_enter func132,ntmps132;exact PH
 have t2:decide (24<(s.size:Int))=false:=decide_eq_false bU;have c0:(0:Int)<(s.size:Int):=by omega
 have hs0:0<s.size:=by omega
 by_cases h3:gM ((s[0]).toNat:Int)=true
 · by_cases h4:iP (bs s)=true
   · have HR:=U (Xj h4);go_enter func132,ntmps132;go_wp2_with fail;refine(sj h3 w).mono ?_;rintro e w1 ⟨rfl,rfl⟩;go_wp2_with fail;refine(acs h4 w1).mono ?_;rintro e w2 ⟨rfl,hb2⟩;exact azq
   · have h4':iP (bs s)=false:=by simpa using h4
     have HL:Hid (1<=(bs s).length/\(bs s).length<=24):=U (by rw[eF];omega);have HC:=U (show gq (bs s)[0]=true from h3);have HK:=U h4';have H6:=U (eF s);go_enter func132,ntmps132;go_wp2_with fail;refine(sj h3 w).mono ?_;rintro e w1 ⟨rfl,rfl⟩;go_wp2_with fail;refine(acs h4' w1).mono ?_;rintro e w2 ⟨rfl,hb2⟩;go_wp2_with fail;go_loop [3] (fun i=>∃k:Nat,k<=s.size/\i=.int .i64 (k:Nat)/\Hid (Good (bs s) k)) (fun i=>s.size-(intOf i).toNat)
     case atStart=>exact⟨0,Nat.zero_le _,rfl,U aj_⟩
     case round=>
      obtain⟨k,hk,rfl,HG⟩:=hrel;have d1:(0:Int)<=(k:Int):=by omega
      rcases Nat.lt_or_ge k s.size with h|h
      · have hks:k<(bs s).length:=by rw[H6.out];exact h
        have d2:(k:Int)<(s.size:Int):=by omega
        have HY:Hid (wG ((s[k]).toNat:Int)=true->Good (bs s) (k+1)):=U (fun h=>good_step hks HG.out h);have HN:Hid (wG ((s[k]).toNat:Int)=false->fT (bs s)=3):=U (fun h=>Xh hks h);by_cases g1:gM ((s[k]).toNat:Int)=true
        · have oP:=U (HY.out (Su g1));clear HY HN;go_wp2_with fail;refine(sj g1 w2).mono ?_;exact azs
        have g1':gM ((s[k]).toNat:Int)=false:=by simpa using g1
        by_cases g3:((s[k]).toNat:Int)=95
        · have oP:=U (HY.out (aal g3));have q3:(((s[k]).toNat:Int)==95)=true:=beq_iff_eq.2 g3;have q3b:(((s[k]).toNat:Int) != 95)=false:=by simp[g3]
          clear HY HN g1;go_wp2_with fail;refine(sj (x:=95) (b:=false) bS w2).mono ?_;exact azs
        have q3:(((s[k]).toNat:Int)==95)=false:=beq_eq_false_iff_ne.2 g3;have q3b:(((s[k]).toNat:Int) != 95)=true:=by simp only[bne,q3];rfl
        by_cases g4:((s[k]).toNat:Int)<48
        · have HR:=U (HN.out (Sv g1' (Yo (.inl g4)) g3));have q4:decide (((s[k]).toNat:Int)<48)=true:=decide_eq_true g4;clear HY HN g1;go_wp2_with fail;refine(sj g1' w2).mono ?_;rintro e w3 ⟨rfl,rfl⟩;exact azq
        have q4:decide (((s[k]).toNat:Int)<48)=false:=decide_eq_false g4;by_cases g5:57<((s[k]).toNat:Int)
        · have HR:=U (HN.out (Sv g1' (Yo (.inr g5)) g3));have q5:decide (57<((s[k]).toNat:Int))=true:=decide_eq_true g5;clear HY HN g1;go_wp2_with fail;refine(sj g1' w2).mono ?_;rintro e w3 ⟨rfl,rfl⟩;exact azq
        · have oP:=U (HY.out (aaj (aiv g4 g5)));have q5:decide (57<((s[k]).toNat:Int))=false:=decide_eq_false g5;clear HY HN g1;go_wp2_with fail;refine(sj g1' w2).mono ?_;exact azs
      · have hk':k=s.size:=by omega
        have HR:=U (aak HG.out (by rw[H6.out,hk']) HL.out.1 HL.out.2 HC.out HK.out);have q:decide ((k:Int)<(s.size:Int))=false:=decide_eq_false bU;clear hk';exact azq
 · have h3':gM ((s[0]).toNat:Int)=false:=by simpa using h3
   have HR:=U (Xi (l:=bs s) (by rw[eF];exact hs0) h3');go_enter func132,ntmps132;go_wp2_with fail;refine(sj h3' w).mono ?_;rintro e w1 ⟨rfl,rfl⟩;exact PH
end Na
namespace Ps
open Go.RowKit
open Lx (Tk)
section
variable {L:Lk} {g:Nat} {t:List Tk}
theorem azj {p:Prop} (h:p:=by
 have HL:=U (HS.out.symm.trans r3);replace HB:=dJ HB w3;replace HR:=U R3;clear b3 R3;go_wp2_with fail;go_ret;exact PO.ok HL.out HB.out rfl HR.out
 ):p:=h
theorem azi {p:Prop} (h:p:=by
 go_wp2_with fail;refine(Ol _ (HR.out.low qe)).mono ?_;rintro e w3 h3;rcases h3.cases with⟨x3,u3,v3,r3,rfl,b3,V3,R3⟩|⟨u3,r3,rfl,b3⟩
 · obtain⟨rfl,-⟩:=V3;exact azj
 · have bZ:=HB.out;go_wp2_with fail;exact⟨rfl,PO.no (HS.out.symm.trans r3) qe⟩
 ):p:=h
theorem agd (w:af) (hR:Rd L g t w):ag ae 216 #[.pointer (ai ⟨g,0,ah⟩)] w (PO L g VI (run arg t) w):=by
 refine eD hR ?_;clear hR;intro r HS HR HB hg;go_enter func216,ntmps216
 cases i1:is oI t
 · replace HS:=EG HS i1
   cases i2:is qM t
   · replace HS:=EG HS i2;go_wp2_with fail;refine gi HR HB (oM oI _ (HR.out.low qe)) ?_;clear HR HB;rintro w1 b1-HR HB;rw[i1];clear b1;go_wp2_with fail;refine gi HR HB (oM qM _ (HR.out.low qe)) ?_;clear HR HB;rintro w2 b2-HR HB;rw[i2];clear b2;clear i1 i2;go_wp2_with fail;refine(M8 _ (HR.out.low qe)).mono ?_;rintro e w3 h3;rcases h3.cases with⟨x3,u3,v3,r3,rfl,b3,V3,R3⟩|⟨u3,r3,rfl,b3⟩
     · obtain rfl:=V3;exact azj
     · have bZ:=HB.out;go_wp2_with fail;exact⟨rfl,PO.no (HS.out.symm.trans r3) qe⟩
   · replace HS:=EH HS i2;go_wp2_with fail;refine gi HR HB (oM oI _ (HR.out.low qe)) ?_;clear HR HB;rintro w1 b1-HR HB;rw[i1];clear b1;go_wp2_with fail;refine gi HR HB (oM qM _ (HR.out.low qe)) ?_;clear HR HB;rintro w2 b2-HR HB;rw[i2];clear b2;clear i1 i2;exact azi
 · replace HS:=EH HS i1;go_wp2_with fail;refine gi HR HB (oM oI _ (HR.out.low qe)) ?_;clear HR HB;rintro w1 b1-HR HB;rw[i1];clear b1;clear i1;exact azi
end
end Ps
end Go.Proofs.YthnillhnjhalmaaGreatDoor
