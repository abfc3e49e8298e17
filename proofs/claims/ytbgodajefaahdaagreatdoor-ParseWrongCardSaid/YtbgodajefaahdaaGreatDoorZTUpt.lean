/-
  Parts of this proof: Lines. The contracts of walk, of the closure of nodes a. The contracts of walk, of the closure of stateme. The contracts of Nodes and of hasMoreNodes. The contracts of Count and of hasMore.
-/
import Derived.Test.YtbgodajefaahdaaGreatDoorZTEat
import Derived.RangeFuncNested
import Derived.RangeFuncBound
import Derived.RangeFuncCalls
import Derived.RangeFuncLeaves
import Derived.RangeFuncBox
import Derived.Shelf.Abstract
import Derived.OwnWalkIn
import Derived.TacticsInMore
import Derived.LoopNIn
import Derived.LoopIn
import Derived.Test.YtbgodajefaahdaaGreatDoorZPBase
set_option linter.unusedVariables false
open Go.Lib (hid)
namespace Go.Proofs.YtbgodajefaahdaaGreatDoor.Ps
open Go.Proofs.YtbgodajefaahdaaGreatDoor.Lx (Tk mt lexL lexL_nil lexL_cons lex_line endL setL fstO fst_size spn inlC inl_35 spn_one spn_no fin tokL tokN tokE tok_good tok_bad tok_long lex_app Brk)
set_option maxHeartbeats 1000000
theorem note_len {c:UInt8} {t:List UInt8} (h:c=35):1<=spn inlC (c::t):=spn_one (p:=inlC) (c:=c) (t:=t) (by rw[h];exact inl_35)
theorem zDI_0 {p:Prop} (h:p:=by rw[List.length_drop,List.length_cons];omega):p:=h
theorem lex_new:∀(k:Nat) (l:List UInt8) (a:List Tk) (n:Nat),l.length<=k->n<=(lexL l a n).n/\∃T,(lexL l a n).a=a++T/\∀x∈T,(n:Int)<=x.l
 | 0,l,a,n,h=>by
  have:l=[]:=List.length_eq_zero_iff.1 (by omega);subst this;rw[lexL_nil];exact⟨Nat.le_refl _,[],by simp,fun x hx=>by cases hx⟩
 | k+1,[],a,n,h=>by rw[lexL_nil];exact⟨Nat.le_refl _,[],by simp,fun x hx=>by cases hx⟩
 | k+1,c::t,a,n,h=>by
  have ht:t.length<=k:=by simpa using h
  rw[lexL_cons c t];by_cases g1:c=32∨c=9
  · rw[if_pos g1];exact lex_new k t a n ht
  rw[if_neg g1];by_cases g2:c=35
  · rw[if_pos g2];have:=note_len (t:=t) g2;exact lex_new k _ a n zDI_0
  rw[if_neg g2];by_cases g3:c=10
  · rw[if_pos g3];obtain⟨h1,T,h2,h3⟩:=lex_new k t (endL a n) (n+1) ht;refine⟨by omega,?_⟩;unfold endL at h2 ⊢
    split at h2
    · rename_i ho
      rw[if_pos ho];exact⟨⟨4,mt,0,(n:Int)⟩::T,by rw[h2];simp,fun x hx=>by
       rcases List.mem_cons.1 hx with rfl|hx
       · exact Int.le_refl _
       · have:=h3 x hx;omega⟩
    · rename_i ho
      rw[if_neg ho];exact⟨T,h2,fun x hx=>by have:=h3 x hx;omega⟩
  rw[if_neg g3]
  cases g4:fstO (c::t) with
  | none=>exact⟨Nat.le_refl _,[],by simp,fun x hx=>by cases hx⟩
  | some y=>
   obtain⟨x,m⟩:=y;have:=fst_size g4;obtain⟨h1,T,h2,h3⟩:=lex_new k ((c::t).drop m) (a++[setL x n]) n zDI_0;refine⟨h1,setL x n::T,?_,fun z hz=>?_⟩
   · show(lexL ((c::t).drop m) (a++[setL x n]) n).a=_
     rw[h2];simp
   · rcases List.mem_cons.1 hz with rfl|hz
     · exact Int.le_refl _
     · exact h3 z hz
theorem endL_new (a:List Tk) (n:Nat):∃T,endL a n=a++T/\∀x∈T,(n:Int)<=x.l:=by
 unfold endL
 split
 · exact⟨_,rfl,fun x hx=>by rw[List.mem_singleton] at hx;subst hx;exact Int.le_refl _⟩
 · exact⟨[],by simp,fun x hx=>by cases hx⟩
theorem fin_new (l:List UInt8) (a:List Tk) (n:Nat):∃T,fin (lexL l a n)=a++T/\∀x∈T,(n:Int)<=x.l:=by
 obtain⟨h1,T,h2,h3⟩:=lex_new l.length l a n (Nat.le_refl _);obtain⟨U,h4,h5⟩:=endL_new (lexL l a n).a (lexL l a n).n;refine⟨T++U++[⟨0,mt,0,((lexL l a n).n:Int)⟩],?_,fun x hx=>?_⟩
 · unfold fin;rw[h4,h2];simp
 · simp only[List.mem_append,List.mem_singleton] at hx;rcases hx with(hx|hx)|rfl
   · exact h3 x hx
   · have:=h5 x hx;omega
   · show(n:Int)<=((lexL l a n).n:Int);omega
theorem tok_lines {s:List UInt8} (h:tokE s=0):∀x∈tokL s,1<=x.l:=by
 have hl:¬20000<s.length:=fun g=>by rw[(tok_long g).2.2] at h;cases h
 have hb:(lexL s [] 1).bad=false:=by
  cases e:(lexL s [] 1).bad with
  | false=>rfl
  | true=>rw[(tok_bad hl e).2.2] at h;cases h
 rw[(tok_good hl hb).1];obtain⟨T,h1,h2⟩:=fin_new s [] 1;rw[h1];exact fun x hx=>h2 x (by simpa using hx)
def rdG {α:Type} (z:α) (m:P α) (c:α->Int) (s:List UInt8):α×Int×Int:=
 if tokE s=0 then (match run m (tokL s) with
  | .ok x _=>if c x=0 then (x,0,0) else (z,0,c x)
  | .no u=>(z,(hd u).l,9))
 else (z,tokN s,tokE s)
section
variable {α:Type} {z:α} {m:P α} {c:α->Int} {s:List UInt8}
theorem rdG_lex (h:¬tokE s=0):rdG z m c s=(z,(tokN s:Int),tokE s):=by unfold rdG;rw[if_neg h]
theorem rdG_no {u:List Tk} (h:tokE s=0) (hr:run m (tokL s)=.no u):rdG z m c s=(z,(hd u).l,9):=by unfold rdG;rw[if_pos h,hr]
theorem rdG_bad {x:α} {u:List Tk} (h:tokE s=0) (hr:run m (tokL s)=.ok x u) (hc:¬c x=0):rdG z m c s=(z,0,c x):=by unfold rdG;rw[if_pos h,hr];simp only[if_neg hc]
theorem rdG_ok {x:α} {u:List Tk} (h:tokE s=0) (hr:run m (tokL s)=.ok x u) (hc:c x=0):rdG z m c s=(x,0,0):=by unfold rdG;rw[if_pos h,hr];simp only[if_pos hc]
end
theorem hd_mem {u:List Tk} (h:Gd u):∃r,u=hd u::r:=by
 cases u with
 | nil=>exact h.elim
 | cons x r=>exact⟨r,rfl⟩
def upT:List UInt8->Int->List UInt8
 | [],_=>[]
 | c::t,n=>if c=10 then (if n-1=0 then [] else c::upT t (n-1)) else c::upT t n
def lfs (s:List UInt8):Nat:=s.count 10
theorem upT_cut:∀(s:List UInt8) (k:Nat),(upT s ((k:Int)+1)=s/\lfs s<=k)∨∃q,s=upT s ((k:Int)+1)++10::q/\lfs (upT s ((k:Int)+1))=k
 | [],k=>.inl ⟨rfl,Nat.zero_le _⟩
 | c::t,k=>by
  rw[upT];by_cases hc:c=10
  · rw[if_pos hc]
    cases k with
    | zero=>rw[if_pos (by omega)];exact .inr ⟨t,by rw[hc];rfl,rfl⟩
    | succ k=>
     rw[if_neg (by omega),show((k+1:Nat):Int)+1-1=(k:Int)+1 by omega];subst hc;have hl:∀l:List UInt8,lfs (10::l)=lfs l+1:=fun l=>List.count_cons_self;rcases upT_cut t k with⟨h1,h2⟩|⟨q,h1,h2⟩
     · exact .inl ⟨by rw[h1],by rw[hl];omega⟩
     · exact .inr ⟨q,by rw[List.cons_append,← h1],by rw[hl];omega⟩
  · rw[if_neg hc];have hl:∀l:List UInt8,lfs (c::l)=lfs l:=fun l=>List.count_cons_of_ne hc;rcases upT_cut t k with⟨h1,h2⟩|⟨q,h1,h2⟩
    · exact .inl ⟨by rw[h1],by rw[hl];exact h2⟩
    · exact .inr ⟨q,by rw[List.cons_append,← h1],by rw[hl];exact h2⟩
theorem upT_len:∀(s:List UInt8) (n:Int),(upT s n).length<=s.length
 | [],_=>Nat.le_refl _
 | c::t,n=>by
  rw[upT];have h1:=upT_len t n;have h2:=upT_len t (n-1)
  split
  · split
    · exact Nat.zero_le _
    · simp only[List.length_cons];omega
  · simp only[List.length_cons];omega
theorem lex_one:∀(k:Nat) (l:List UInt8) (a:List Tk) (n:Nat),l.length<=k->(∀c∈l,¬c=10)->(lexL l a n).n=n
 | 0,l,a,n,h,_=>by
  have:l=[]:=List.length_eq_zero_iff.1 (by omega);subst this;rw[lexL_nil]
 | k+1,[],a,n,h,_=>by rw[lexL_nil]
 | k+1,c::t,a,n,h,hn=>by
  have ht:t.length<=k:=by simpa using h
  have hnt:∀x∈t,¬x=10:=fun x hx=>hn x (List.mem_cons_of_mem _ hx);rw[lexL_cons c t];by_cases g1:c=32∨c=9
  · rw[if_pos g1];exact lex_one k t a n ht hnt
  rw[if_neg g1];by_cases g2:c=35
  · rw[if_pos g2];have:=note_len (t:=t) g2;exact lex_one k _ a n zDI_0 fun x hx=>hn x (List.mem_of_mem_drop hx)
  rw[if_neg g2,if_neg (hn c List.mem_cons_self)]
  cases g4:fstO (c::t) with
  | none=>rfl
  | some y=>
   obtain⟨x,m⟩:=y;have:=fst_size g4;exact lex_one k _ _ n zDI_0 fun x hx=>hn x (List.mem_of_mem_drop hx)
theorem feed_brk (q:List UInt8):Brk (10::q):=fun c hc=>by cases hc;exact .inr rfl
theorem feed_spn (q:List UInt8) (a:List Tk) (n:Nat):lexL ((10::q).drop (spn inlC (10::q))) a n=lexL (10::q) a n:=by rw[spn_no (by decide)];rfl
theorem lex_cut (l q:List UInt8) (a:List Tk) (n:Nat) (h:(lexL l a n).bad=false):lexL (l++10::q) a n=lexL q (endL (lexL l a n).a (lexL l a n).n) ((lexL l a n).n+1):=by
 rw[lex_app (feed_brk q) (feed_spn q) l.length l a n (Nat.le_refl _),if_neg (by rw[h];decide),lex_line]
theorem lex_cnt:∀(k:Nat) (l:List UInt8) (a:List Tk) (n:Nat),l.length<=k->(lexL l a n).bad=false->(lexL l a n).n=n+lfs l
 | 0,l,a,n,h,_=>by
  have:l=[]:=List.length_eq_zero_iff.1 (by omega);subst this;rw[lexL_nil];rfl
 | k+1,l,a,n,h,hb=>by
  by_cases h10:(10:UInt8)∈l
  · obtain⟨p,q,rfl,hp⟩:=List.eq_append_cons_of_mem h10;have h1:(lexL p a n).n=n:=lex_one p.length p a n (Nat.le_refl _) fun c hc e=>hp (e▸hc);have hpb:(lexL p a n).bad=false:=by
     cases e:(lexL p a n).bad with
     | false=>rfl
     | true=>
      rw[lex_app (feed_brk q) (feed_spn q) p.length p a n (Nat.le_refl _),if_pos e,e] at hb;cases hb
    have hc:=lex_cut p q a n hpb;rw[hc] at hb ⊢;have:=lex_cnt k q _ _ (by simp at h;omega) hb;rw[this,h1];unfold lfs;rw[List.count_append,List.count_cons_self,List.count_eq_zero_of_not_mem hp];omega
  · have h1:(lexL l a n).n=n:=lex_one l.length l a n (Nat.le_refl _) fun c hc e=>h10 (e▸hc);rw[h1];unfold lfs;rw[List.count_eq_zero_of_not_mem h10];rfl
theorem rdG_upto {α:Type} {z:α} {m:P α} {c:α->Int} {s:List UInt8} (hn:∀u,tokE s=0->run m (tokL s)=.no u->Gd u) (hc:∀x,¬c x=9) (he:(rdG z m c s).2.2=9):(1<=(rdG z m c s).2.1/\(rdG z m c s).2.1<=30000)/\(rdG z m c (upT s (rdG z m c s).2.1)).2=((rdG z m c s).2.1,9):=by
 by_cases h0:tokE s=0;rotate_left 1
 · exfalso
   rw[rdG_lex h0] at he;have he:tokE s=9:=he;unfold tokE at he
   split at he
   · cases he
   · split at he <;> cases he
 cases hr:run m (tokL s) with
 | ok x u=>
  exfalso
  by_cases hx:c x=0
  · rw[rdG_ok h0 hr hx] at he;cases he
  · rw[rdG_bad h0 hr hx] at he;exact hc x he
 | no u=>
  rw[rdG_no h0 hr]
  show(1<=(hd u).l/\(hd u).l<=30000)/\(rdG z m c (upT s (hd u).l)).2=((hd u).l,9)
  have hmax:=(hn u h0 hr).wf.2.2.2.2.2;have hl:¬20000<s.length:=fun g=>by rw[(tok_long g).2.2] at h0;cases h0
  have hb:(lexL s [] 1).bad=false:=by
   cases e:(lexL s [] 1).bad with
   | false=>rfl
   | true=>rw[(tok_bad hl e).2.2] at h0;cases h0
  obtain⟨r1,hu⟩:=hd_mem (hn u h0 hr);obtain⟨w,hw⟩:∃w,hd u=w:=⟨_,rfl⟩
  rw[hw] at hu hmax ⊢;have hsuf:=(suf m (tokL s)).2 u hr;have hmem:w∈tokL s:=hsuf.subset (by rw[hu];exact List.mem_cons_self);have hp:=tok_lines h0 _ hmem;refine⟨⟨hp,hmax⟩,?_⟩;obtain⟨k,hk⟩:∃k:Nat,w.l=(k:Int)+1:=⟨(w.l-1).toNat,by omega⟩
  rcases upT_cut s k with⟨h1,h2⟩|⟨q,h1,h2⟩
  · rw[hk,h1,rdG_no h0 hr,hw,hk]
  · rw[hk];obtain⟨p,hpp⟩:∃p,upT s ((k:Int)+1)=p:=⟨_,rfl⟩
    rw[hpp] at h1 h2 ⊢;have hpl:p.length<s.length:=by rw[h1];simp
    have hpb:(lexL p [] 1).bad=false:=by
     cases e:(lexL p [] 1).bad with
     | false=>rfl
     | true=>
      rw[h1,lex_app (feed_brk q) (feed_spn q) p.length p [] 1 (Nat.le_refl _),if_pos e,e] at hb;cases hb
    have hN:(lexL p [] 1).n=k+1:=by rw[lex_cnt p.length p [] 1 (Nat.le_refl _) hpb,h2];omega
    have hcut:=lex_cut p q [] 1 hpb;rw[← h1,hN] at hcut;obtain⟨E,hE⟩:∃E,endL (lexL p [] 1).a (k+1)=E:=⟨_,rfl⟩
    rw[hE] at hcut;obtain⟨T,hT,hTl⟩:=fin_new q E (k+1+1);have hs:tokL s=E++T:=by rw[(tok_good hl hb).1,hcut,hT]
    obtain⟨g1,g2,g3⟩:=tok_good (l:=p) (by omega) hpb;have hpt:tokL p=E++[⟨0,mt,0,((k+1:Nat):Int)⟩]:=by rw[g1];unfold fin;rw[hN,hE]
    obtain⟨P,hP⟩:=hsuf;rw[hu,hs] at hP;have hwT:¬w∈T:=fun h=>by have:=hTl w h;omega
    obtain⟨r0,hr0⟩:∃r0,E=P++w::r0:=by
     rcases List.append_eq_append_iff.1 hP with⟨c,h3,h4⟩|⟨c,h3,h4⟩
     · cases c with
       | nil=>exfalso;exact hwT (by rw[List.nil_append] at h4;rw[← h4];exact List.mem_cons_self)
       | cons y c=>
        rw[List.cons_append] at h4;injection h4 with h5 h6;exact⟨c,by rw[h3,h5]⟩
     · exact absurd (by rw[h4];exact List.mem_append_right _ List.mem_cons_self) hwT
    have hrun:run m (P++w::r1)=.no ([]++w::r1):=by rw[hP,← hs,hr,hu];rfl
    have:=(run_at m w r1 (r0++[⟨0,mt,0,((k+1:Nat):Int)⟩]) P).2 [] hrun;have h9:run m (tokL p)=.no (w::(r0++[⟨0,mt,0,((k+1:Nat):Int)⟩])):=by
     rw[hpt,hr0,List.append_assoc];exact this
    rw[rdG_no g3 h9]
    show(w.l,(9:Int))=_
    rw[hk]
end Go.Proofs.YtbgodajefaahdaaGreatDoor.Ps
namespace Go.Proofs.YtbgodajefaahdaaGreatDoor.Ex
open Go.RowKit Go.Shelf
attribute [local go_sem] Oper.semAt_some
set_option maxHeartbeats 2000000
theorem room_of_none {F:Fence} (hd:F.depth=none) (k:Nat):F.room k:=fun d h=>by rw[hd] at h;cases h
theorem round_any_depth {F:Fence} (hd:F.depth=none) {m m':Nat} {P:Program} {l:Nat} {f:FuncId} {tmps:Array Value} {assign body:Code} {w:World} {R:Ending->World->Prop}
 (h:RoundIn F m P l f tmps assign body w R):RoundIn F m' P l f tmps assign body w R:=⟨h.1,fun c cs _=>h.2 c cs (room_of_none hd _)⟩
theorem yield_any_depth {F:Fence} (hd:F.depth=none) {m:Nat} (m':Nat) {P:Program} {l:Nat} {args:Array Value} {W:World} {R:Ending->World->Prop} (h:YieldAt F m P l args W R):YieldAt F m' P l args W R:=by
 obtain⟨fn,tmps,assign,body,hy,hR⟩:=h;exact⟨fn,tmps,assign,body,hy,round_any_depth hd hR⟩
structure Nd where
 x:Ex
 p:Option Addr
 m:Nat
 c:Nat
 hl:x.l.length=m
 hs:x.s.size<=140737488355328
def encN (r:Nd):Array Value:=#[.agg #[.int .i64 r.x.o,.string r.x.s,.int .i64 r.x.n,.slice r.p r.m r.c]]
structure Kp (n₀ T:Nat) (W W':World):Prop where
 below:Below n₀ W W'
 same:∀(k:Nat) (C:Array Value) (fr:Nat×Nat),T<=k->W.heap[k]?=some (.cells C 41 fr)->W'.heap[k]?=some (.cells C 41 fr)
theorem Kp.refl (n₀ T:Nat) (W:World):Kp n₀ T W W:=⟨Below.refl _ _,fun _ _ _ _ h=>h⟩
theorem Kp.trans {n₀ T:Nat} {A B C:World} (h:Kp n₀ T A B) (k:Kp n₀ T B C):Kp n₀ T A C:=⟨h.below.trans k.below,fun i c fr hi hc=>k.same i c fr hi (h.same i c fr hi hc)⟩
theorem Kp.of_below {n₀ T:Nat} {W W':World} (h:Below W.heap.size W W') (hn:n₀<=W.heap.size):Kp n₀ T W W':=⟨h.mono hn,fun k c fr _ hc=>(h.block k (Array.getElem?_eq_some_iff.1 hc).1).trans hc⟩
theorem Kp.put {n₀ T:Nat} {w:World} (hn:n₀<=w.heap.size) (W:World) (l:Nat) (o o':Obj) (hl:w.heap.size<=l) (h:W.heap[l]?=some o) (h1:o.isCells=false) (h2:o.isWalk=false):Kp n₀ T W (W.putObj l o'):=
 ⟨belowK_b hn W l o o' hl h h1 h2, fun k c fr _ hc => by
   rw[World.putObj_heap_other]
   · exact hc
   · intro e;subst e;rw[h] at hc;cases hc
     cases h1⟩
theorem Kp.set {n₀ T:Nat} {W:World} {B:Nat} (h0:n₀<=B) (hT:B<T) (v:Value):Kp n₀ T W (W.setCell ⟨B,0,none⟩ v):=
 ⟨(Below.refl n₀ W).setCell (p:=⟨B,0,none⟩) h0 v,fun k c fr hk hc=>((grownBy_setCell' W B v).block k (Array.getElem?_eq_some_iff.1 hc).1 (fun e=>by cases e;omega)).trans hc⟩
theorem grown_of_below {W W':World} (hb:Below W.heap.size W W'):W.grownBy W' none:=⟨hb.os,hb.tape,hb.output,hb.size,fun k hk _=>hb.block k hk⟩
theorem abides_below {β:Type} {B:Nat} {J:β->World->Prop} (hJ:AbidesFrom B J) {s:β} {W W':World} (hs:J s W) (hb:Below W.heap.size W W'):J s W':=hJ s W W' none hs (grown_of_below hb) (fun r e=>by cases e)
theorem box_of {W:World} {g:Nat} {o:Int} {s:ByteArray} {n:Int} {p:Option Addr} {m c:Nat} {t:TypeId} {fr:Nat×Nat} (h:W.heap[g]?=some (.cells #[.int .i64 o,.string s,.int .i64 n,.slice p m c] t fr)):box4 W g o s n p m c:=by
 refine⟨?_,?_,?_,?_⟩ <;> simp[World.cell?,h]
set_option maxRecDepth 100000 in
theorem wlkd_in (F:Fence) (hd:F.depth=none) (hf:F.fn 145) (hro:F.round=none) (l n₀ T N:Nat) (J Jx:List Nd->World->Prop)
 (hJ:∀s W W',J s W->Below W.heap.size W W'->J s W')
 (hY : ∀ m ps r W, J ps W → ps.length < N → YieldAt F m Tryz.prog l (encN r) W fun e W' =>
   (e=.returned (.bool true)/\J (ps++[r]) W'/\Kp n₀ T W W')∨(e=.returned (.bool false)/\Jx (ps++[r]) W')) (e:Ex) :
 ∀(n:Nat) (p:Option Addr) (m c:Nat) (ps:List Nd) (W:World),Kin (Lo n₀) W e p m->Sz e->n₀<=W.heap.size->T<=W.heap.size->J ps W->ps.length+cnt e<=N ->
  CallsIn F n Tryz.prog 145 #[.agg #[.int .i64 e.o,.string e.s,.int .i64 e.n,.slice p m c],.func (.yield l) #[] #[]] W fun r W'=>
   (r=.returned (.bool true)/\∃ys,ys.map Nd.x=pre e/\J (ps++ys) W'/\Below n₀ W W')∨(r=.returned (.bool false)/\∃q,q.map Nd.x <+: pre e/\Jx (ps++q) W'):=by
 induction e using Ex.ind with
 | h o s nn kl ih=>
  intro n p m c ps W ht hsz hn hT hJ0 hN;have hdd:∀k:Nat,(F.depth.isSome=true->1<=k):=fun k h=>by rw[hd] at h;cases h
  rw[cnt_one] at hN;obtain⟨hl,hm⟩:=ht.len;have HH:=hid ht;have HI:=hid ih;have HL:=hid hl;have HSZ:=hid hsz;have HJ:=hid hJ;have HN:=hid hN;have HNN:=hid hn;have HTT:=hid hT;obtain⟨r0,hrx,hre⟩:∃r:Nd,r.x=.mk o s nn kl/\encN r=#[.agg #[.int .i64 o,.string s,.int .i64 nn,.slice p m c]]:=⟨⟨.mk o s nn kl,p,m,c,hl,hsz.self⟩,rfl,rfl⟩
  have HRX:=hid hrx;obtain⟨W1,hW1⟩:∃W1,W.alloc (.cells #[.int .i64 o,.string s,.int .i64 nn,.slice p m c] 41)=W1:=⟨_,rfl⟩
  have hb1:Below W.heap.size W W1:=by rw[← hW1];exact(Below.refl _ _).alloc (Nat.le_refl _) _
  have hx1:W1.heap[W.heap.size]?=some (.cells #[.int .i64 o,.string s,.int .i64 nn,.slice p m c] 41 (0,0)):=by rw[← hW1];exact World.alloc_heap_new W _
  have hJ1:=hJ _ _ _ hJ0 hb1;have hy:=hY (n-1) ps r0 W1 hJ1 (by omega);rw[hre] at hy;have hy2:=YieldAt.mono hy (R':=fun e W2=>(e=.returned (.bool true)/\Hid (J (ps++[r0]) W2)/\Hid (Below n₀ W W2)/\W2.cell? ⟨W.heap.size,3,none⟩=some (.slice p m c))∨(e=.returned (.bool false)/\Hid (Jx (ps++[r0]) W2)))
   (fun e W2 h=>h.elim (fun⟨he,hj,hk⟩=>.inl ⟨he,hid hj,hid ((hb1.mono hn).trans hk.below),(box_of (hk.same _ _ _ hT hx1)).2.2.2⟩) fun⟨he,hj⟩=>.inr ⟨he,hid hj⟩)
  obtain⟨fn,tmps,assign,body,hy3,hR⟩:=hy2;simp only[Ex.o,Ex.s,Ex.n];clear hy hb1 hx1 hJ1 hJ hJ0 hN hY ih ht hsz hn hT hl hrx hre;refine callsIn_of_wp Tryz.func145 rfl hf ?_ hro;simp only[Tryz.ntmps145,List.size_toArray,List.length_cons,List.length_nil,Nat.reduceAdd,Nat.reduceSub,Array.replicate_succ,Array.replicate_zero,List.push_toArray,List.append_toArray,List.nil_append,List.cons_append];subst hW1
  gi_wp2_with ((try refine⟨hdd _,?_⟩);refine hR.mono ?_;clear hR;rintro e W2 (⟨rfl,HJ2,HB2,c2⟩|⟨rfl,HX2⟩))
  · gi_loopw [14] (fun i wr=>∃(k:Nat) (ys:List Nd),k<=m/\i=.int .i64 (k:Nat)/\Hid (ys.map Nd.x=.mk o s nn kl::preL (kl.take k)/\J (ps++ys) wr/\Below n₀ W wr)) (fun i _=>m-(intOf i).toNat)
    case atStart=>exact⟨0,[r0],Nat.zero_le _,rfl,hid ⟨by rw[List.take_zero,preL,List.map_cons,HRX.out];rfl,HJ2.out,HB2.out⟩⟩
    case round=>
     obtain⟨k,ys,hk,rfl,HS⟩:=hrel;have k0:(0:Int)<=(k:Int):=by omega
     rcases Nat.lt_or_ge k m with h|h
     · have k1:(k:Int)<(m:Int):=by omega
       obtain⟨b,o',rfl,hG,hbs,hcell⟩:=HH.out.kids (by omega);have hkl:k<kl.length:=by rw[HL.out];omega
       obtain⟨q,j,c',hc4,hkin⟩:=hcell.out k hkl;have hmem:kl[k]∈kl:=List.getElem_mem hkl;have hgx:kl[k]?=some kl[k]:=List.getElem?_eq_getElem hkl;obtain⟨x,hx⟩:∃x,kl[k]=x:=⟨_,rfl⟩
       rw[hx] at hc4 hkin hmem hgx;obtain⟨e0,e1,e2,e3⟩:=hc4.keep (HS.out.2.2.block b hG);have hbr:b<wr.heap.size:=Nat.lt_of_lt_of_le hbs HS.out.2.2.size;have HX:=hid hgx;have hlen:ys.length=1+(preL (kl.take k)).length:=by
        have:=congrArg List.length HS.out.1;simp only[List.length_map,List.length_cons] at this;omega
       rw[preL_len] at hlen;have hcap:cntL (kl.take k)+cnt x<=cntL kl:=by rw[← cntL_take hgx];exact cntL_le _ _
       have HC:=hid (fun W' (hb:Below wr.heap.size wr W')=>(HI.out x hmem (n-1) q j c' (ps++ys) W' (Kin.below (HS.out.2.2.trans (hb.mono (Nat.le_trans HNN.out HS.out.2.2.size))) hkin) (HSZ.out.kid hmem)
        (Nat.le_trans HNN.out (Nat.le_trans HS.out.2.2.size hb.size)) (Nat.le_trans HTT.out (Nat.le_trans HS.out.2.2.size hb.size)) (HJ.out _ _ _ HS.out.2.1 hb) (by rw [List.length_append]; have := HN.out; omega)).mono (R' := fun e W3 =>
          (e=.returned (.bool true)/\Hid (∃zs:List Nd,(ys++zs).map Nd.x=.mk o s nn kl::preL (kl.take (k+1))/\J (ps++(ys++zs)) W3/\Below n₀ W W3))∨(e=.returned (.bool false)/\Hid (∃z:List Nd,z.map Nd.x <+: pre (.mk o s nn kl)/\Jx (ps++z) W3)))
        (fun e W3 h => h.elim (fun ⟨he, zs, hz, hj, hbz⟩ => .inl ⟨he, hid ⟨zs, by rw [List.map_append, HS.out.1, hz, preL_take hgx]; rfl, by rwa [List.append_assoc] at hj, (HS.out.2.2.trans (hb.mono (Nat.le_trans HNN.out HS.out.2.2.size))).trans hbz⟩⟩)
          (fun ⟨he, z, hz, hj⟩ => .inr ⟨he, hid ⟨ys ++ z, by
            rw[List.map_append,HS.out.1,pre_one];obtain⟨r,hr⟩:=hz;have h1:preL kl=preL (kl.take k)++(pre x++preL (kl.drop (k+1))):=by
             have h2:=preL_app (kl.take (k+1)) (kl.drop (k+1));rw[List.take_append_drop,preL_take hgx,List.append_assoc] at h2;exact h2
            refine⟨r++preL (kl.drop (k+1)),?_⟩;rw[h1,← hr];simp only[List.cons_append,List.append_assoc],by rwa [List.append_assoc] at hj⟩⟩)))
       clear hcell hc4 hkin hx hmem hgx hkl hlen hcap HI HJ HSZ
       gi_wp2_with ((try refine⟨hdd _,?_⟩);gi_at_call 145;refine(HC.out _ bl).mono ?_;clear HC;rintro e W3 (⟨rfl,HZ⟩|⟨rfl,HZ⟩))
       · go_roundw
         case rel=>
          obtain⟨zs,h1,h2,h3⟩:=HZ.out;exact⟨k+1,ys++zs,by omega,by go_num,hid ⟨h1,h2,h3⟩⟩
         case measure=>simp[intOf];omega
       · go_ret;exact .inr ⟨rfl,HZ.out⟩
     · obtain rfl:m=k:=by omega
       have HT:Hid (kl.take m=kl):=hid (List.take_of_length_le (by rw[HL.out];exact Nat.le_refl _));rw[HT.out] at HS
       gi_wp2
       go_ret;exact .inl ⟨rfl,ys,by rw[pre_one];exact HS.out.1,HS.out.2⟩
  · go_ret;exact .inr ⟨rfl,[r0],by rw[List.map_cons,HRX.out,pre_one];exact⟨preL kl,rfl⟩,HX2.out⟩
set_option maxRecDepth 100000 in
theorem iter_in (F:Fence) (hd:F.depth=none) (hf:F.fn 145) (hg:F.fn 144) (hro:F.round=none) (n l B n₀ T:Nat) (J Jx:List Nd->World->Prop) (e:Ex)
 (hJ:∀s W W',J s W->Below W.heap.size W W'->J s W')
 (hY : ∀ ps r W, J ps W → ps.length < cnt e → YieldAt F (n - 1) Tryz.prog l (encN r) W fun e W' =>
   (e=.returned (.bool true)/\J (ps++[r]) W'/\Kp n₀ T W W')∨(e=.returned (.bool false)/\Jx (ps++[r]) W'))
 (p:Option Addr) (m c:Nat) (W:World) (hx:box4 W B e.o e.s e.n p m c) (hk:Kin (Lo n₀) W e p m) (hs:Sz e) (hn:n₀<=W.heap.size) (hT:T<=W.heap.size) (h0:J [] W) :
 CallsIn F n Tryz.prog 144 #[.func (.yield l) #[] #[],.pointer (some ⟨B,0,none⟩)] W fun e' W'=>(∃v,e'=.returned v) /\
  ((∃ys,ys.map Nd.x=pre e/\J ys W')∨(∃q,q.map Nd.x <+: pre e/\Jx q W')):=by
 have hdd:∀k:Nat,(F.depth.isSome=true->1<=k):=fun k h=>by rw[hd] at h;cases h
 have hp:=wlkd_in F hd hf hro l n₀ T (cnt e) J Jx hJ (fun m ps r W hj hl=>yield_any_depth hd m (hY ps r W hj hl)) e (n-1) p m c [] W hk hs hn hT h0 (by simp);obtain⟨b0,b1,b2,b3⟩:=hx;clear hY hk hs hn hT h0 hJ;refine callsIn_of_wp Tryz.func144 rfl hg ?_ hro;simp only[Tryz.ntmps144,List.size_toArray,List.length_cons,List.length_nil,Nat.reduceAdd,Nat.reduceSub,Array.replicate_succ,Array.replicate_zero,List.push_toArray,List.append_toArray,List.nil_append,List.cons_append]
 gi_wp2_with ((try refine⟨hdd _,?_⟩);gi_at_call 145;refine hp.mono ?_;clear hp;rintro e W1 (⟨rfl,ys,h1,h2,-⟩|⟨rfl,q,h1,h2⟩))
 · go_end0
   exact⟨⟨_,rfl⟩,.inl ⟨ys,h1,by simpa using h2⟩⟩
 · go_end0
   exact⟨⟨_,rfl⟩,.inr ⟨q,h1,by simpa using h2⟩⟩
theorem nodes_in (F:Fence) (n:Nat) (hf:F.fn 97) (hro:F.round=none) (o:Int) (s:ByteArray) (nn:Int) (p:Option Addr) (m c:Nat) (w:World) :
 CallsIn F n Tryz.prog 97 #[.agg #[.int .i64 o,.string s,.int .i64 nn,.slice p m c]] w fun e w'=>e=.returned (.func (.func 144) #[] #[.pointer (some ⟨w.heap.size,0,none⟩)])/\w'=w.alloc (.cells #[.int .i64 o,.string s,.int .i64 nn,.slice p m c] 41):=by
 refine callsIn_of_wp Tryz.func97 rfl hf ?_ hro;simp only[Tryz.ntmps97,List.size_toArray,List.length_cons,List.length_nil,Nat.reduceAdd,Nat.reduceSub,Array.replicate_succ,Array.replicate_zero,List.push_toArray,List.append_toArray,List.nil_append,List.cons_append]
 gi_wp2
 go_ret;exact⟨rfl,rfl⟩
theorem nodes_stops (F:Fence) (hd:F.depth=none) (hf:F.fn 145) (hg:F.fn 144) (hro:F.round=none) (n B n₀ T:Nat) (e:Ex) (p:Option Addr) (m c:Nat) (w:World) (hx:box4 w B e.o e.s e.n p m c) (hk:Kin (Lo n₀) w e p m) (hs:Sz e) (hn:n₀<=w.heap.size) (hT:T<=w.heap.size) :
 SeqStopsK F n Tryz.prog 144 #[.pointer (some ⟨B,0,none⟩)] encN (Kp n₀ T) (fun ys=>ys.map Nd.x=pre e) (fun q=>q.map Nd.x <+: pre e) (cnt e) w:=fun l J Jx W hW hJ _ hY h0=>
 iter_in F hd hf hg hro n l B n₀ T J Jx e (fun s W W' h hb=>abides_below hJ h hb) hY p m c W (hx.on hW) (hk.below (hW.mono hn)) hs (Nat.le_trans hn hW.size) (Nat.le_trans hT hW.size) h0
end Go.Proofs.YtbgodajefaahdaaGreatDoor.Ex
namespace Go.Proofs.YtbgodajefaahdaaGreatDoor.Sm
open Go.RowKit Go.Shelf
open Go.Proofs.YtbgodajefaahdaaGreatDoor.Ex (Lo block_lt yield_any_depth abides_below)
attribute [local go_sem] Oper.semAt_some
attribute [local go_sem] cs0 cs1 cs2 cs3 cs4 cs5 cs6 cs7 cs8 cs9 cs10 cs11 cs12 cs13 cs14 cs15 cs16 cs17 cs18 cs19 cs20
set_option maxHeartbeats 400000
structure Nd (n₀:Nat) (W0:World) where
 x:St
 P:Pl
 hi:Sin (Lo n₀) W0 x P
 hs:SzS x
def encN {n₀:Nat} {W0:World} (r:Nd n₀ W0):Array Value:=#[.agg (cs r.x r.P)]
structure Kp (n₀ T:Nat) (W W':World):Prop where
 below:Below n₀ W W'
 same:∀(k:Nat) (C:Array Value) (fr:Nat×Nat),T<=k->W.heap[k]?=some (.cells C 60 fr)->W'.heap[k]?=some (.cells C 60 fr)
theorem Kp.refl (n₀ T:Nat) (W:World):Kp n₀ T W W:=⟨Below.refl _ _,fun _ _ _ _ h=>h⟩
theorem Kp.trans {n₀ T:Nat} {A B C:World} (h:Kp n₀ T A B) (k:Kp n₀ T B C):Kp n₀ T A C:=⟨h.below.trans k.below,fun i c fr hi hc=>k.same i c fr hi (h.same i c fr hi hc)⟩
theorem Kp.of_below {n₀ T:Nat} {W W':World} (h:Below W.heap.size W W') (hn:n₀<=W.heap.size):Kp n₀ T W W':=⟨h.mono hn,fun k c fr _ hc=>(h.block k (Array.getElem?_eq_some_iff.1 hc).1).trans hc⟩
theorem Kp.box {n₀ T g:Nat} {W W':World} {x:St} {P:Pl} (h:Kp n₀ T W W') (hT:T<=g) (hb:box21 W g x P):box21 W' g x P:=h.same g _ _ hT hb
theorem Kp.put {n₀ T:Nat} {w:World} (hn:n₀<=w.heap.size) (W:World) (l:Nat) (o o':Obj) (hl:w.heap.size<=l) (h:W.heap[l]?=some o) (h1:o.isCells=false) (h2:o.isWalk=false):Kp n₀ T W (W.putObj l o'):=
 ⟨belowK_b hn W l o o' hl h h1 h2, fun k c fr _ hc => by
   rw[World.putObj_heap_other]
   · exact hc
   · intro e;subst e;rw[h] at hc;cases hc
     cases h1⟩
theorem Kp.set {n₀ T:Nat} {W:World} {B:Nat} (h0:n₀<=B) (hT:B<T) (v:Value):Kp n₀ T W (W.setCell ⟨B,0,none⟩ v):=
 ⟨(Below.refl n₀ W).setCell (p:=⟨B,0,none⟩) h0 v,fun k c fr hk hc=>((grownBy_setCell' W B v).block k (Array.getElem?_eq_some_iff.1 hc).1 (fun e=>by cases e;omega)).trans hc⟩
theorem ord_pre {sl:List St} {k:Nat} {x:St} {q:List St} (h:sl[k]?=some x) (hq:q <+: ord x):ordL (sl.take k)++q <+: ordL sl:=by
 have h2:=ordL_app (sl.take (k+1)) (sl.drop (k+1));rw[List.take_append_drop,ordL_take h,List.append_assoc] at h2;rw[h2,List.prefix_append_right_inj];exact hq.trans (List.prefix_append _ _)
theorem ord_pre0 (x:St):[x] <+: ord x:=by rw[ord_one];exact⟨_,rfl⟩
theorem ord_pre1 {x:St} {q:List St} (h:q <+: ordL x.bo):x::q <+: ord x:=by
 rw[ord_one,List.cons_prefix_cons];exact⟨rfl,h.trans (List.prefix_append _ _)⟩
theorem ord_pre2 {x:St} {q:List St} (h:q <+: ordL x.el):x::(ordL x.bo++q) <+: ord x:=by
 rw[ord_one,List.cons_prefix_cons];exact⟨rfl,by rw[List.prefix_append_right_inj];exact h⟩
set_option maxRecDepth 100000 in
theorem wlkd_in (F:Fence) (hd:F.depth=none) (hf:F.fn 83) (hro:F.round=none) (l n₀ T N:Nat) (W0:World) (hn:n₀<=W0.heap.size) (J Jx:List (Nd n₀ W0)->World->Prop)
 (hJ:∀s W W',J s W->Below W.heap.size W W'->J s W')
 (hY : ∀ m ps r W, J ps W → ps.length < N → YieldAt F m Tryz.prog l (encN r) W fun e W' =>
   (e=.returned (.bool true)/\J (ps++[r]) W'/\Kp n₀ T W W')∨(e=.returned (.bool false)/\Jx (ps++[r]) W')) (sl:List St) :
 ∀(n:Nat) (p:Option Addr) (m c:Nat) (ps:List (Nd n₀ W0)) (W:World),Lin (Lo n₀) W0 sl p m->SzL sl->Below n₀ W0 W->T<=W.heap.size->J ps W->ps.length+cnL sl<=N ->
  CallsIn F n Tryz.prog 83 #[.slice p m c,.func (.yield l) #[] #[]] W fun r W'=>
   (r=.returned (.bool true)/\∃ys,ys.map Nd.x=ordL sl/\J (ps++ys) W'/\Kp n₀ T W W')∨(r=.returned (.bool false)/\∃q,q.map Nd.x <+: ordL sl/\Jx (ps++q) W'):=by
 induction sl using lst_ind with
 | h sl ih=>
  intro n p m c ps W ht hsz hb0 hT hJ0 hN;have hdd:∀k:Nat,(F.depth.isSome=true->1<=k):=fun k h=>by rw[hd] at h;cases h
  obtain⟨hl,hm⟩:=ht.len;have HH:=hid ht;have HI:=hid ih;have HL:=hid hl;have HSZ:=hid hsz;have HJ:=hid hJ;have HY:=hid hY;have HN:=hid hN;have HB0:=hid hb0;have HNN:=hid hn;have HTT:=hid hT;have HJ0:=hid hJ0;clear hY hJ hJ0 hN ih ht hsz hn hT hl hb0;obtain⟨n21,hn21⟩:∃n:Nat,21=n:=⟨_,rfl⟩
  have hsz:∀w,(sizeOf 60).run Tryz.prog w=.ok n21 w:=fun w=>by rw[Tryz.sizeOf60,hn21]
  have HN21:=hid hn21;clear hn21;refine callsIn_of_wp Tryz.func83 rfl hf ?_ hro;simp only[Tryz.ntmps83,List.size_toArray,List.length_cons,List.length_nil,Nat.reduceAdd,Nat.reduceSub,Array.replicate_succ,Array.replicate_zero,List.push_toArray,List.append_toArray,List.nil_append,List.cons_append]
  gi_wp2_with fail
  gi_loopw [9] (fun i wr=>∃(k:Nat) (ys:List (Nd n₀ W0)),k<=m/\i=.int .i64 (k:Nat)/\Hid (ys.map Nd.x=ordL (sl.take k)/\J (ps++ys) wr/\Kp n₀ T W wr)) (fun i _=>m-(intOf i).toNat)
  case atStart=>exact⟨0,[],Nat.zero_le _,rfl,hid ⟨by rw[List.take_zero,ordL];rfl,by rw[List.append_nil];exact HJ0.out,Kp.refl _ _ _⟩⟩
  case round=>
   obtain⟨k,ys,hk,rfl,HS⟩:=hrel;have k0:(0:Int)<=(k:Int):=by omega
   rcases Nat.lt_or_ge k m with h|h
   · have k1:(k:Int)<(m:Int):=by omega
     obtain⟨b,o',rfl,hG,hbs,hcell⟩:=HH.out.rows (by omega);have hkl:k<sl.length:=by rw[HL.out];omega
     obtain⟨P,hc21,hsin⟩:=hcell.out k hkl;have hmem:sl[k]∈sl:=List.getElem_mem hkl;have hgx:sl[k]?=some sl[k]:=List.getElem?_eq_getElem hkl;obtain⟨x,hx⟩:∃x,sl[k]=x:=⟨_,rfl⟩
     rw[hx] at hc21 hsin hmem hgx;have HSIN:=hid hsin;have HX:=hid hgx;have HM:=hid hmem;have HB1:=hid (HB0.out.trans HS.out.2.2.below);have hcw:=(hc21.keep (HB1.out.block b hG)).at HN21.out;have hbr:b<wr.heap.size:=Nat.lt_of_lt_of_le hbs HB1.out.size;have hcsz:(cs x P).size=n21:=HN21.out;have ld1:=(hcw).ldN HN21.out;have ld2:=(hcw).loadVar;have ld3:=(hcw).loadAt;have st1:=st_store x P;have st2:=st_storeVar x P;have st3:=st_storeAt x P;clear hcell hc21 hsin hx hmem hgx hkl hcw
     gi_wp2_with fail
     have hbW:Below wr.heap.size wr (wr.alloc (.cells (cs x P) 60)):=bl;have hle:=HB1.out.size;have hcap:cnL (sl.take k)+cn x<=cnL sl:=by rw[← cnL_take HX.out];exact cnL_le _ _
     have hcn:=cn_one x;have hlen:ys.length=cnL (sl.take k):=by
      have:=congrArg List.length HS.out.1;rwa [List.length_map,ordL_len] at this
     have hN:=HN.out;have hnn:=HNN.out;have hTT:=HTT.out;have hsw:=HS.out.2.2.below.size;have hy:=HY.out (n-1) (ps++ys) ⟨x,P,HSIN.out,HSZ.out.mem HM.out⟩ _ (HJ.out _ _ _ HS.out.2.1 hbW) (by rw[List.length_append];omega);obtain⟨r0,hr0⟩:∃r0:Nd n₀ W0,r0=⟨x,P,HSIN.out,HSZ.out.mem HM.out⟩:=⟨_,rfl⟩
     rw[← hr0] at hy;have hr1:encN r0=#[.agg (cs x P)]:=by rw[hr0];rfl
     have HR0:Hid (r0.x=x):=hid (by rw[hr0]);rw[hr1] at hy;clear hr0 hr1;have HBW:=hid hbW;have hy2:=YieldAt.mono hy (R':=fun e W2=>(e=.returned (.bool true)/\Hid (J (ps++(ys++[r0])) W2)/\Hid (Kp n₀ T W W2)/\Hid (box21 W2 wr.heap.size x P)/\Hid (wr.heap.size<W2.heap.size))∨(e=.returned (.bool false)/\Hid (Jx (ps++(ys++[r0])) W2)))
      (fun e W2 h=>h.elim (fun⟨he,hj,hk⟩=>.inl ⟨he,hid (by rwa [List.append_assoc] at hj),hid ((HS.out.2.2.trans (Kp.of_below HBW.out (by omega))).trans hk),hid (hk.box (by omega) box_new21),hid (hk.box (by omega) box_new21).lt⟩) fun⟨he,hj⟩=>.inr ⟨he,hid (by rwa [List.append_assoc] at hj)⟩)
     obtain⟨fn,tmps,assign,body,hy3,hR⟩:=hy2;have ldb:=(box21.cell (box_new21 (w:=wr) (x:=x) (P:=P))).ldN HN21.out;have HI0:=HI.out x HM.out;have HLE:Hid (ps.length+(ys.length+cn x)<=N):=hid (by omega);have HCN:=hid hcn;have HSX:=hid (HSZ.out);have HWW:Hid (n₀<=W.heap.size/\T<=W.heap.size):=hid ⟨by have:=HB0.out.size;omega,hTT⟩;clear hy hbW hle hcap hcn hlen hN hnn hTT hsw
     go_simp
     gi_wp2_with ((try refine⟨hdd _,?_⟩);refine hR.mono ?_;clear hR;rintro e W2 (⟨rfl,HJ2,HK2,HX2,HZ2⟩|⟨rfl,HX2⟩) <;> (try have q19:=HX2.out.c19))
     · refine((HI0.1 (n-1) P.bp P.bm P.bc (ps++(ys++[r0])) W2 HSIN.out.bo (HSX.out.bo HM.out) (HB0.out.trans HK2.out.below) (Nat.le_trans HWW.out.2 HK2.out.below.size) HJ2.out (by simp only[List.length_append,List.length_cons,List.length_nil];have:=HLE.out;have:=HCN.out;omega))).mono ?_;rintro e W3 (⟨rfl,zs,hz1,hz2,hz3⟩|⟨rfl,q,hq1,hq2⟩)
       · have HX3:=hid (hz3.box (Nat.le_trans HWW.out.2 HS.out.2.2.below.size) HX2.out);have q20:=HX3.out.c20;have HK3:=hid (HK2.out.trans hz3);have HJ3:=hid hz2;have HZ3:=hid hz1;clear hz1 hz2 hz3;have hzl:zs.length=cnL x.bo:=by
          have:=congrArg List.length HZ3.out;rwa [List.length_map,ordL_len] at this
         have HZL:=hid hzl;clear hzl
         gi_wp2_with fail
         refine((HI0.2 (n-1) P.lp P.lm P.lc (ps++(ys++[r0])++zs) W3 HSIN.out.el (HSX.out.el HM.out) (HB0.out.trans HK3.out.below) (Nat.le_trans HWW.out.2 HK3.out.below.size) HJ3.out (by simp only[List.length_append,List.length_cons,List.length_nil];have:=HLE.out;have:=HCN.out;have:=HZL.out;omega))).mono ?_;rintro e W4 (⟨rfl,us,hu1,hu2,hu3⟩|⟨rfl,q,hq1,hq2⟩)
         · have HK4:=hid (HK3.out.trans hu3);have HR:Hid ((ys++([r0]++(zs++us))).map Nd.x=ordL (sl.take (k+1))/\J (ps++(ys++([r0]++(zs++us)))) W4/\Kp n₀ T W W4):=hid ⟨by
            rw[ordL_take HX.out,List.map_append,HS.out.1,List.map_append,List.map_append,HZ3.out,hu1,ord_one];simp only[List.map_cons,List.map_nil,HR0.out,List.cons_append,List.nil_append],by simpa [List.append_assoc] using hu2,HK4.out⟩
           clear hu1 hu2 hu3
           gi_wp2_with fail
           go_roundw
           case rel=>exact⟨k+1,_,by omega,by go_num,HR⟩
           case measure=>simp[intOf];omega
         · have HR:Hid (∃q:List (Nd n₀ W0),q.map Nd.x <+: ordL sl/\Jx (ps++q) W4):=hid ⟨ys++([r0]++(zs++q)),by
            rw[List.map_append,HS.out.1,List.map_append,List.map_append,HZ3.out];refine ord_pre HX.out ?_;simp only[List.map_cons,List.map_nil,HR0.out,List.cons_append,List.nil_append];exact ord_pre2 hq1,by simpa [List.append_assoc] using hq2⟩
           clear hq1 hq2
           gi_wp2_with fail
           go_ret;exact .inr ⟨rfl,HR.out⟩
       · have HR:Hid (∃q:List (Nd n₀ W0),q.map Nd.x <+: ordL sl/\Jx (ps++q) W3):=hid ⟨ys++([r0]++q),by
          rw[List.map_append,HS.out.1,List.map_append];refine ord_pre HX.out ?_;simp only[List.map_cons,List.map_nil,HR0.out,List.cons_append,List.nil_append];exact ord_pre1 hq1,by simpa [List.append_assoc] using hq2⟩
         clear hq1 hq2
         gi_wp2_with fail
         go_ret;exact .inr ⟨rfl,HR.out⟩
     · go_ret;exact .inr ⟨rfl,ys++[r0],by
        rw[List.map_append,HS.out.1];refine ord_pre HX.out ?_;simp only[List.map_cons,List.map_nil,HR0.out];exact ord_pre0 x,HX2.out⟩
   · obtain rfl:m=k:=by omega
     have HT:Hid (sl.take m=sl):=hid (List.take_of_length_le (by rw[HL.out];exact Nat.le_refl _));rw[HT.out] at HS
     gi_wp2
     go_ret;exact .inl ⟨rfl,ys,HS.out⟩
set_option maxRecDepth 100000 in
theorem iter_in (F:Fence) (hd:F.depth=none) (hf:F.fn 83) (hg:F.fn 82) (hro:F.round=none) (n l B n₀ T:Nat) (W0:World) (hn:n₀<=W0.heap.size) (J Jx:List (Nd n₀ W0)->World->Prop) (sl:List St)
 (hJ:∀s W W',J s W->Below W.heap.size W W'->J s W')
 (hY : ∀ ps r W, J ps W → ps.length < cnL sl → YieldAt F (n - 1) Tryz.prog l (encN r) W fun e W' =>
   (e=.returned (.bool true)/\J (ps++[r]) W'/\Kp n₀ T W W')∨(e=.returned (.bool false)/\Jx (ps++[r]) W'))
 (p:Option Addr) (m c:Nat) (W:World) (hx:W.cell? ⟨B,0,none⟩=some (.slice p m c)) (hk:Lin (Lo n₀) W0 sl p m) (hs:SzL sl) (hb:Below n₀ W0 W) (hT:T<=W.heap.size) (h0:J [] W) :
 CallsIn F n Tryz.prog 82 #[.func (.yield l) #[] #[],.pointer (some ⟨B,0,none⟩)] W fun e' W'=>(∃v,e'=.returned v) /\
  ((∃ys,ys.map Nd.x=ordL sl/\J ys W')∨(∃q,q.map Nd.x <+: ordL sl/\Jx q W')):=by
 have hdd:∀k:Nat,(F.depth.isSome=true->1<=k):=fun k h=>by rw[hd] at h;cases h
 have hp:=wlkd_in F hd hf hro l n₀ T (cnL sl) W0 hn J Jx hJ (fun m ps r W hj hl=>yield_any_depth hd m (hY ps r W hj hl)) sl (n-1) p m c [] W hk hs hb hT h0 (by simp);clear hY hk hs hn hT h0 hJ;refine callsIn_of_wp Tryz.func82 rfl hg ?_ hro;simp only[Tryz.ntmps82,List.size_toArray,List.length_cons,List.length_nil,Nat.reduceAdd,Nat.reduceSub,Array.replicate_succ,Array.replicate_zero,List.push_toArray,List.append_toArray,List.nil_append,List.cons_append]
 gi_wp2_with ((try refine⟨hdd _,?_⟩);gi_at_call 83;refine hp.mono ?_;clear hp;rintro e W1 (⟨rfl,ys,h1,h2,-⟩|⟨rfl,q,h1,h2⟩))
 · go_end0
   exact⟨⟨_,rfl⟩,.inl ⟨ys,h1,by simpa using h2⟩⟩
 · go_end0
   exact⟨⟨_,rfl⟩,.inr ⟨q,h1,by simpa using h2⟩⟩
theorem statements_in (F:Fence) (n:Nat) (hf:F.fn 44) (hro:F.round=none) (p:Option Addr) (m c:Nat) (w:World) :
 CallsIn F n Tryz.prog 44 #[.slice p m c] w fun e w'=>e=.returned (.func (.func 82) #[] #[.pointer (some ⟨w.heap.size,0,none⟩)])/\w'=w.alloc (.cells #[.slice p m c] 31):=by
 refine callsIn_of_wp Tryz.func44 rfl hf ?_ hro;simp only[Tryz.ntmps44,List.size_toArray,List.length_cons,List.length_nil,Nat.reduceAdd,Nat.reduceSub,Array.replicate_succ,Array.replicate_zero,List.push_toArray,List.append_toArray,List.nil_append,List.cons_append]
 gi_wp2
 go_ret;exact⟨rfl,rfl⟩
theorem stmts_stops (F:Fence) (hd:F.depth=none) (hf:F.fn 83) (hg:F.fn 82) (hro:F.round=none) (n B n₀ T:Nat) (W0:World) (hn:n₀<=W0.heap.size) (sl:List St) (p:Option Addr) (m c:Nat) (w:World) (hx:w.cell? ⟨B,0,none⟩=some (.slice p m c)) (hk:Lin (Lo n₀) W0 sl p m) (hs:SzL sl) (hb:Below n₀ W0 w) (hT:T<=w.heap.size) :
 SeqStopsK F n Tryz.prog 82 #[.pointer (some ⟨B,0,none⟩)] (encN (n₀:=n₀) (W0:=W0)) (Kp n₀ T) (fun ys=>ys.map Nd.x=ordL sl) (fun q=>q.map Nd.x <+: ordL sl) (cnL sl) w:=fun l J Jx W hW hJ _ hY h0=>
 iter_in F hd hf hg hro n l B n₀ T W0 hn J Jx sl (fun s W W' h hb=>abides_below hJ h hb) hY p m c W ((hW.cell (p:=⟨B,0,none⟩) (block_lt hx)).trans hx) hk hs (hb.trans (hW.mono (Nat.le_trans hn hb.size))) (Nat.le_trans hT hW.size) h0
end Go.Proofs.YtbgodajefaahdaaGreatDoor.Sm
namespace Go.Proofs.YtbgodajefaahdaaGreatDoor.Ex
open Go.RowKit Go.Shelf
attribute [local go_sem] Oper.semAt_some
set_option maxHeartbeats 2000000
theorem cell_of_box {W:World} {B:Nat} {v:Value} {t:TypeId} (h:W.heap[B]?=some (.cells #[v] t (0,0))):W.cell? ⟨B,0,none⟩=some v/\W.frozen? ⟨B,0,none⟩=false:=by
 constructor <;> simp[World.cell?,World.frozen?,h]
theorem cell_new (W:World) (v:Value) (t:TypeId):(W.alloc (.cells #[v] t)).cell? ⟨W.heap.size,0,none⟩=some v/\(W.alloc (.cells #[v] t)).frozen? ⟨W.heap.size,0,none⟩=false:=
 cell_of_box (World.alloc_heap_new W _)
theorem cell_alloc_on {W:World} {a:Addr} {v:Value} (o:Obj) (h:W.cell? a=some v):(W.alloc o).cell? a=some v:=cell_kept h (World.grownBy_alloc W o none) (fun r e=>by cases e)
theorem frozen_alloc_on {W:World} {a:Addr} {v:Value} (o:Obj) (h:W.cell? a=some v) (hf:W.frozen? a=false):(W.alloc o).frozen? a=false:=(frozen_kept h (World.grownBy_alloc W o none) (fun r e=>by cases e)).trans hf
theorem set_other {W:World} {a B:Nat} {v:Value} (h:W.cell? ⟨a,0,none⟩=some v) (hne:a≠B) (u:Value):(W.setCell ⟨B,0,none⟩ u).cell? ⟨a,0,none⟩=some v:=
 (World.cell?_of_block (a:=⟨a,0,none⟩) ((grownBy_setCell' W B u).block a (block_lt h) (fun e=>hne (by cases e;rfl)))).trans h
theorem below_set {n₀ g k:Nat} {a W:World} (h:Below n₀ a W) (hg:n₀<=g) (v:Value):Below n₀ a (W.setCell ⟨g,k,none⟩ v):=h.setCell (p:=⟨g,k,none⟩) hg v
theorem map_len {ys:List Nd} {e:Ex} (h:ys.map Nd.x=pre e):ys.length=cnt e:=by
 have:=congrArg List.length h;rwa [List.length_map,pre_len] at this
theorem prefix_len {q:List Nd} {e:Ex} (h:q.map Nd.x <+: pre e):q.length<=cnt e:=by
 have:=h.length_le;rwa [List.length_map,pre_len] at this
theorem zDL_0 {p:Prop} (h:p:=by omega):p:=h
theorem zDL_1 {p:Prop} (h:p:=by simp;omega):p:=h
set_option maxRecDepth 100000 in
theorem more_any (e:Ex) (p:Option Addr) (m c:Nat) (w:World) (h:In w e p m) (hs:Sz e) (hc:cnt e<=1000000):Calls Tryz.prog 95 #[.agg #[.int .i64 e.o,.string e.s,.int .i64 e.n,.slice p m c],.int .i64 60] w (Gives (.bool (decide (60<cnt e))) w):=by
 obtain⟨o,s,nn,kl⟩:=e;simp only[Ex.o,Ex.s,Ex.n];have HH:=hid h;have HS:=hid hs;have HC:=hid hc;clear h hs hc;refine(callsIn_wide (n:=3)).1 ?_;refine callsIn_of_wp_marks Tryz.func95 rfl trivial ?_ rfl;simp only[Tryz.ntmps95,List.size_toArray,List.length_cons,List.length_nil,Nat.reduceAdd,Nat.reduceSub,Array.replicate_succ,Array.replicate_zero,List.push_toArray,List.append_toArray,List.nil_append,List.cons_append]
 gi_wp2_with (refine⟨trivial,?_⟩;gi_at_call 97;refine(nodes_in Fence.wide _ trivial rfl _ _ _ _ _ _ _).mono ?_;rintro e w' ⟨rfl,rfl⟩)
 obtain⟨w1,hw1⟩:∃w1,w.alloc (.cells #[.int .i64 o,.string s,.int .i64 nn,.slice p m c] 41)=w1:=⟨_,rfl⟩
 have hz1:w1.heap.size=w.heap.size+1:=by rw[← hw1];simp
 have hb1:Below w.heap.size w w1:=by rw[← hw1];exact bl
 obtain⟨w2,hw2⟩:∃w2,w1.alloc (.cells #[.int .i64 60] 3)=w2:=⟨_,rfl⟩
 have hz2:w2.heap.size=w.heap.size+2:=by rw[← hw2];simp[hz1]
 have hb2:Below w1.heap.size w1 w2:=by rw[← hw2];exact bl
 have h2:=cell_new w1 (.int .i64 60) 3;rw[hw2] at h2;obtain⟨w3,hw3⟩:∃w3,w2.alloc (.cells #[.bool false] 4)=w3:=⟨_,rfl⟩
 have hz3:w3.heap.size=w.heap.size+3:=by rw[← hw3];simp[hz2]
 have hb3:Below w2.heap.size w2 w3:=by rw[← hw3];exact bl
 have h3:=cell_new w2 (.bool false) 4;rw[hw3] at h3;obtain⟨w4,hw4⟩:∃w4,w3.alloc (.cells #[.int .i64 0] 3)=w4:=⟨_,rfl⟩
 have hz4:w4.heap.size=w.heap.size+4:=by rw[← hw4];simp[hz3]
 have hb4:Below w3.heap.size w3 w4:=by rw[← hw4];exact bl
 have h4:=cell_new w3 (.int .i64 0) 3;rw[hw4] at h4;obtain⟨w5,hw5⟩:∃w5,w4.alloc (.cells #[.int .i64 o,.string s,.int .i64 nn,.slice p m c] 41)=w5:=⟨_,rfl⟩
 have hz5:w5.heap.size=w.heap.size+5:=by rw[← hw5];simp[hz4]
 have hb5:Below w4.heap.size w4 w5:=by rw[← hw5];exact bl
 have h5:=box_new (w:=w4) (o:=o) (s:=s) (n:=nn) (p:=p) (m:=m) (c:=c) (t:=41);rw[hw5] at h5;have g2:w5.cell? ⟨w1.heap.size,0,none⟩=some (.int .i64 60):=(hb5.cell zDL_1).trans ((hb4.cell zDL_1).trans ((hb3.cell zDL_1).trans h2.1));have g3:w5.cell? ⟨w2.heap.size,0,none⟩=some (.bool false):=(hb5.cell zDL_1).trans ((hb4.cell zDL_1).trans h3.1);have g3f:w5.frozen? ⟨w2.heap.size,0,none⟩=false:=(hb5.frozen zDL_1).trans ((hb4.frozen zDL_1).trans h3.2);have g4:w5.cell? ⟨w3.heap.size,0,none⟩=some (.int .i64 0):=(hb5.cell zDL_1).trans h4.1;have g4f:w5.frozen? ⟨w3.heap.size,0,none⟩=false:=(hb5.frozen zDL_1).trans h4.2;have hb:Below w.heap.size w w5:=hb1.trans ((hb2.mono zDL_0).trans ((hb3.mono zDL_0).trans ((hb4.mono zDL_0).trans (hb5.mono zDL_0))));rw[hz1] at g2;rw[hz2] at g3 g3f;rw[hz3] at g4 g4f;rw[hz4] at h5;rw[hw1,hw2,hw3,hw4,hw5];clear hw1 hw2 hw3 hw4 hw5 hb1 hb2 hb3 hb4 hb5 h2 h3 h4 hz1 hz2 hz3 hz4;refine wpIn_rangeFunc_ownG rfl zDL_0 (gf:=144) (lb:=#[.pointer (some ⟨w.heap.size+1+1+1+1,0,none⟩)]) rfl trivial (enters_of Tryz.func144 (by kernel_rfl) rfl)
  (nodes_stops Fence.wide rfl trivial trivial rfl _ (w.heap.size+1+1+1+1) w.heap.size w5.heap.size (.mk o s nn kl) p m c w5 h5 (HH.out.below hb) HS.out zDL_0 (Nat.le_refl _)) (fun h k=>h.trans k) (Kp.put zDL_0) (Below.refl _ _) (fun _=>rfl)
  (fun ps W=>((W.cell? ⟨w.heap.size+1+1+1,0,none⟩=some (.int .i64 (ps.length:Nat))/\W.frozen? ⟨w.heap.size+1+1+1,0,none⟩=false)/\W.cell? ⟨w.heap.size+1,0,none⟩=some (.int .i64 60)/\W.cell? ⟨w.heap.size+1+1,0,none⟩=some (.bool false)/\W.frozen? ⟨w.heap.size+1+1,0,none⟩=false/\ps.length<=60)/\Below w.heap.size w W)
  (fun c ps W=>(c=.ret/\60<ps.length/\W.cell? ⟨w.heap.size+1+1,0,none⟩=some (.bool true))/\Below w.heap.size w W)
  (OwnFrom.and (Own.from (fun s A B row hs hg hr=>⟨⟨cell_kept hs.1.1 hg hr,(frozen_kept hs.1.1 hg hr).trans hs.1.2⟩,cell_kept hs.2.1 hg hr,cell_kept hs.2.2.1 hg hr,(frozen_kept hs.2.2.1 hg hr).trans hs.2.2.2.1,hs.2.2.2.2⟩) _) (ownFrom_below (Nat.le_refl _) zDL_0))
  (fun c=>OwnFrom.and (Own.from (fun s A B row hs hg hr=>⟨hs.1,hs.2.1,cell_kept hs.2.2 hg hr⟩) _) (ownFrom_below (Nat.le_refl _) zDL_0))
  ⟨⟨⟨g4,g4f⟩,g2,g3,g3f,by simp⟩,hb⟩
  (fun x=>{ tmps:=#[.agg #[.int .i64 o,.string s,.int .i64 nn,.slice p m c],.int .i64 60,.pointer (some ⟨w.heap.size,0,none⟩),.pointer (some ⟨w.heap.size+1,0,none⟩),.pointer (some ⟨w.heap.size+1+1,0,none⟩),.pointer (some ⟨w.heap.size+1+1+1,0,none⟩),.agg #[.int .i64 o,.string s,.int .i64 nn,.slice p m c],.func (.func 144) #[] #[.pointer (some ⟨w.heap.size+1+1+1+1,0,none⟩)],.agg #[.int .i64 x.x.o,.string x.x.s,.int .i64 x.x.n,.slice x.p x.m x.c],undef,undef,undef,undef,undef],defers:=[] }) ?assign ?body ?done ?stop
 case assign=>
  intro l x W K hK;simp only[encN]
  gi_wp2
  simp[go_sem]
  exact hK
 case body=>
  rintro l ps x W ⟨⟨⟨hc,hf⟩,h60,hr,hrf,hle⟩,hB⟩ hlt;have hlt2:(ps.length:Int)<=60:=by omega
  by_cases h6:ps.length=60
  · have e6:(ps.length:Int)=60:=by omega
    rw[e6] at hc;clear hlt2 e6
    gi_wp2
    refine⟨((KeepsOthers.setCell _ _ _).trans (KeepsOthers.setCell _ _ _)).from _,⟨rfl,by rw[List.length_append,h6];simp,?_⟩,below_set (below_set hB zDL_0 _) zDL_0 _⟩;exact World.cell?_setCell_same' _ _ _ (by rw[set_other hr zDL_0];rfl)
  · have l6:(ps.length:Int)+1<=60:=by omega
    gi_wp2
    refine⟨(KeepsOthers.setCell _ _ _).from _,Kp.set zDL_0 zDL_0 _,⟨⟨?_,by rw[World.frozen?_setCell];exact hf⟩,?_,?_,by rw[World.frozen?_setCell];exact hrf,by rw[List.length_append];simp;omega⟩,below_set hB zDL_0 _⟩
    · rw[World.cell?_setCell_same' _ _ _ (by rw[hc];rfl),List.length_append]
      congr 2
    · exact set_other h60 zDL_0 _
    · exact set_other hr zDL_0 _
 case done=>
  rintro D ys W hD hys ⟨⟨⟨hc,hf⟩,h60,hr,hrf,hle⟩,hB⟩ hK;have hl:=map_len hys;have hv:decide (60<cnt (.mk o s nn kl))=false:=decide_eq_false zDL_0;have HV:=hid hv
  gi_wp2
  have hK':=(KeepsOthers.setCell W ⟨w.heap.size+1+1,0,none⟩ (.bool false)).same D _ hK rfl;refine⟨by simp,.inl ⟨_,_,rfl,run_takeDeferred hK',?_⟩⟩;have hc5:=cell_kept (World.cell?_setCell_same' W ⟨w.heap.size+1+1,0,none⟩ (.bool false) (by rw[hr];rfl)) (grownBy_putObj' _ D (.deferred none)) (fun r e=>by cases e;exact⟨_,hK',rfl⟩);refine⟨.bool false,?_,by rw[HV.out],(below_set hB zDL_0 _).trans (belowK_b (w:=w) (Nat.le_refl _) _ D _ _ zDL_0 hK' rfl rfl)⟩;simp[results,Tryz.f95,go_sem,hc5]
 case stop=>
  rintro D c ps W hD hps ⟨⟨rfl,h6,hr⟩,hB⟩ hK;have hl:=prefix_len hps;have hv:decide (60<cnt (.mk o s nn kl))=true:=decide_eq_true zDL_0;have HV:=hid hv
  gi_wp2
  refine⟨by simp,.inl ⟨_,_,rfl,run_takeDeferred hK,?_⟩⟩;have hc5:=cell_kept hr (grownBy_putObj' _ D (.deferred none)) (fun r e=>by cases e;exact⟨_,hK,rfl⟩);refine⟨.bool true,?_,by rw[HV.out],hB.trans (belowK_b (w:=w) (Nat.le_refl _) W D _ _ zDL_0 hK rfl rfl)⟩;simp[results,Tryz.f95,go_sem,hc5]
end Go.Proofs.YtbgodajefaahdaaGreatDoor.Ex
namespace Go.Proofs.YtbgodajefaahdaaGreatDoor.Sm
open Go.RowKit Go.Shelf
open Go.Proofs.YtbgodajefaahdaaGreatDoor.Ex (Gives cell_new set_other below_set)
attribute [local go_sem] Oper.semAt_some
set_option maxHeartbeats 1000000
theorem map_len {n₀:Nat} {W0:World} {ys:List (Nd n₀ W0)} {sl:List St} (h:ys.map Nd.x=ordL sl):ys.length=cnL sl:=by
 have:=congrArg List.length h;rwa [List.length_map,ordL_len] at this
theorem prefix_len {n₀:Nat} {W0:World} {q:List (Nd n₀ W0)} {sl:List St} (h:q.map Nd.x <+: ordL sl):q.length<=cnL sl:=by
 have:=h.length_le;rwa [List.length_map,ordL_len] at this
theorem zDM_0 {p:Prop} (h:p:=by omega):p:=h
theorem zDM_1 {p:Prop} (h:p:=by simp;omega):p:=h
set_option maxRecDepth 100000 in
theorem more_any (sl:List St) (p:Option Addr) (m c:Nat) (w:World) (h:LIn w sl p m) (hs:SzL sl):Calls Tryz.prog 42 #[.slice p m c,.int .i64 200] w (Gives (.bool (decide (200<cnL sl))) w):=by
 have HH:=hid h;have HS:=hid hs;clear h hs;refine(callsIn_wide (n:=3)).1 ?_;refine callsIn_of_wp_marks Tryz.func42 rfl trivial ?_ rfl;simp only[Tryz.ntmps42,List.size_toArray,List.length_cons,List.length_nil,Nat.reduceAdd,Nat.reduceSub,Array.replicate_succ,Array.replicate_zero,List.push_toArray,List.append_toArray,List.nil_append,List.cons_append]
 gi_wp2_with (refine⟨trivial,?_⟩;gi_at_call 44;refine(statements_in Fence.wide _ trivial rfl _ _ _ _).mono ?_;rintro e w' ⟨rfl,rfl⟩)
 obtain⟨w2,hw2⟩:∃w2,w.alloc (.cells #[.int .i64 200] 3)=w2:=⟨_,rfl⟩
 have hz2:w2.heap.size=w.heap.size+1:=by rw[← hw2];simp
 have hb2:Below w.heap.size w w2:=by rw[← hw2];exact bl
 have h2:=cell_new w (.int .i64 200) 3;rw[hw2] at h2;obtain⟨w3,hw3⟩:∃w3,w2.alloc (.cells #[.bool false] 4)=w3:=⟨_,rfl⟩
 have hz3:w3.heap.size=w.heap.size+2:=by rw[← hw3];simp[hz2]
 have hb3:Below w2.heap.size w2 w3:=by rw[← hw3];exact bl
 have h3:=cell_new w2 (.bool false) 4;rw[hw3] at h3;obtain⟨w4,hw4⟩:∃w4,w3.alloc (.cells #[.int .i64 0] 3)=w4:=⟨_,rfl⟩
 have hz4:w4.heap.size=w.heap.size+3:=by rw[← hw4];simp[hz3]
 have hb4:Below w3.heap.size w3 w4:=by rw[← hw4];exact bl
 have h4:=cell_new w3 (.int .i64 0) 3;rw[hw4] at h4;obtain⟨w5,hw5⟩:∃w5,w4.alloc (.cells #[.slice p m c] 31)=w5:=⟨_,rfl⟩
 have hz5:w5.heap.size=w.heap.size+4:=by rw[← hw5];simp[hz4]
 have hb5:Below w4.heap.size w4 w5:=by rw[← hw5];exact bl
 have h5:=cell_new w4 (.slice p m c) 31;rw[hw5] at h5;have g2:w5.cell? ⟨w.heap.size,0,none⟩=some (.int .i64 200):=(hb5.cell zDM_1).trans ((hb4.cell zDM_1).trans ((hb3.cell zDM_1).trans h2.1));have g3:w5.cell? ⟨w2.heap.size,0,none⟩=some (.bool false):=(hb5.cell zDM_1).trans ((hb4.cell zDM_1).trans h3.1);have g3f:w5.frozen? ⟨w2.heap.size,0,none⟩=false:=(hb5.frozen zDM_1).trans ((hb4.frozen zDM_1).trans h3.2);have g4:w5.cell? ⟨w3.heap.size,0,none⟩=some (.int .i64 0):=(hb5.cell zDM_1).trans h4.1;have g4f:w5.frozen? ⟨w3.heap.size,0,none⟩=false:=(hb5.frozen zDM_1).trans h4.2;have hb:Below w.heap.size w w5:=hb2.trans ((hb3.mono zDM_0).trans ((hb4.mono zDM_0).trans (hb5.mono zDM_0)));have g5:=h5.1;rw[hz2] at g3 g3f;rw[hz3] at g4 g4f;rw[hz4] at g5;rw[hw2,hw3,hw4,hw5];clear hw2 hw3 hw4 hw5 hb2 hb3 hb4 hb5 h2 h3 h4 h5 hz2 hz3 hz4;refine wpIn_rangeFunc_ownG rfl zDM_0 (gf:=82) (lb:=#[.pointer (some ⟨w.heap.size+1+1+1,0,none⟩)]) rfl trivial (enters_of Tryz.func82 (by kernel_rfl) rfl)
  (stmts_stops Fence.wide rfl trivial trivial rfl _ (w.heap.size+1+1+1) w.heap.size w5.heap.size w (Nat.le_refl _) sl p m c w5 g5 HH.out HS.out hb (Nat.le_refl _)) (fun h k=>h.trans k) (Kp.put zDM_0) (Below.refl _ _) (fun _=>rfl)
  (fun ps W=>((W.cell? ⟨w.heap.size+1+1,0,none⟩=some (.int .i64 (ps.length:Nat))/\W.frozen? ⟨w.heap.size+1+1,0,none⟩=false)/\W.cell? ⟨w.heap.size,0,none⟩=some (.int .i64 200)/\W.cell? ⟨w.heap.size+1,0,none⟩=some (.bool false)/\W.frozen? ⟨w.heap.size+1,0,none⟩=false/\ps.length<=200)/\Below w.heap.size w W)
  (fun c ps W=>(c=.ret/\200<ps.length/\W.cell? ⟨w.heap.size+1,0,none⟩=some (.bool true))/\Below w.heap.size w W)
  (OwnFrom.and (Own.from (fun s A B row hs hg hr=>⟨⟨cell_kept hs.1.1 hg hr,(frozen_kept hs.1.1 hg hr).trans hs.1.2⟩,cell_kept hs.2.1 hg hr,cell_kept hs.2.2.1 hg hr,(frozen_kept hs.2.2.1 hg hr).trans hs.2.2.2.1,hs.2.2.2.2⟩) _) (ownFrom_below (Nat.le_refl _) zDM_0))
  (fun c=>OwnFrom.and (Own.from (fun s A B row hs hg hr=>⟨hs.1,hs.2.1,cell_kept hs.2.2 hg hr⟩) _) (ownFrom_below (Nat.le_refl _) zDM_0))
  ⟨⟨⟨g4,g4f⟩,g2,g3,g3f,by simp⟩,hb⟩
  (fun x=>{ tmps:=#[.slice p m c,.int .i64 200,undef,.pointer (some ⟨w.heap.size,0,none⟩),.pointer (some ⟨w.heap.size+1,0,none⟩),.pointer (some ⟨w.heap.size+1+1,0,none⟩),.slice p m c,.func (.func 82) #[] #[.pointer (some ⟨w.heap.size+1+1+1,0,none⟩)],.agg (cs x.x x.P),undef,undef,undef,undef,undef],defers:=[] }) ?assign ?body ?done ?stop
 case assign=>
  intro l x W K hK;simp only[encN]
  gi_wp2
  simp[go_sem]
  exact hK
 case body=>
  rintro l ps x W ⟨⟨⟨hc,hf⟩,h60,hr,hrf,hle⟩,hB⟩ hlt;have hlt2:(ps.length:Int)<=200:=by omega
  by_cases h6:ps.length=200
  · have e6:(ps.length:Int)=200:=by omega
    rw[e6] at hc;clear hlt2 e6
    gi_wp2
    refine⟨((KeepsOthers.setCell _ _ _).trans (KeepsOthers.setCell _ _ _)).from _,⟨rfl,by rw[List.length_append,h6];simp,?_⟩,below_set (below_set hB zDM_0 _) zDM_0 _⟩;exact World.cell?_setCell_same' _ _ _ (by rw[set_other hr zDM_0];rfl)
  · have l6:(ps.length:Int)+1<=200:=by omega
    gi_wp2
    refine⟨(KeepsOthers.setCell _ _ _).from _,Kp.set zDM_0 zDM_0 _,⟨⟨?_,by rw[World.frozen?_setCell];exact hf⟩,?_,?_,by rw[World.frozen?_setCell];exact hrf,by rw[List.length_append];simp;omega⟩,below_set hB zDM_0 _⟩
    · rw[World.cell?_setCell_same' _ _ _ (by rw[hc];rfl),List.length_append]
      congr 2
    · exact set_other h60 zDM_0 _
    · exact set_other hr zDM_0 _
 case done=>
  rintro D ys W hD hys ⟨⟨⟨hc,hf⟩,h60,hr,hrf,hle⟩,hB⟩ hK;have hl:=map_len hys;have hv:decide (200<cnL sl)=false:=decide_eq_false zDM_0;have HV:=hid hv
  gi_wp2
  have hK':=(KeepsOthers.setCell W ⟨w.heap.size+1,0,none⟩ (.bool false)).same D _ hK rfl;refine⟨by simp,.inl ⟨_,_,rfl,run_takeDeferred hK',?_⟩⟩;have hc5:=cell_kept (World.cell?_setCell_same' W ⟨w.heap.size+1,0,none⟩ (.bool false) (by rw[hr];rfl)) (grownBy_putObj' _ D (.deferred none)) (fun r e=>by cases e;exact⟨_,hK',rfl⟩);refine⟨.bool false,?_,by rw[HV.out],(below_set hB zDM_0 _).trans (belowK_b (w:=w) (Nat.le_refl _) _ D _ _ zDM_0 hK' rfl rfl)⟩;simp[results,Tryz.f42,go_sem,hc5]
 case stop=>
  rintro D c ps W hD hps ⟨⟨rfl,h6,hr⟩,hB⟩ hK;have hl:=prefix_len hps;have hv:decide (200<cnL sl)=true:=decide_eq_true zDM_0;have HV:=hid hv
  gi_wp2
  refine⟨by simp,.inl ⟨_,_,rfl,run_takeDeferred hK,?_⟩⟩;have hc5:=cell_kept hr (grownBy_putObj' _ D (.deferred none)) (fun r e=>by cases e;exact⟨_,hK,rfl⟩);refine⟨.bool true,?_,by rw[HV.out],hB.trans (belowK_b (w:=w) (Nat.le_refl _) W D _ _ zDM_0 hK rfl rfl)⟩;simp[results,Tryz.f42,go_sem,hc5]
end Go.Proofs.YtbgodajefaahdaaGreatDoor.Sm
