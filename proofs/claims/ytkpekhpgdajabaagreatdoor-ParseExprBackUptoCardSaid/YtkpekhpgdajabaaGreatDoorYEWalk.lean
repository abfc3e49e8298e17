/-
  Parts of this proof: The contracts of walk, of the closure of nodes a. The contracts of Nodes and of hasMoreNodes.
-/
import Derived.Test.YtkpekhpgdajabaaGreatDoorYTWrG
open Go.Proofs.Tryz
open Option renaming none->ae,some->ak
open Go renaming World->af
open Nat renaming le_trans->ag,le_refl->av
open Go.RowKit renaming Below->ah
open List renaming length_cons->ai,cons_append->aj,length_append->au
open Go.Proofs.Tryz renaming prog->ax
set_option linter.unusedVariables false
set_option maxRecDepth 100000
set_option maxHeartbeats 2000000
open Go.Lib (hid)
namespace Go.Proofs.YtkpekhpgdajabaaGreatDoor
namespace Ex
open Go.RowKit Go.Shelf
attribute [local go_sem] Oper.semAt_some
theorem ams {F:Fence} (hd:F.depth=ae) (k:Nat):F.room k:=fun d h=>by rw[hd] at h;cases h
theorem amw {F:Fence} (hd:F.depth=ae) {m m':Nat} {P:Program} {l:Nat} {f:FuncId} {tmps:Array Value} {assign body:Code} {w:af} {R:Ending->af->Prop}
 (h:RoundIn F m P l f tmps assign body w R):RoundIn F m' P l f tmps assign body w R:=⟨h.1,fun c cs _=>h.2 c cs (ams hd _)⟩
theorem TS {F:Fence} (hd:F.depth=ae) {m:Nat} (m':Nat) {P:Program} {l:Nat} {args:Array Value} {W:af} {R:Ending->af->Prop} (h:YieldAt F m P l args W R):YieldAt F m' P l args W R:=by
 obtain⟨fn,tmps,assign,body,hy,hR⟩:=h;exact⟨fn,tmps,assign,body,hy,amw hd hR⟩
structure Nd where
 x:Ex
 p:Option Addr
 m:Nat
 c:Nat
 hl:x.l.length=m
 hs:x.s.size<=140737488355328
def sQ (r:Nd):Array Value:=#[.agg #[.int .i64 r.x.o,.string r.x.s,.int .i64 r.x.n,.slice r.p r.m r.c]]
structure Kp (n₀ T:Nat) (W W':af):Prop where
 below:ah n₀ W W'
 same:∀(k:Nat) (C:Array Value) (fr:Nat×Nat),T<=k->W.heap[k]?=ak (.cells C 25 fr)->W'.heap[k]?=ak (.cells C 25 fr)
theorem Kp.refl (n₀ T:Nat) (W:af):Kp n₀ T W W:=⟨Below.refl _ _,fun _ _ _ _ h=>h⟩
theorem Kp.trans {n₀ T:Nat} {A B C:af} (h:Kp n₀ T A B) (k:Kp n₀ T B C):Kp n₀ T A C:=⟨h.below.trans k.below,fun i c fr hi hc=>k.same i c fr hi (h.same i c fr hi hc)⟩
theorem Kp.of_below {n₀ T:Nat} {W W':af} (h:ah W.heap.size W W') (hn:n₀<=W.heap.size):Kp n₀ T W W':=⟨h.mono hn,fun k c fr _ hc=>(h.block k (Array.getElem?_eq_some_iff.1 hc).1).trans hc⟩
theorem Kp.put {n₀ T:Nat} {w:af} (hn:n₀<=w.heap.size) (W:af) (l:Nat) (o o':Obj) (hl:w.heap.size<=l) (h:W.heap[l]?=ak o) (h1:o.isCells=false) (h2:o.isWalk=false):Kp n₀ T W (W.putObj l o'):=
 ⟨belowK_b hn W l o o' hl h h1 h2, fun k c fr _ hc => by
   rw[World.putObj_heap_other]
   · exact hc
   · intro e;subst e;rw[h] at hc;cases hc
     cases h1⟩
theorem Kp.set {n₀ T:Nat} {W:af} {B:Nat} (h0:n₀<=B) (hT:B<T) (v:Value):Kp n₀ T W (W.setCell ⟨B,0,ae⟩ v):=
 ⟨(Below.refl n₀ W).setCell (p:=⟨B,0,ae⟩) h0 v,fun k c fr hk hc=>((grownBy_setCell' W B v).block k (Array.getElem?_eq_some_iff.1 hc).1 (fun e=>by cases e;omega)).trans hc⟩
theorem aiU {W W':af} (hb:ah W.heap.size W W'):W.grownBy W' ae:=⟨hb.os,hb.tape,hb.output,hb.size,fun k hk _=>hb.block k hk⟩
theorem OH {β:Type} {B:Nat} {J:β->af->Prop} (hJ:AbidesFrom B J) {s:β} {W W':af} (hs:J s W) (hb:ah W.heap.size W W'):J s W':=hJ s W W' ae hs (aiU hb) (fun r e=>by cases e)
theorem ae3 {W:af} {g:Nat} {o:Int} {s:ByteArray} {n:Int} {p:Option Addr} {m c:Nat} {t:TypeId} {fr:Nat×Nat} (h:W.heap[g]?=ak (.cells #[.int .i64 o,.string s,.int .i64 n,.slice p m c] t fr)):dR W g o s n p m c:=by
 refine⟨?_,?_,?_,?_⟩ <;> simp[World.cell?,h]
theorem TL (F:Fence) (hd:F.depth=ae) (hf:F.fn 119) (hro:F.round=ae) (l n₀ T N:Nat) (J Jx:List Nd->af->Prop)
 (hJ:∀s W W',J s W->ah W.heap.size W W'->J s W')
 (hY : ∀ m ps r W, J ps W → ps.length < N → YieldAt F m ax l (sQ r) W fun e W' =>
   (e=.returned (.bool true)/\J (ps++[r]) W'/\Kp n₀ T W W')∨(e=.returned (.bool false)/\Jx (ps++[r]) W')) (e:Ex) :
 ∀(n:Nat) (p:Option Addr) (m c:Nat) (ps:List Nd) (W:af),bX (Lo n₀) W e p m->Sz e->n₀<=W.heap.size->T<=W.heap.size->J ps W->ps.length+cnt e<=N ->
  CallsIn F n ax 119 #[.agg #[.int .i64 e.o,.string e.s,.int .i64 e.n,.slice p m c],.func (.yield l) #[] #[]] W fun r W'=>
   (r=.returned (.bool true)/\∃ys,ys.map Nd.x=pre e/\J (ps++ys) W'/\ah n₀ W W')∨(r=.returned (.bool false)/\∃q,q.map Nd.x <+: pre e/\Jx (ps++q) W'):=by
 induction e using Ex.ind with
 | h o s nn kl ih=>
  intro n p m c ps W ht hsz hn hT hJ0 hN;have hdd:∀k:Nat,(F.depth.isSome=true->1<=k):=fun k h=>by rw[hd] at h;cases h
  rw[yu] at hN;obtain⟨hl,hm⟩:=ht.len;have HH:=hid ht;have HI:=hid ih;have HL:=hid hl;have je:=hid hsz;have HJ:=hid hJ;have HN:=hid hN;have Gm:=hid hn;have oD:=hid hT;obtain⟨r0,hrx,hre⟩:∃r:Nd,r.x=.mk o s nn kl/\sQ r=#[.agg #[.int .i64 o,.string s,.int .i64 nn,.slice p m c]]:=⟨⟨.mk o s nn kl,p,m,c,hl,hsz.self⟩,rfl,rfl⟩
  have U8:=hid hrx;obtain⟨W1,hW1⟩:∃W1,W.alloc (.cells #[.int .i64 o,.string s,.int .i64 nn,.slice p m c] 25)=W1:=⟨_,rfl⟩
  have hb1:ah W.heap.size W W1:=by rw[← hW1];exact(Below.refl _ _).alloc (av _) _
  have hx1:W1.heap[W.heap.size]?=ak (.cells #[.int .i64 o,.string s,.int .i64 nn,.slice p m c] 25 (0,0)):=by rw[← hW1];exact World.alloc_heap_new W _
  have Y9:=hJ _ _ _ hJ0 hb1;have hy:=hY (n-1) ps r0 W1 Y9 bT;rw[hre] at hy;have hy2:=YieldAt.mono hy (R':=fun e W2=>(e=.returned (.bool true)/\Hid (J (ps++[r0]) W2)/\Hid (ah n₀ W W2)/\W2.cell? ⟨W.heap.size,3,ae⟩=ak (.slice p m c))∨(e=.returned (.bool false)/\Hid (Jx (ps++[r0]) W2)))
   (fun e W2 h=>h.elim (fun⟨he,hj,hk⟩=>.inl ⟨he,hid hj,hid ((hb1.mono hn).trans hk.below),(ae3 (hk.same _ _ _ hT hx1)).2.2.2⟩) fun⟨he,hj⟩=>.inr ⟨he,hid hj⟩)
  obtain⟨fn,tmps,assign,body,hy3,hR⟩:=hy2;simp only[Ex.o,Ex.s,Ex.n];clear hy hb1 hx1 Y9 hJ hJ0 hN hY ih ht hsz hn hT hl hrx hre;refine callsIn_of_wp func119 rfl hf ?_ hro;simp only[ntmps119,List.size_toArray,ai,List.length_nil,Nat.reduceAdd,Nat.reduceSub,Array.replicate_succ,Array.replicate_zero,List.push_toArray,List.append_toArray,List.nil_append,aj];subst hW1
  gi_wp2_with ((try refine⟨hdd _,?_⟩);refine hR.mono ?_;clear hR;rintro e W2 (⟨rfl,HJ2,HB2,c2⟩|⟨rfl,iG⟩))
  · gi_loopw [14] (fun i wr=>∃(k:Nat) (ys:List Nd),k<=m/\i=.int .i64 (k:Nat)/\Hid (ys.map Nd.x=.mk o s nn kl::eD (kl.take k)/\J (ps++ys) wr/\ah n₀ W wr)) (fun i _=>m-(intOf i).toNat)
    case atStart=>exact⟨0,[r0],Nat.zero_le _,rfl,hid ⟨by rw[List.take_zero,eD,List.map_cons,U8.out];rfl,HJ2.out,HB2.out⟩⟩
    case round=>
     obtain⟨k,ys,hk,rfl,HS⟩:=hrel;have k0:(0:Int)<=(k:Int):=by omega
     rcases Nat.lt_or_ge k m with h|h
     · have k1:(k:Int)<(m:Int):=by omega
       obtain⟨b,o',rfl,hG,hbs,hcell⟩:=HH.out.kids bT;have hkl:k<kl.length:=by rw[HL.out];omega
       obtain⟨q,j,c',hc4,eH⟩:=hcell.out k hkl;have hmem:kl[k]∈kl:=List.getElem_mem hkl;have hgx:kl[k]?=ak kl[k]:=List.getElem?_eq_getElem hkl;obtain⟨x,hx⟩:∃x,kl[k]=x:=⟨_,rfl⟩
       rw[hx] at hc4 eH hmem hgx;obtain⟨e0,e1,e2,e3⟩:=hc4.keep (HS.out.2.2.block b hG);have hbr:b<wr.heap.size:=Nat.lt_of_lt_of_le hbs HS.out.2.2.size;have HX:=hid hgx;have hlen:ys.length=1+(eD (kl.take k)).length:=by
        have:=congrArg List.length HS.out.1;simp only[List.length_map,ai] at this;omega
       rw[RY] at hlen;have hcap:gq (kl.take k)+cnt x<=gq kl:=by rw[← PQ hgx];exact WB _ _
       have HC:=hid (fun W' (hb:ah wr.heap.size wr W')=>(HI.out x hmem (n-1) q j c' (ps++ys) W' (bX.below (HS.out.2.2.trans (hb.mono (ag Gm.out HS.out.2.2.size))) eH) (je.out.kid hmem)
        (ag Gm.out (ag HS.out.2.2.size hb.size)) (ag oD.out (ag HS.out.2.2.size hb.size)) (HJ.out _ _ _ HS.out.2.1 hb) (by rw [au]; have := HN.out; omega)).mono (R' := fun e W3 =>
          (e=.returned (.bool true)/\Hid (∃zs:List Nd,(ys++zs).map Nd.x=.mk o s nn kl::eD (kl.take (k+1))/\J (ps++(ys++zs)) W3/\ah n₀ W W3))∨(e=.returned (.bool false)/\Hid (∃z:List Nd,z.map Nd.x <+: pre (.mk o s nn kl)/\Jx (ps++z) W3)))
        (fun e W3 h => h.elim (fun ⟨he, zs, hz, hj, hbz⟩ => .inl ⟨he, hid ⟨zs, by rw [List.map_append, HS.out.1, hz, RZ hgx]; rfl, by rwa [List.append_assoc] at hj, (HS.out.2.2.trans (hb.mono (ag Gm.out HS.out.2.2.size))).trans hbz⟩⟩)
          (fun ⟨he, z, hz, hj⟩ => .inr ⟨he, hid ⟨ys ++ z, by
            rw[List.map_append,HS.out.1,Dj];obtain⟨r,hr⟩:=hz;have h1:eD kl=eD (kl.take k)++(pre x++eD (kl.drop (k+1))):=by
             have h2:=Ml (kl.take (k+1)) (kl.drop (k+1));rw[List.take_append_drop,RZ hgx,List.append_assoc] at h2;exact h2
            refine⟨r++eD (kl.drop (k+1)),?_⟩;rw[h1,← hr];simp only[aj,List.append_assoc],by rwa [List.append_assoc] at hj⟩⟩)))
       clear hcell hc4 eH hx hmem hgx hkl hlen hcap HI HJ je
       gi_wp2_with ((try refine⟨hdd _,?_⟩);gi_at_call 119;refine(HC.out _ bl).mono ?_;clear HC;rintro e W3 (⟨rfl,HZ⟩|⟨rfl,HZ⟩))
       · go_roundw
         case rel=>
          obtain⟨zs,h1,h2,h3⟩:=HZ.out;exact⟨k+1,ys++zs,by omega,by go_num,hid ⟨h1,h2,h3⟩⟩
         case measure=>simp[intOf];omega
       · go_ret;exact .inr ⟨rfl,HZ.out⟩
     · obtain rfl:m=k:=by omega
       have HT:Hid (kl.take m=kl):=hid (List.take_of_length_le x_);rw[HT.out] at HS
       gi_wp2
       go_ret;exact .inl ⟨rfl,ys,by rw[Dj];exact HS.out.1,HS.out.2⟩
  · go_ret;exact .inr ⟨rfl,[r0],by rw[List.map_cons,U8.out,Dj];exact⟨eD kl,rfl⟩,iG.out⟩
theorem Ra (F:Fence) (hd:F.depth=ae) (hf:F.fn 119) (hg:F.fn 118) (hro:F.round=ae) (n l B n₀ T:Nat) (J Jx:List Nd->af->Prop) (e:Ex)
 (hJ:∀s W W',J s W->ah W.heap.size W W'->J s W')
 (hY : ∀ ps r W, J ps W → ps.length < cnt e → YieldAt F (n - 1) ax l (sQ r) W fun e W' =>
   (e=.returned (.bool true)/\J (ps++[r]) W'/\Kp n₀ T W W')∨(e=.returned (.bool false)/\Jx (ps++[r]) W'))
 (p:Option Addr) (m c:Nat) (W:af) (hx:dR W B e.o e.s e.n p m c) (hk:bX (Lo n₀) W e p m) (hs:Sz e) (hn:n₀<=W.heap.size) (hT:T<=W.heap.size) (h0:J [] W) :
 CallsIn F n ax 118 #[.func (.yield l) #[] #[],.pointer (ak ⟨B,0,ae⟩)] W fun e' W'=>(∃v,e'=.returned v) /\
  ((∃ys,ys.map Nd.x=pre e/\J ys W')∨(∃q,q.map Nd.x <+: pre e/\Jx q W')):=by
 have hdd:∀k:Nat,(F.depth.isSome=true->1<=k):=fun k h=>by rw[hd] at h;cases h
 have hp:=TL F hd hf hro l n₀ T (cnt e) J Jx hJ (fun m ps r W hj hl=>TS hd m (hY ps r W hj hl)) e (n-1) p m c [] W hk hs hn hT h0 cK;obtain⟨b0,b1,b2,b3⟩:=hx;clear hY hk hs hn hT h0 hJ;refine callsIn_of_wp func118 rfl hg ?_ hro;simp only[ntmps118,List.size_toArray,ai,List.length_nil,Nat.reduceAdd,Nat.reduceSub,Array.replicate_succ,Array.replicate_zero,List.push_toArray,List.append_toArray,List.nil_append,aj]
 gi_wp2_with ((try refine⟨hdd _,?_⟩);gi_at_call 119;refine hp.mono ?_;clear hp;rintro e W1 (⟨rfl,ys,h1,h2,-⟩|⟨rfl,q,h1,h2⟩))
 · go_end0
   exact⟨⟨_,rfl⟩,.inl ⟨ys,h1,by simpa using h2⟩⟩
 · go_end0
   exact⟨⟨_,rfl⟩,.inr ⟨q,h1,by simpa using h2⟩⟩
theorem aaF (F:Fence) (n:Nat) (hf:F.fn 74) (hro:F.round=ae) (o:Int) (s:ByteArray) (nn:Int) (p:Option Addr) (m c:Nat) (w:af) :
 CallsIn F n ax 74 #[.agg #[.int .i64 o,.string s,.int .i64 nn,.slice p m c]] w fun e w'=>e=.returned (.func (.func 118) #[] #[.pointer (ak ⟨w.heap.size,0,ae⟩)])/\w'=w.alloc (.cells #[.int .i64 o,.string s,.int .i64 nn,.slice p m c] 25):=by
 refine callsIn_of_wp func74 rfl hf ?_ hro;simp only[ntmps74,List.size_toArray,ai,List.length_nil,Nat.reduceAdd,Nat.reduceSub,Array.replicate_succ,Array.replicate_zero,List.push_toArray,List.append_toArray,List.nil_append,aj]
 gi_wp2
 go_ret;exact⟨rfl,rfl⟩
theorem aaG (F:Fence) (hd:F.depth=ae) (hf:F.fn 119) (hg:F.fn 118) (hro:F.round=ae) (n B n₀ T:Nat) (e:Ex) (p:Option Addr) (m c:Nat) (w:af) (hx:dR w B e.o e.s e.n p m c) (hk:bX (Lo n₀) w e p m) (hs:Sz e) (hn:n₀<=w.heap.size) (hT:T<=w.heap.size) :
 SeqStopsK F n ax 118 #[.pointer (ak ⟨B,0,ae⟩)] sQ (Kp n₀ T) (fun ys=>ys.map Nd.x=pre e) (fun q=>q.map Nd.x <+: pre e) (cnt e) w:=fun l J Jx W hW hJ _ hY h0=>
 Ra F hd hf hg hro n l B n₀ T J Jx e (fun s W W' h hb=>OH hJ h hb) hY p m c W (hx.on hW) (hk.below (hW.mono hn)) hs (ag hn hW.size) (ag hT hW.size) h0
end Ex
namespace Ex
open Go.RowKit Go.Shelf
attribute [local go_sem] Oper.semAt_some
theorem afW {W:af} {B:Nat} {v:Value} {t:TypeId} (h:W.heap[B]?=ak (.cells #[v] t (0,0))):W.cell? ⟨B,0,ae⟩=ak v/\W.frozen? ⟨B,0,ae⟩=false:=by
 constructor <;> simp[World.cell?,World.frozen?,h]
theorem sI (W:af) (v:Value) (t:TypeId):(W.alloc (.cells #[v] t)).cell? ⟨W.heap.size,0,ae⟩=ak v/\(W.alloc (.cells #[v] t)).frozen? ⟨W.heap.size,0,ae⟩=false:=
 afW (World.alloc_heap_new W _)
theorem Kk {W:af} {a:Addr} {v:Value} (o:Obj) (h:W.cell? a=ak v):(W.alloc o).cell? a=ak v:=cell_kept h (World.grownBy_alloc W o ae) (fun r e=>by cases e)
theorem QB {W:af} {a:Addr} {v:Value} (o:Obj) (h:W.cell? a=ak v) (hf:W.frozen? a=false):(W.alloc o).frozen? a=false:=(frozen_kept h (World.grownBy_alloc W o ae) (fun r e=>by cases e)).trans hf
theorem Dx {W:af} {a B:Nat} {v:Value} (h:W.cell? ⟨a,0,ae⟩=ak v) (hne:a≠B) (u:Value):(W.setCell ⟨B,0,ae⟩ u).cell? ⟨a,0,ae⟩=ak v:=
 (World.cell?_of_block (a:=⟨a,0,ae⟩) ((grownBy_setCell' W B u).block a (block_lt h) (fun e=>hne (by cases e;rfl)))).trans h
theorem oN {n₀ g k:Nat} {a W:af} (h:ah n₀ a W) (hg:n₀<=g) (v:Value):ah n₀ a (W.setCell ⟨g,k,ae⟩ v):=h.setCell (p:=⟨g,k,ae⟩) hg v
theorem Rz {ys:List Nd} {e:Ex} (h:ys.map Nd.x=pre e):ys.length=cnt e:=by
 have:=congrArg List.length h;rwa [List.length_map,R_] at this
theorem Sb {q:List Nd} {e:Ex} (h:q.map Nd.x <+: pre e):q.length<=cnt e:=by
 have:=h.length_le;rwa [List.length_map,R_] at this
theorem lK {p:Prop} (h:p:=by omega):p:=h
theorem Ai {p:Prop} (h:p:=by simp;omega):p:=h
theorem RD (e:Ex) (p:Option Addr) (m c:Nat) (w:af) (h:In w e p m) (hs:Sz e) (hc:cnt e<=1000000):Calls ax 72 #[.agg #[.int .i64 e.o,.string e.s,.int .i64 e.n,.slice p m c],.int .i64 60] w (Gives (.bool (decide (60<cnt e))) w):=by
 obtain⟨o,s,nn,kl⟩:=e;simp only[Ex.o,Ex.s,Ex.n];have HH:=hid h;have HS:=hid hs;have HC:=hid hc;clear h hs hc;refine(callsIn_wide (n:=3)).1 ?_;refine callsIn_of_wp_marks func72 rfl trivial ?_ rfl;simp only[ntmps72,List.size_toArray,ai,List.length_nil,Nat.reduceAdd,Nat.reduceSub,Array.replicate_succ,Array.replicate_zero,List.push_toArray,List.append_toArray,List.nil_append,aj]
 gi_wp2_with (refine⟨trivial,?_⟩;gi_at_call 74;refine(aaF Fence.wide _ trivial rfl _ _ _ _ _ _ _).mono ?_;rintro e w' ⟨rfl,rfl⟩)
 obtain⟨w1,hw1⟩:∃w1,w.alloc (.cells #[.int .i64 o,.string s,.int .i64 nn,.slice p m c] 25)=w1:=⟨_,rfl⟩
 have hz1:w1.heap.size=w.heap.size+1:=by rw[← hw1];simp
 have hb1:ah w.heap.size w w1:=by rw[← hw1];exact bl
 obtain⟨w2,hw2⟩:∃w2,w1.alloc (.cells #[.int .i64 60] 3)=w2:=⟨_,rfl⟩
 have hz2:w2.heap.size=w.heap.size+2:=by rw[← hw2];simp[hz1]
 have hb2:ah w1.heap.size w1 w2:=by rw[← hw2];exact bl
 have h2:=sI w1 (.int .i64 60) 3;rw[hw2] at h2;obtain⟨w3,hw3⟩:∃w3,w2.alloc (.cells #[.bool false] 4)=w3:=⟨_,rfl⟩
 have hz3:w3.heap.size=w.heap.size+3:=by rw[← hw3];simp[hz2]
 have hb3:ah w2.heap.size w2 w3:=by rw[← hw3];exact bl
 have h3:=sI w2 (.bool false) 4;rw[hw3] at h3;obtain⟨w4,hw4⟩:∃w4,w3.alloc (.cells #[.int .i64 0] 3)=w4:=⟨_,rfl⟩
 have qU:w4.heap.size=w.heap.size+4:=by rw[← hw4];simp[hz3]
 have hb4:ah w3.heap.size w3 w4:=by rw[← hw4];exact bl
 have h4:=sI w3 (.int .i64 0) 3;rw[hw4] at h4;obtain⟨w5,vB⟩:∃w5,w4.alloc (.cells #[.int .i64 o,.string s,.int .i64 nn,.slice p m c] 25)=w5:=⟨_,rfl⟩
 have Q7:w5.heap.size=w.heap.size+5:=by rw[← vB];simp[qU]
 have hb5:ah w4.heap.size w4 w5:=by rw[← vB];exact bl
 have h5:=f_ (w:=w4) (o:=o) (s:=s) (n:=nn) (p:=p) (m:=m) (c:=c) (t:=25);rw[vB] at h5;have g2:w5.cell? ⟨w1.heap.size,0,ae⟩=ak (.int .i64 60):=(hb5.cell Ai).trans ((hb4.cell Ai).trans ((hb3.cell Ai).trans h2.1));have g3:w5.cell? ⟨w2.heap.size,0,ae⟩=ak (.bool false):=(hb5.cell Ai).trans ((hb4.cell Ai).trans h3.1);have Ha:w5.frozen? ⟨w2.heap.size,0,ae⟩=false:=(hb5.frozen Ai).trans ((hb4.frozen Ai).trans h3.2);have g4:w5.cell? ⟨w3.heap.size,0,ae⟩=ak (.int .i64 0):=(hb5.cell Ai).trans h4.1;have Hd:w5.frozen? ⟨w3.heap.size,0,ae⟩=false:=(hb5.frozen Ai).trans h4.2;have hb:ah w.heap.size w w5:=hb1.trans ((hb2.mono lK).trans ((hb3.mono lK).trans ((hb4.mono lK).trans (hb5.mono lK))));rw[hz1] at g2;rw[hz2] at g3 Ha;rw[hz3] at g4 Hd;rw[qU] at h5;rw[hw1,hw2,hw3,hw4,vB];clear hw1 hw2 hw3 hw4 vB hb1 hb2 hb3 hb4 hb5 h2 h3 h4 hz1 hz2 hz3 qU;refine wpIn_rangeFunc_ownG rfl lK (gf:=118) (lb:=#[.pointer (ak ⟨w.heap.size+1+1+1+1,0,ae⟩)]) rfl trivial (enters_of func118 dx rfl)
  (aaG Fence.wide rfl trivial trivial rfl _ (w.heap.size+1+1+1+1) w.heap.size w5.heap.size (.mk o s nn kl) p m c w5 h5 (HH.out.below hb) HS.out lK (av _)) (fun h k=>h.trans k) (Kp.put lK) (Below.refl _ _) (fun _=>rfl)
  (fun ps W=>((W.cell? ⟨w.heap.size+1+1+1,0,ae⟩=ak (.int .i64 (ps.length:Nat))/\W.frozen? ⟨w.heap.size+1+1+1,0,ae⟩=false)/\W.cell? ⟨w.heap.size+1,0,ae⟩=ak (.int .i64 60)/\W.cell? ⟨w.heap.size+1+1,0,ae⟩=ak (.bool false)/\W.frozen? ⟨w.heap.size+1+1,0,ae⟩=false/\ps.length<=60)/\ah w.heap.size w W)
  (fun c ps W=>(c=.ret/\60<ps.length/\W.cell? ⟨w.heap.size+1+1,0,ae⟩=ak (.bool true))/\ah w.heap.size w W)
  (OwnFrom.and (Own.from (fun s A B row hs hg hr=>⟨⟨cell_kept hs.1.1 hg hr,(frozen_kept hs.1.1 hg hr).trans hs.1.2⟩,cell_kept hs.2.1 hg hr,cell_kept hs.2.2.1 hg hr,(frozen_kept hs.2.2.1 hg hr).trans hs.2.2.2.1,hs.2.2.2.2⟩) _) (ownFrom_below (av _) lK))
  (fun c=>OwnFrom.and (Own.from (fun s A B row hs hg hr=>⟨hs.1,hs.2.1,cell_kept hs.2.2 hg hr⟩) _) (ownFrom_below (av _) lK))
  ⟨⟨⟨g4,Hd⟩,g2,g3,Ha,by simp⟩,hb⟩
  (fun x=>{ tmps:=#[.agg #[.int .i64 o,.string s,.int .i64 nn,.slice p m c],.int .i64 60,.pointer (ak ⟨w.heap.size,0,ae⟩),.pointer (ak ⟨w.heap.size+1,0,ae⟩),.pointer (ak ⟨w.heap.size+1+1,0,ae⟩),.pointer (ak ⟨w.heap.size+1+1+1,0,ae⟩),.agg #[.int .i64 o,.string s,.int .i64 nn,.slice p m c],.func (.func 118) #[] #[.pointer (ak ⟨w.heap.size+1+1+1+1,0,ae⟩)],.agg #[.int .i64 x.x.o,.string x.x.s,.int .i64 x.x.n,.slice x.p x.m x.c],undef,undef,undef,undef,undef],defers:=[] }) ?assign ?body ?done ?stop
 case assign=>
  intro l x W K hK;simp only[sQ]
  gi_wp2
  simp[go_sem]
  exact hK
 case body=>
  rintro l ps x W ⟨⟨⟨hc,hf⟩,Hf,hr,hrf,hle⟩,hB⟩ hlt;have hlt2:(ps.length:Int)<=60:=by omega
  by_cases h6:ps.length=60
  · have e6:(ps.length:Int)=60:=by omega
    rw[e6] at hc;clear hlt2 e6
    gi_wp2
    refine⟨((KeepsOthers.setCell _ _ _).trans (KeepsOthers.setCell _ _ _)).from _,⟨rfl,by rw[au,h6];simp,?_⟩,oN (oN hB lK _) lK _⟩;exact World.cell?_setCell_same' _ _ _ (by rw[Dx hr lK];rfl)
  · have l6:(ps.length:Int)+1<=60:=by omega
    gi_wp2
    refine⟨(KeepsOthers.setCell _ _ _).from _,Kp.set lK lK _,⟨⟨?_,by rw[World.frozen?_setCell];exact hf⟩,?_,?_,by rw[World.frozen?_setCell];exact hrf,by rw[au];simp;omega⟩,oN hB lK _⟩
    · rw[World.cell?_setCell_same' _ _ _ (by rw[hc];rfl),au]
      congr 2
    · exact Dx Hf lK _
    · exact Dx hr lK _
 case done=>
  rintro D ys W hD hys ⟨⟨⟨hc,hf⟩,Hf,hr,hrf,hle⟩,hB⟩ hK;have hl:=Rz hys;have hv:decide (60<cnt (.mk o s nn kl))=false:=decide_eq_false lK;have HV:=hid hv
  gi_wp2
  have hK':=(KeepsOthers.setCell W ⟨w.heap.size+1+1,0,ae⟩ (.bool false)).same D _ hK rfl;refine⟨by simp,.inl ⟨_,_,rfl,run_takeDeferred hK',?_⟩⟩;have qQ:=cell_kept (World.cell?_setCell_same' W ⟨w.heap.size+1+1,0,ae⟩ (.bool false) (by rw[hr];rfl)) (grownBy_putObj' _ D (.deferred ae)) (fun r e=>by cases e;exact⟨_,hK',rfl⟩);refine⟨.bool false,?_,by rw[HV.out],(oN hB lK _).trans (belowK_b (w:=w) (av _) _ D _ _ lK hK' rfl rfl)⟩;simp[results,Tryz.f72,go_sem,qQ]
 case stop=>
  rintro D c ps W hD hps ⟨⟨rfl,h6,hr⟩,hB⟩ hK;have hl:=Sb hps;have hv:decide (60<cnt (.mk o s nn kl))=true:=decide_eq_true lK;have HV:=hid hv
  gi_wp2
  refine⟨by simp,.inl ⟨_,_,rfl,run_takeDeferred hK,?_⟩⟩;have qQ:=cell_kept hr (grownBy_putObj' _ D (.deferred ae)) (fun r e=>by cases e;exact⟨_,hK,rfl⟩);refine⟨.bool true,?_,by rw[HV.out],hB.trans (belowK_b (w:=w) (av _) W D _ _ lK hK rfl rfl)⟩;simp[results,Tryz.f72,go_sem,qQ]
end Ex
end Go.Proofs.YtkpekhpgdajabaaGreatDoor
