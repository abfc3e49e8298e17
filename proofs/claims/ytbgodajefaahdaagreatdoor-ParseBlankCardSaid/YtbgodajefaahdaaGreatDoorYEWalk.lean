/-
  Parts of this proof: The contracts of walk, of the closure of nodes a. The contract of Names.
-/
import Derived.Test.YtbgodajefaahdaaGreatDoorYNuMath
import Derived.RangeFuncNested
import Derived.RangeFuncBound
import Derived.RangeFuncCalls
import Derived.RangeFuncLeaves
import Derived.RangeFuncBox
import Derived.Shelf.Abstract
import Derived.OwnWalkIn
import Derived.TacticsInMore
import Derived.LoopNIn
import Derived.LoopIn
import Derived.Sort.OwnSorted
import Derived.Lib.OwnBridge
open Nat renaming le_trans->ae
open Go renaming World->af
open List renaming length_cons->ag,cons_append->ah
open Go.Proofs.Tryz renaming prog->ai
open Option renaming none->aj
set_option linter.unusedVariables false
open Go.Lib (hid)
namespace Go.Proofs.YtbgodajefaahdaaGreatDoor
namespace Ex
open Go.RowKit Go.Shelf
attribute [local go_sem] Oper.semAt_some
set_option maxHeartbeats 2000000
theorem aqj {F:Fence} (hd:F.depth=aj) (k:Nat):F.room k:=fun d h=>by rw[hd] at h;cases h
theorem aqn {F:Fence} (hd:F.depth=aj) {m m':Nat} {P:Program} {l:Nat} {f:FuncId} {tmps:Array Value} {assign body:Code} {w:af} {R:Ending->af->Prop}
 (h:RoundIn F m P l f tmps assign body w R):RoundIn F m' P l f tmps assign body w R:=⟨h.1,fun c cs _=>h.2 c cs (aqj hd _)⟩
theorem XE {F:Fence} (hd:F.depth=aj) {m:Nat} (m':Nat) {P:Program} {l:Nat} {args:Array Value} {W:af} {R:Ending->af->Prop} (h:YieldAt F m P l args W R):YieldAt F m' P l args W R:=by
 obtain⟨fn,tmps,assign,body,hy,hR⟩:=h;exact⟨fn,tmps,assign,body,hy,aqn hd hR⟩
structure Nd where
 x:Ex
 p:Option Addr
 m:Nat
 c:Nat
 hl:x.l.length=m
 hs:x.s.size<=140737488355328
def vg (r:Nd):Array Value:=#[.agg #[.int .i64 r.x.o,.string r.x.s,.int .i64 r.x.n,.slice r.p r.m r.c]]
structure Kp (n₀ T:Nat) (W W':af):Prop where
 below:Below n₀ W W'
 same:∀(k:Nat) (C:Array Value) (fr:Nat×Nat),T<=k->W.heap[k]?=some (.cells C 41 fr)->W'.heap[k]?=some (.cells C 41 fr)
theorem Kp.refl (n₀ T:Nat) (W:af):Kp n₀ T W W:=⟨Below.refl _ _,fun _ _ _ _ h=>h⟩
theorem Kp.trans {n₀ T:Nat} {A B C:af} (h:Kp n₀ T A B) (k:Kp n₀ T B C):Kp n₀ T A C:=⟨h.below.trans k.below,fun i c fr hi hc=>k.same i c fr hi (h.same i c fr hi hc)⟩
theorem Kp.of_below {n₀ T:Nat} {W W':af} (h:Below W.heap.size W W') (hn:n₀<=W.heap.size):Kp n₀ T W W':=⟨h.mono hn,fun k c fr _ hc=>(h.block k (Array.getElem?_eq_some_iff.1 hc).1).trans hc⟩
theorem Kp.put {n₀ T:Nat} {w:af} (hn:n₀<=w.heap.size) (W:af) (l:Nat) (o o':Obj) (hl:w.heap.size<=l) (h:W.heap[l]?=some o) (h1:o.isCells=false) (h2:o.isWalk=false):Kp n₀ T W (W.putObj l o'):=
 ⟨belowK_b hn W l o o' hl h h1 h2, fun k c fr _ hc => by
   rw[World.putObj_heap_other]
   · exact hc
   · intro e;subst e;rw[h] at hc;cases hc
     cases h1⟩
theorem Kp.set {n₀ T:Nat} {W:af} {B:Nat} (h0:n₀<=B) (hT:B<T) (v:Value):Kp n₀ T W (W.setCell ⟨B,0,aj⟩ v):=
 ⟨(Below.refl n₀ W).setCell (p:=⟨B,0,aj⟩) h0 v,fun k c fr hk hc=>((grownBy_setCell' W B v).block k (Array.getElem?_eq_some_iff.1 hc).1 (fun e=>by cases e;omega)).trans hc⟩
theorem amX {W W':af} (hb:Below W.heap.size W W'):W.grownBy W' aj:=⟨hb.os,hb.tape,hb.output,hb.size,fun k hk _=>hb.block k hk⟩
theorem RX {β:Type} {B:Nat} {J:β->af->Prop} (hJ:AbidesFrom B J) {s:β} {W W':af} (hs:J s W) (hb:Below W.heap.size W W'):J s W':=hJ s W W' aj hs (amX hb) (fun r e=>by cases e)
theorem ai9 {W:af} {g:Nat} {o:Int} {s:ByteArray} {n:Int} {p:Option Addr} {m c:Nat} {t:TypeId} {fr:Nat×Nat} (h:W.heap[g]?=some (.cells #[.int .i64 o,.string s,.int .i64 n,.slice p m c] t fr)):jg W g o s n p m c:=by
 refine⟨?_,?_,?_,?_⟩ <;> simp[World.cell?,h]
set_option maxRecDepth 100000 in
theorem wlkd_in (F:Fence) (hd:F.depth=aj) (hf:F.fn 145) (hro:F.round=aj) (l n₀ T N:Nat) (J Jx:List Nd->af->Prop)
 (hJ:∀s W W',J s W->Below W.heap.size W W'->J s W')
 (hY : ∀ m ps r W, J ps W → ps.length < N → YieldAt F m ai l (vg r) W fun e W' =>
   (e=.returned (.bool true)/\J (ps++[r]) W'/\Kp n₀ T W W')∨(e=.returned (.bool false)/\Jx (ps++[r]) W')) (e:Ex) :
 ∀(n:Nat) (p:Option Addr) (m c:Nat) (ps:List Nd) (W:af),bW (Lo n₀) W e p m->Sz e->n₀<=W.heap.size->T<=W.heap.size->J ps W->ps.length+cnt e<=N ->
  CallsIn F n ai 145 #[.agg #[.int .i64 e.o,.string e.s,.int .i64 e.n,.slice p m c],.func (.yield l) #[] #[]] W fun r W'=>
   (r=.returned (.bool true)/\∃ys,ys.map Nd.x=pre e/\J (ps++ys) W'/\Below n₀ W W')∨(r=.returned (.bool false)/\∃q,q.map Nd.x <+: pre e/\Jx (ps++q) W'):=by
 induction e using Ex.ind with
 | h o s nn kl ih=>
  intro n p m c ps W ht hsz hn hT hJ0 hN;have hdd:∀k:Nat,(F.depth.isSome=true->1<=k):=fun k h=>by rw[hd] at h;cases h
  rw[NQ] at hN;obtain⟨hl,hm⟩:=ht.len;have HH:=hid ht;have HI:=hid ih;have HL:=hid hl;have jI:=hid hsz;have HJ:=hid hJ;have HN:=hid hN;have Iz:=hid hn;have mZ:=hid hT;obtain⟨r0,hrx,hre⟩:∃r:Nd,r.x=.mk o s nn kl/\vg r=#[.agg #[.int .i64 o,.string s,.int .i64 nn,.slice p m c]]:=⟨⟨.mk o s nn kl,p,m,c,hl,hsz.self⟩,rfl,rfl⟩
  have YH:=hid hrx;obtain⟨W1,hW1⟩:∃W1,W.alloc (.cells #[.int .i64 o,.string s,.int .i64 nn,.slice p m c] 41)=W1:=⟨_,rfl⟩
  have hb1:Below W.heap.size W W1:=by rw[← hW1];exact(Below.refl _ _).alloc (Nat.le_refl _) _
  have hx1:W1.heap[W.heap.size]?=some (.cells #[.int .i64 o,.string s,.int .i64 nn,.slice p m c] 41 (0,0)):=by rw[← hW1];exact World.alloc_heap_new W _
  have hJ1:=hJ _ _ _ hJ0 hb1;have hy:=hY (n-1) ps r0 W1 hJ1 (by omega);rw[hre] at hy;have hy2:=YieldAt.mono hy (R':=fun e W2=>(e=.returned (.bool true)/\Hid (J (ps++[r0]) W2)/\Hid (Below n₀ W W2)/\W2.cell? ⟨W.heap.size,3,aj⟩=some (.slice p m c))∨(e=.returned (.bool false)/\Hid (Jx (ps++[r0]) W2)))
   (fun e W2 h=>h.elim (fun⟨he,hj,hk⟩=>.inl ⟨he,hid hj,hid ((hb1.mono hn).trans hk.below),(ai9 (hk.same _ _ _ hT hx1)).2.2.2⟩) fun⟨he,hj⟩=>.inr ⟨he,hid hj⟩)
  obtain⟨fn,tmps,assign,body,hy3,hR⟩:=hy2;simp only[Ex.o,Ex.s,Ex.n];clear hy hb1 hx1 hJ1 hJ hJ0 hN hY ih ht hsz hn hT hl hrx hre;refine callsIn_of_wp Tryz.func145 rfl hf ?_ hro;simp only[Tryz.ntmps145,List.size_toArray,ag,List.length_nil,Nat.reduceAdd,Nat.reduceSub,Array.replicate_succ,Array.replicate_zero,List.push_toArray,List.append_toArray,List.nil_append,ah];subst hW1
  gi_wp2_with ((try refine⟨hdd _,?_⟩);refine hR.mono ?_;clear hR;rintro e W2 (⟨rfl,HJ2,HB2,c2⟩|⟨rfl,dV⟩))
  · gi_loopw [14] (fun i wr=>∃(k:Nat) (ys:List Nd),k<=m/\i=.int .i64 (k:Nat)/\Hid (ys.map Nd.x=.mk o s nn kl::ku (kl.take k)/\J (ps++ys) wr/\Below n₀ W wr)) (fun i _=>m-(intOf i).toNat)
    case atStart=>exact⟨0,[r0],Nat.zero_le _,rfl,hid ⟨by rw[List.take_zero,ku,List.map_cons,YH.out];rfl,HJ2.out,HB2.out⟩⟩
    case round=>
     obtain⟨k,ys,hk,rfl,HS⟩:=hrel;have k0:(0:Int)<=(k:Int):=by omega
     rcases Nat.lt_or_ge k m with h|h
     · have k1:(k:Int)<(m:Int):=by omega
       obtain⟨b,o',rfl,hG,hbs,hcell⟩:=HH.out.kids (by omega);have hkl:k<kl.length:=by rw[HL.out];omega
       obtain⟨q,j,c',hc4,kL⟩:=hcell.out k hkl;have hmem:kl[k]∈kl:=List.getElem_mem hkl;have hgx:kl[k]?=some kl[k]:=List.getElem?_eq_getElem hkl;obtain⟨x,hx⟩:∃x,kl[k]=x:=⟨_,rfl⟩
       rw[hx] at hc4 kL hmem hgx;obtain⟨e0,e1,e2,e3⟩:=hc4.keep (HS.out.2.2.block b hG);have hbr:b<wr.heap.size:=Nat.lt_of_lt_of_le hbs HS.out.2.2.size;have HX:=hid hgx;have hlen:ys.length=1+(ku (kl.take k)).length:=by
        have:=congrArg List.length HS.out.1;simp only[List.length_map,ag] at this;omega
       rw[U8] at hlen;have hcap:jk (kl.take k)+cnt x<=jk kl:=by rw[← Z_ hgx];exact Z9 _ _
       have HC:=hid (fun W' (hb:Below wr.heap.size wr W')=>(HI.out x hmem (n-1) q j c' (ps++ys) W' (bW.below (HS.out.2.2.trans (hb.mono (ae Iz.out HS.out.2.2.size))) kL) (jI.out.kid hmem)
        (ae Iz.out (ae HS.out.2.2.size hb.size)) (ae mZ.out (ae HS.out.2.2.size hb.size)) (HJ.out _ _ _ HS.out.2.1 hb) (by rw [List.length_append]; have := HN.out; omega)).mono (R' := fun e W3 =>
          (e=.returned (.bool true)/\Hid (∃zs:List Nd,(ys++zs).map Nd.x=.mk o s nn kl::ku (kl.take (k+1))/\J (ps++(ys++zs)) W3/\Below n₀ W W3))∨(e=.returned (.bool false)/\Hid (∃z:List Nd,z.map Nd.x <+: pre (.mk o s nn kl)/\Jx (ps++z) W3)))
        (fun e W3 h => h.elim (fun ⟨he, zs, hz, hj, hbz⟩ => .inl ⟨he, hid ⟨zs, by rw [List.map_append, HS.out.1, hz, aew hgx]; rfl, by rwa [List.append_assoc] at hj, (HS.out.2.2.trans (hb.mono (ae Iz.out HS.out.2.2.size))).trans hbz⟩⟩)
          (fun ⟨he, z, hz, hj⟩ => .inr ⟨he, hid ⟨ys ++ z, by
            rw[List.map_append,HS.out.1,U_];obtain⟨r,hr⟩:=hz;have h1:ku kl=ku (kl.take k)++(pre x++ku (kl.drop (k+1))):=by
             have h2:=U7 (kl.take (k+1)) (kl.drop (k+1));rw[List.take_append_drop,aew hgx,List.append_assoc] at h2;exact h2
            refine⟨r++ku (kl.drop (k+1)),?_⟩;rw[h1,← hr];simp only[ah,List.append_assoc],by rwa [List.append_assoc] at hj⟩⟩)))
       clear hcell hc4 kL hx hmem hgx hkl hlen hcap HI HJ jI
       gi_wp2_with ((try refine⟨hdd _,?_⟩);gi_at_call 145;refine(HC.out _ bl).mono ?_;clear HC;rintro e W3 (⟨rfl,HZ⟩|⟨rfl,HZ⟩))
       · go_roundw
         case rel=>
          obtain⟨zs,h1,h2,h3⟩:=HZ.out;exact⟨k+1,ys++zs,by omega,by go_num,hid ⟨h1,h2,h3⟩⟩
         case measure=>simp[intOf];omega
       · go_ret;exact .inr ⟨rfl,HZ.out⟩
     · obtain rfl:m=k:=by omega
       have HT:Hid (kl.take m=kl):=hid (List.take_of_length_le (by rw[HL.out];exact Nat.le_refl _));rw[HT.out] at HS
       gi_wp2
       go_ret;exact .inl ⟨rfl,ys,by rw[U_];exact HS.out.1,HS.out.2⟩
  · go_ret;exact .inr ⟨rfl,[r0],by rw[List.map_cons,YH.out,U_];exact⟨ku kl,rfl⟩,dV.out⟩
set_option maxRecDepth 100000 in
theorem Ut (F:Fence) (hd:F.depth=aj) (hf:F.fn 145) (hg:F.fn 144) (hro:F.round=aj) (n l B n₀ T:Nat) (J Jx:List Nd->af->Prop) (e:Ex)
 (hJ:∀s W W',J s W->Below W.heap.size W W'->J s W')
 (hY : ∀ ps r W, J ps W → ps.length < cnt e → YieldAt F (n - 1) ai l (vg r) W fun e W' =>
   (e=.returned (.bool true)/\J (ps++[r]) W'/\Kp n₀ T W W')∨(e=.returned (.bool false)/\Jx (ps++[r]) W'))
 (p:Option Addr) (m c:Nat) (W:af) (hx:jg W B e.o e.s e.n p m c) (hk:bW (Lo n₀) W e p m) (hs:Sz e) (hn:n₀<=W.heap.size) (hT:T<=W.heap.size) (h0:J [] W) :
 CallsIn F n ai 144 #[.func (.yield l) #[] #[],.pointer (some ⟨B,0,aj⟩)] W fun e' W'=>(∃v,e'=.returned v) /\
  ((∃ys,ys.map Nd.x=pre e/\J ys W')∨(∃q,q.map Nd.x <+: pre e/\Jx q W')):=by
 have hdd:∀k:Nat,(F.depth.isSome=true->1<=k):=fun k h=>by rw[hd] at h;cases h
 have hp:=wlkd_in F hd hf hro l n₀ T (cnt e) J Jx hJ (fun m ps r W hj hl=>XE hd m (hY ps r W hj hl)) e (n-1) p m c [] W hk hs hn hT h0 (by simp);obtain⟨b0,b1,b2,b3⟩:=hx;clear hY hk hs hn hT h0 hJ;refine callsIn_of_wp Tryz.func144 rfl hg ?_ hro;simp only[Tryz.ntmps144,List.size_toArray,ag,List.length_nil,Nat.reduceAdd,Nat.reduceSub,Array.replicate_succ,Array.replicate_zero,List.push_toArray,List.append_toArray,List.nil_append,ah]
 gi_wp2_with ((try refine⟨hdd _,?_⟩);gi_at_call 145;refine hp.mono ?_;clear hp;rintro e W1 (⟨rfl,ys,h1,h2,-⟩|⟨rfl,q,h1,h2⟩))
 · go_end0
   exact⟨⟨_,rfl⟩,.inl ⟨ys,h1,by simpa using h2⟩⟩
 · go_end0
   exact⟨⟨_,rfl⟩,.inr ⟨q,h1,by simpa using h2⟩⟩
theorem aea (F:Fence) (n:Nat) (hf:F.fn 97) (hro:F.round=aj) (o:Int) (s:ByteArray) (nn:Int) (p:Option Addr) (m c:Nat) (w:af) :
 CallsIn F n ai 97 #[.agg #[.int .i64 o,.string s,.int .i64 nn,.slice p m c]] w fun e w'=>e=.returned (.func (.func 144) #[] #[.pointer (some ⟨w.heap.size,0,aj⟩)])/\w'=w.alloc (.cells #[.int .i64 o,.string s,.int .i64 nn,.slice p m c] 41):=by
 refine callsIn_of_wp Tryz.func97 rfl hf ?_ hro;simp only[Tryz.ntmps97,List.size_toArray,ag,List.length_nil,Nat.reduceAdd,Nat.reduceSub,Array.replicate_succ,Array.replicate_zero,List.push_toArray,List.append_toArray,List.nil_append,ah]
 gi_wp2
 go_ret;exact⟨rfl,rfl⟩
theorem aeb (F:Fence) (hd:F.depth=aj) (hf:F.fn 145) (hg:F.fn 144) (hro:F.round=aj) (n B n₀ T:Nat) (e:Ex) (p:Option Addr) (m c:Nat) (w:af) (hx:jg w B e.o e.s e.n p m c) (hk:bW (Lo n₀) w e p m) (hs:Sz e) (hn:n₀<=w.heap.size) (hT:T<=w.heap.size) :
 SeqStopsK F n ai 144 #[.pointer (some ⟨B,0,aj⟩)] vg (Kp n₀ T) (fun ys=>ys.map Nd.x=pre e) (fun q=>q.map Nd.x <+: pre e) (cnt e) w:=fun l J Jx W hW hJ _ hY h0=>
 Ut F hd hf hg hro n l B n₀ T J Jx e (fun s W W' h hb=>RX hJ h hb) hY p m c W (hx.on hW) (hk.below (hW.mono hn)) hs (ae hn hW.size) (ae hT hW.size) h0
end Ex
namespace Ex
open Go.RowKit Go.Shelf Go.Sort
attribute [local go_sem] Oper.semAt_some
set_option maxHeartbeats 4000000
theorem Kp.app {n₀ T B:Nat} {W w1:af} {v v':Value} {l:List Nm} {tmp:Obj} (hn:n₀<=W.heap.size) (hB:n₀<=B) (hT:B<T) (hrow:FT n₀ W v l) (hgrow:(W.alloc tmp).grownBy w1 v.ownBlock) (hbel:Below n₀ W (w1.setCell ⟨B,0,aj⟩ v')):Kp n₀ T W (w1.setCell ⟨B,0,aj⟩ v'):=
 ⟨hbel, fun k c fr hk hc => by
   have hkl:=(Array.getElem?_eq_some_iff.1 hc).1;rw[(grownBy_setCell' w1 B v').block k (Nat.lt_of_lt_of_le hkl (ae (by simp) hgrow.size)) (fun e=>by cases e;omega)];rw[hgrow.block k (by simp;omega) (fun e=>by
    rcases hrow.2 with⟨rfl,_⟩|⟨g',cap,cur,rfl,_,hgb,_⟩
    · simp[Value.ownBlock] at e
    · obtain rfl:g'=k:=by simpa [Value.ownBlock] using e.symm
      rw[hgb] at hc
      cases hc)]
   exact(Below.heap_alloc W tmp k hkl).trans hc⟩
end Ex
end Go.Proofs.YtbgodajefaahdaaGreatDoor
