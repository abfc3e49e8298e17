/-
  Parts of this proof: The contracts of walk, of the closure of stateme. The contracts of Count and of hasMore. The contract of Depth.
-/
import Derived.Test.YthnillhnjhalmaaGreatDoorYLxAcc
open Go.Proofs.Tryz
open List renaming cons_append->ae,length_append->af,length_cons->ag
open Option renaming none->ah,some->au
open Go renaming World->ai
open Go.Proofs.Tryz renaming prog->aj
open Go.Lib renaming hid->ak
open Go.RowKit renaming Below->av
open Nat renaming le_refl->ax,le_trans->ay
set_option linter.unusedVariables false
set_option maxRecDepth 100000
set_option maxHeartbeats 1000000
open Go.Lib (hid)
namespace Go.Proofs.YthnillhnjhalmaaGreatDoor
namespace Sm
open Go.RowKit Go.Shelf
open Ex (Lo block_lt Vb Qp)
attribute [local go_sem] Oper.semAt_some
attribute [local go_sem] cs0 cs1 cs2 wo wu wy wB wC wD wE vQ vR vS vT vU vV vW vX vY vZ v_
structure Nd (n₀:Nat) (W0:ai) where
 x:St
 P:Pl
 hi:dC (Lo n₀) W0 x P
 hs:Dh x
def uI {n₀:Nat} {W0:ai} (r:Nd n₀ W0):Array Value:=#[.agg (cs r.x r.P)]
structure Kp (n₀ T:Nat) (W W':ai):Prop where
 below:av n₀ W W'
 same:∀(k:Nat) (C:Array Value) (fr:Nat×Nat),T<=k->W.heap[k]?=au (.cells C 58 fr)->W'.heap[k]?=au (.cells C 58 fr)
theorem Kp.refl (n₀ T:Nat) (W:ai):Kp n₀ T W W:=⟨Below.refl _ _,fun _ _ _ _ h=>h⟩
theorem Kp.trans {n₀ T:Nat} {A B C:ai} (h:Kp n₀ T A B) (k:Kp n₀ T B C):Kp n₀ T A C:=⟨h.below.trans k.below,fun i c fr hi hc=>k.same i c fr hi (h.same i c fr hi hc)⟩
theorem Kp.of_below {n₀ T:Nat} {W W':ai} (h:av W.heap.size W W') (hn:n₀<=W.heap.size):Kp n₀ T W W':=⟨h.mono hn,fun k c fr _ hc=>(h.block k (Array.getElem?_eq_some_iff.1 hc).1).trans hc⟩
theorem Kp.box {n₀ T g:Nat} {W W':ai} {x:St} {P:Pl} (h:Kp n₀ T W W') (hT:T<=g) (hb:dG W g x P):dG W' g x P:=h.same g _ _ hT hb
theorem Kp.put {n₀ T:Nat} {w:ai} (hn:n₀<=w.heap.size) (W:ai) (l:Nat) (o o':Obj) (hl:w.heap.size<=l) (h:W.heap[l]?=au o) (h1:o.isCells=false) (h2:o.isWalk=false):Kp n₀ T W (W.putObj l o'):=
 ⟨belowK_b hn W l o o' hl h h1 h2, fun k c fr _ hc => by
   rw[World.putObj_heap_other]
   · exact hc
   · intro e;subst e;rw[h] at hc;cases hc
     cases h1⟩
theorem Kp.set {n₀ T:Nat} {W:ai} {B:Nat} (h0:n₀<=B) (hT:B<T) (v:Value):Kp n₀ T W (W.setCell ⟨B,0,ah⟩ v):=
 ⟨(Below.refl n₀ W).setCell (p:=⟨B,0,ah⟩) h0 v,fun k c fr hk hc=>((grownBy_setCell' W B v).block k (Array.getElem?_eq_some_iff.1 hc).1 (fun e=>by cases e;omega)).trans hc⟩
theorem TN {sl:List St} {k:Nat} {x:St} {q:List St} (h:sl[k]?=au x) (hq:q <+: ord x):fq (sl.take k)++q <+: fq sl:=by
 have h2:=Gp (sl.take (k+1)) (sl.drop (k+1));rw[List.take_append_drop,abP h,List.append_assoc] at h2;rw[h2,List.prefix_append_right_inj];exact hq.trans (List.prefix_append _ _)
theorem amx (x:St):[x] <+: ord x:=by rw[zB];exact⟨_,rfl⟩
theorem amy {x:St} {q:List St} (h:q <+: fq x.bo):x::q <+: ord x:=by
 rw[zB,List.cons_prefix_cons];exact⟨rfl,h.trans (List.prefix_append _ _)⟩
theorem amz {x:St} {q:List St} (h:q <+: fq x.el):x::(fq x.bo++q) <+: ord x:=by
 rw[zB,List.cons_prefix_cons];exact⟨rfl,by rw[List.prefix_append_right_inj];exact h⟩
theorem U6 (F:Fence) (hd:F.depth=ah) (hf:F.fn 105) (hro:F.round=ah) (l n₀ T N:Nat) (W0:ai) (hn:n₀<=W0.heap.size) (J Jx:List (Nd n₀ W0)->ai->Prop)
 (hJ:∀s W W',J s W->av W.heap.size W W'->J s W')
 (hY : ∀ m ps r W, J ps W → ps.length < N → YieldAt F m aj l (uI r) W fun e W' =>
   (e=.returned (.bool true)/\J (ps++[r]) W'/\Kp n₀ T W W')∨(e=.returned (.bool false)/\Jx (ps++[r]) W')) (sl:List St) :
 ∀(n:Nat) (p:Option Addr) (m c:Nat) (ps:List (Nd n₀ W0)) (W:ai),dE (Lo n₀) W0 sl p m->lu sl->av n₀ W0 W->T<=W.heap.size->J ps W->ps.length+eT sl<=N ->
  CallsIn F n aj 105 #[.slice p m c,.func (.yield l) #[] #[]] W fun r W'=>
   (r=.returned (.bool true)/\∃ys,ys.map Nd.x=fq sl/\J (ps++ys) W'/\Kp n₀ T W W')∨(r=.returned (.bool false)/\∃q,q.map Nd.x <+: fq sl/\Jx (ps++q) W'):=by
 induction sl using TC with
 | h sl ih=>
  intro n p m c ps W ht hsz hb0 hT hJ0 hN;have hdd:∀k:Nat,(F.depth.isSome=true->1<=k):=fun k h=>by rw[hd] at h;cases h
  obtain⟨hl,hm⟩:=ht.len;have HH:=ak ht;have HI:=ak ih;have HL:=ak hl;have jB:=ak hsz;have HJ:=ak hJ;have HY:=ak hY;have HN:=ak hN;have HB0:=ak hb0;have H8:=ak hn;have oO:=ak hT;have HJ0:=ak hJ0;clear hY hJ hJ0 hN ih ht hsz hn hT hl hb0;obtain⟨n21,nT⟩:∃n:Nat,21=n:=⟨_,rfl⟩
  have hsz:∀w,(sizeOf 58).run aj w=.ok n21 w:=fun w=>by rw[sizeOf58,nT]
  have lg:=ak nT;clear nT;refine callsIn_of_wp func105 rfl hf ?_ hro;simp only[ntmps105,List.size_toArray,ag,List.length_nil,Nat.reduceAdd,Nat.reduceSub,Array.replicate_succ,Array.replicate_zero,List.push_toArray,List.append_toArray,List.nil_append,ae]
  gi_wp2_with fail
  gi_loopw [9] (fun i wr=>∃(k:Nat) (ys:List (Nd n₀ W0)),k<=m/\i=.int .i64 (k:Nat)/\Hid (ys.map Nd.x=fq (sl.take k)/\J (ps++ys) wr/\Kp n₀ T W wr)) (fun i _=>m-(intOf i).toNat)
  case atStart=>exact⟨0,[],Nat.zero_le _,rfl,ak ⟨by rw[List.take_zero,fq];rfl,by rw[List.append_nil];exact HJ0.out,Kp.refl _ _ _⟩⟩
  case round=>
   obtain⟨k,ys,hk,rfl,HS⟩:=hrel;have k0:(0:Int)<=(k:Int):=by omega
   rcases Nat.lt_or_ge k m with h|h
   · have k1:(k:Int)<(m:Int):=by omega
     obtain⟨b,o',rfl,hG,hbs,hcell⟩:=HH.out.rows bU;have hkl:k<sl.length:=by rw[HL.out];omega
     obtain⟨P,hc21,xI⟩:=hcell.out k hkl;have hmem:sl[k]∈sl:=List.getElem_mem hkl;have hgx:sl[k]?=au sl[k]:=List.getElem?_eq_getElem hkl;obtain⟨x,hx⟩:∃x,sl[k]=x:=⟨_,rfl⟩
     rw[hx] at hc21 xI hmem hgx;have Ag:=ak xI;have HX:=ak hgx;have HM:=ak hmem;have HB1:=ak (HB0.out.trans HS.out.2.2.below);have hcw:=(hc21.keep (HB1.out.block b hG)).at lg.out;have hbr:b<wr.heap.size:=Nat.lt_of_lt_of_le hbs HB1.out.size;have hcsz:(cs x P).size=n21:=lg.out;have ld1:=(hcw).gJ lg.out;have pI:=(hcw).loadVar;have pJ:=(hcw).loadAt;have st1:=Kg x P;have st2:=Ki x P;have qZ:=Kh x P;clear hcell hc21 xI hx hmem hgx hkl hcw
     gi_wp2_with fail
     have hbW:av wr.heap.size wr (wr.alloc (.cells (cs x P) 58)):=bl;have hle:=HB1.out.size;have hcap:eT (sl.take k)+cn x<=eT sl:=by rw[← aia HX.out];exact ah_ _ _
     have hcn:=Am x;have hlen:ys.length=eT (sl.take k):=by
      have:=congrArg List.length HS.out.1;rwa [List.length_map,NC] at this
     have hN:=HN.out;have hnn:=H8.out;have hTT:=oO.out;have hsw:=HS.out.2.2.below.size;have hy:=HY.out (n-1) (ps++ys) ⟨x,P,Ag.out,jB.out.mem HM.out⟩ _ (HJ.out _ _ _ HS.out.2.1 hbW) (by rw[af];omega);obtain⟨r0,hr0⟩:∃r0:Nd n₀ W0,r0=⟨x,P,Ag.out,jB.out.mem HM.out⟩:=⟨_,rfl⟩
     rw[← hr0] at hy;have hr1:uI r0=#[.agg (cs x P)]:=by rw[hr0];rfl
     have Ll:Hid (r0.x=x):=ak (by rw[hr0]);rw[hr1] at hy;clear hr0 hr1;have mg:=ak hbW;have hy2:=YieldAt.mono hy (R':=fun e W2=>(e=.returned (.bool true)/\Hid (J (ps++(ys++[r0])) W2)/\Hid (Kp n₀ T W W2)/\Hid (dG W2 wr.heap.size x P)/\Hid (wr.heap.size<W2.heap.size))∨(e=.returned (.bool false)/\Hid (Jx (ps++(ys++[r0])) W2)))
      (fun e W2 h=>h.elim (fun⟨he,hj,hk⟩=>.inl ⟨he,ak (by rwa [List.append_assoc] at hj),ak ((HS.out.2.2.trans (Kp.of_below mg.out bU)).trans hk),ak (hk.box bU Ak),ak (hk.box bU Ak).lt⟩) fun⟨he,hj⟩=>.inr ⟨he,ak (by rwa [List.append_assoc] at hj)⟩)
     obtain⟨fn,tmps,assign,body,hy3,hR⟩:=hy2;have ldb:=(dG.cell (Ak (w:=wr) (x:=x) (P:=P))).gJ lg.out;have HI0:=HI.out x HM.out;have WN:Hid (ps.length+(ys.length+cn x)<=N):=ak bU;have WL:=ak hcn;have WU:=ak (jB.out);have uh:Hid (n₀<=W.heap.size/\T<=W.heap.size):=ak ⟨by have:=HB0.out.size;omega,hTT⟩;clear hy hbW hle hcap hcn hlen hN hnn hTT hsw
     go_simp
     gi_wp2_with ((try refine⟨hdd _,?_⟩);refine hR.mono ?_;clear hR;rintro e W2 (⟨rfl,HJ2,CW,iX,HZ2⟩|⟨rfl,iX⟩) <;> (try have q19:=iX.out.c19))
     · refine((HI0.1 (n-1) P.bp P.bm P.bc (ps++(ys++[r0])) W2 Ag.out.bo (WU.out.bo HM.out) (HB0.out.trans CW.out.below) (ay uh.out.2 CW.out.below.size) HJ2.out (by simp only[af,ag,List.length_nil];have:=WN.out;have:=WL.out;omega))).mono ?_;rintro e W3 (⟨rfl,zs,hz1,hz2,hz3⟩|⟨rfl,q,hq1,hq2⟩)
       · have Lr:=ak (hz3.box (ay uh.out.2 HS.out.2.2.below.size) iX.out);have q20:=Lr.out.c20;have PX:=ak (CW.out.trans hz3);have HJ3:=ak hz2;have HZ3:=ak hz1;clear hz1 hz2 hz3;have hzl:zs.length=eT x.bo:=by
          have:=congrArg List.length HZ3.out;rwa [List.length_map,NC] at this
         have HZL:=ak hzl;clear hzl
         gi_wp2_with fail
         refine((HI0.2 (n-1) P.lp P.lm P.lc (ps++(ys++[r0])++zs) W3 Ag.out.el (WU.out.el HM.out) (HB0.out.trans PX.out.below) (ay uh.out.2 PX.out.below.size) HJ3.out (by simp only[af,ag,List.length_nil];have:=WN.out;have:=WL.out;have:=HZL.out;omega))).mono ?_;rintro e W4 (⟨rfl,us,hu1,hu2,hu3⟩|⟨rfl,q,hq1,hq2⟩)
         · have HK4:=ak (PX.out.trans hu3);have HR:Hid ((ys++([r0]++(zs++us))).map Nd.x=fq (sl.take (k+1))/\J (ps++(ys++([r0]++(zs++us)))) W4/\Kp n₀ T W W4):=ak ⟨by
            rw[abP HX.out,List.map_append,HS.out.1,List.map_append,List.map_append,HZ3.out,hu1,zB];simp only[List.map_cons,List.map_nil,Ll.out,ae,List.nil_append],by simpa [List.append_assoc] using hu2,HK4.out⟩
           clear hu1 hu2 hu3
           gi_wp2_with fail
           go_roundw
           case rel=>exact⟨k+1,_,by omega,by go_num,HR⟩
           case measure=>simp[intOf];omega
         · have HR:Hid (∃q:List (Nd n₀ W0),q.map Nd.x <+: fq sl/\Jx (ps++q) W4):=ak ⟨ys++([r0]++(zs++q)),by
            rw[List.map_append,HS.out.1,List.map_append,List.map_append,HZ3.out];refine TN HX.out ?_;simp only[List.map_cons,List.map_nil,Ll.out,ae,List.nil_append];exact amz hq1,by simpa [List.append_assoc] using hq2⟩
           clear hq1 hq2
           gi_wp2_with fail
           go_ret;exact .inr ⟨rfl,HR.out⟩
       · have HR:Hid (∃q:List (Nd n₀ W0),q.map Nd.x <+: fq sl/\Jx (ps++q) W3):=ak ⟨ys++([r0]++q),by
          rw[List.map_append,HS.out.1,List.map_append];refine TN HX.out ?_;simp only[List.map_cons,List.map_nil,Ll.out,ae,List.nil_append];exact amy hq1,by simpa [List.append_assoc] using hq2⟩
         clear hq1 hq2
         gi_wp2_with fail
         go_ret;exact .inr ⟨rfl,HR.out⟩
     · go_ret;exact .inr ⟨rfl,ys++[r0],by
        rw[List.map_append,HS.out.1];refine TN HX.out ?_;simp only[List.map_cons,List.map_nil,Ll.out];exact amx x,iX.out⟩
   · obtain rfl:m=k:=by omega
     have HT:Hid (sl.take m=sl):=ak (List.take_of_length_le t_);rw[HT.out] at HS
     gi_wp2
     go_ret;exact .inl ⟨rfl,ys,HS.out⟩
theorem Tg (F:Fence) (hd:F.depth=ah) (hf:F.fn 105) (hg:F.fn 104) (hro:F.round=ah) (n l B n₀ T:Nat) (W0:ai) (hn:n₀<=W0.heap.size) (J Jx:List (Nd n₀ W0)->ai->Prop) (sl:List St)
 (hJ:∀s W W',J s W->av W.heap.size W W'->J s W')
 (hY : ∀ ps r W, J ps W → ps.length < eT sl → YieldAt F (n - 1) aj l (uI r) W fun e W' =>
   (e=.returned (.bool true)/\J (ps++[r]) W'/\Kp n₀ T W W')∨(e=.returned (.bool false)/\Jx (ps++[r]) W'))
 (p:Option Addr) (m c:Nat) (W:ai) (hx:W.cell? ⟨B,0,ah⟩=au (.slice p m c)) (hk:dE (Lo n₀) W0 sl p m) (hs:lu sl) (hb:av n₀ W0 W) (hT:T<=W.heap.size) (h0:J [] W) :
 CallsIn F n aj 104 #[.func (.yield l) #[] #[],.pointer (au ⟨B,0,ah⟩)] W fun e' W'=>(∃v,e'=.returned v) /\
  ((∃ys,ys.map Nd.x=fq sl/\J ys W')∨(∃q,q.map Nd.x <+: fq sl/\Jx q W')):=by
 have hdd:∀k:Nat,(F.depth.isSome=true->1<=k):=fun k h=>by rw[hd] at h;cases h
 have hp:=U6 F hd hf hro l n₀ T (eT sl) W0 hn J Jx hJ (fun m ps r W hj hl=>Vb hd m (hY ps r W hj hl)) sl (n-1) p m c [] W hk hs hb hT h0 cz;clear hY hk hs hn hT h0 hJ;refine callsIn_of_wp func104 rfl hg ?_ hro;simp only[ntmps104,List.size_toArray,ag,List.length_nil,Nat.reduceAdd,Nat.reduceSub,Array.replicate_succ,Array.replicate_zero,List.push_toArray,List.append_toArray,List.nil_append,ae]
 gi_wp2_with ((try refine⟨hdd _,?_⟩);gi_at_call 105;refine hp.mono ?_;clear hp;rintro e W1 (⟨rfl,ys,h1,h2,-⟩|⟨rfl,q,h1,h2⟩))
 · go_end0
   exact⟨⟨_,rfl⟩,.inl ⟨ys,h1,by simpa using h2⟩⟩
 · go_end0
   exact⟨⟨_,rfl⟩,.inr ⟨q,h1,by simpa using h2⟩⟩
theorem adb (F:Fence) (n:Nat) (hf:F.fn 59) (hro:F.round=ah) (p:Option Addr) (m c:Nat) (w:ai) :
 CallsIn F n aj 59 #[.slice p m c] w fun e w'=>e=.returned (.func (.func 104) #[] #[.pointer (au ⟨w.heap.size,0,ah⟩)])/\w'=w.alloc (.cells #[.slice p m c] 39):=by
 refine callsIn_of_wp func59 rfl hf ?_ hro;simp only[ntmps59,List.size_toArray,ag,List.length_nil,Nat.reduceAdd,Nat.reduceSub,Array.replicate_succ,Array.replicate_zero,List.push_toArray,List.append_toArray,List.nil_append,ae]
 gi_wp2
 go_ret;exact⟨rfl,rfl⟩
theorem adf (F:Fence) (hd:F.depth=ah) (hf:F.fn 105) (hg:F.fn 104) (hro:F.round=ah) (n B n₀ T:Nat) (W0:ai) (hn:n₀<=W0.heap.size) (sl:List St) (p:Option Addr) (m c:Nat) (w:ai) (hx:w.cell? ⟨B,0,ah⟩=au (.slice p m c)) (hk:dE (Lo n₀) W0 sl p m) (hs:lu sl) (hb:av n₀ W0 w) (hT:T<=w.heap.size) :
 SeqStopsK F n aj 104 #[.pointer (au ⟨B,0,ah⟩)] (uI (n₀:=n₀) (W0:=W0)) (Kp n₀ T) (fun ys=>ys.map Nd.x=fq sl) (fun q=>q.map Nd.x <+: fq sl) (eT sl) w:=fun l J Jx W hW hJ _ hY h0=>
 Tg F hd hf hg hro n l B n₀ T W0 hn J Jx sl (fun s W W' h hb=>Qp hJ h hb) hY p m c W ((hW.cell (p:=⟨B,0,ah⟩) (block_lt hx)).trans hx) hk hs (hb.trans (hW.mono (ay hn hb.size))) (ay hT hW.size) h0
end Sm
namespace Sm
open Go.RowKit Go.Shelf
open Ex (Gives uq EA pq)
attribute [local go_sem] Oper.semAt_some
theorem TE {n₀:Nat} {W0:ai} {ys:List (Nd n₀ W0)} {sl:List St} (h:ys.map Nd.x=fq sl):ys.length=eT sl:=by
 have:=congrArg List.length h;rwa [List.length_map,NC] at this
theorem TT {n₀:Nat} {W0:ai} {q:List (Nd n₀ W0)} {sl:List St} (h:q.map Nd.x <+: fq sl):q.length<=eT sl:=by
 have:=h.length_le;rwa [List.length_map,NC] at this
theorem nI {p:Prop} (h:p:=by omega):p:=h
theorem Bj {p:Prop} (h:p:=by simp;omega):p:=h
theorem TG (sl:List St) (p:Option Addr) (m c:Nat) (w:ai) (h:qB w sl p m) (hs:lu sl):Calls aj 57 #[.slice p m c,.int .i64 200] w (Gives (.bool (decide (200<eT sl))) w):=by
 have HH:=ak h;have HS:=ak hs;clear h hs;refine(callsIn_wide (n:=3)).1 ?_;refine callsIn_of_wp_marks func57 rfl trivial ?_ rfl;simp only[ntmps57,List.size_toArray,ag,List.length_nil,Nat.reduceAdd,Nat.reduceSub,Array.replicate_succ,Array.replicate_zero,List.push_toArray,List.append_toArray,List.nil_append,ae]
 gi_wp2_with (refine⟨trivial,?_⟩;gi_at_call 59;refine(adb Fence.wide _ trivial rfl _ _ _ _).mono ?_;rintro e w' ⟨rfl,rfl⟩)
 obtain⟨w2,hw2⟩:∃w2,w.alloc (.cells #[.int .i64 200] 3)=w2:=⟨_,rfl⟩
 have hz2:w2.heap.size=w.heap.size+1:=by rw[← hw2];simp
 have hb2:av w.heap.size w w2:=by rw[← hw2];exact bl
 have h2:=uq w (.int .i64 200) 3;rw[hw2] at h2;obtain⟨w3,hw3⟩:∃w3,w2.alloc (.cells #[.bool false] 4)=w3:=⟨_,rfl⟩
 have hz3:w3.heap.size=w.heap.size+2:=by rw[← hw3];simp[hz2]
 have hb3:av w2.heap.size w2 w3:=by rw[← hw3];exact bl
 have h3:=uq w2 (.bool false) 4;rw[hw3] at h3;obtain⟨w4,hw4⟩:∃w4,w3.alloc (.cells #[.int .i64 0] 3)=w4:=⟨_,rfl⟩
 have jh:w4.heap.size=w.heap.size+3:=by rw[← hw4];simp[hz3]
 have hb4:av w3.heap.size w3 w4:=by rw[← hw4];exact bl
 have h4:=uq w3 (.int .i64 0) 3;rw[hw4] at h4;obtain⟨w5,wI⟩:∃w5,w4.alloc (.cells #[.slice p m c] 39)=w5:=⟨_,rfl⟩
 have F6:w5.heap.size=w.heap.size+4:=by rw[← wI];simp[jh]
 have hb5:av w4.heap.size w4 w5:=by rw[← wI];exact bl
 have h5:=uq w4 (.slice p m c) 39;rw[wI] at h5;have g2:w5.cell? ⟨w.heap.size,0,ah⟩=au (.int .i64 200):=(hb5.cell Bj).trans ((hb4.cell Bj).trans ((hb3.cell Bj).trans h2.1));have g3:w5.cell? ⟨w2.heap.size,0,ah⟩=au (.bool false):=(hb5.cell Bj).trans ((hb4.cell Bj).trans h3.1);have I5:w5.frozen? ⟨w2.heap.size,0,ah⟩=false:=(hb5.frozen Bj).trans ((hb4.frozen Bj).trans h3.2);have g4:w5.cell? ⟨w3.heap.size,0,ah⟩=au (.int .i64 0):=(hb5.cell Bj).trans h4.1;have I6:w5.frozen? ⟨w3.heap.size,0,ah⟩=false:=(hb5.frozen Bj).trans h4.2;have hb:av w.heap.size w w5:=hb2.trans ((hb3.mono nI).trans ((hb4.mono nI).trans (hb5.mono nI)));have g5:=h5.1;rw[hz2] at g3 I5;rw[hz3] at g4 I6;rw[jh] at g5;rw[hw2,hw3,hw4,wI];clear hw2 hw3 hw4 wI hb2 hb3 hb4 hb5 h2 h3 h4 h5 hz2 hz3 jh;refine wpIn_rangeFunc_ownG rfl nI (gf:=104) (lb:=#[.pointer (au ⟨w.heap.size+1+1+1,0,ah⟩)]) rfl trivial (enters_of func104 dA rfl)
  (adf Fence.wide rfl trivial trivial rfl _ (w.heap.size+1+1+1) w.heap.size w5.heap.size w (ax _) sl p m c w5 g5 HH.out HS.out hb (ax _)) (fun h k=>h.trans k) (Kp.put nI) (Below.refl _ _) (fun _=>rfl)
  (fun ps W=>((W.cell? ⟨w.heap.size+1+1,0,ah⟩=au (.int .i64 (ps.length:Nat))/\W.frozen? ⟨w.heap.size+1+1,0,ah⟩=false)/\W.cell? ⟨w.heap.size,0,ah⟩=au (.int .i64 200)/\W.cell? ⟨w.heap.size+1,0,ah⟩=au (.bool false)/\W.frozen? ⟨w.heap.size+1,0,ah⟩=false/\ps.length<=200)/\av w.heap.size w W)
  (fun c ps W=>(c=.ret/\200<ps.length/\W.cell? ⟨w.heap.size+1,0,ah⟩=au (.bool true))/\av w.heap.size w W)
  (OwnFrom.and (Own.from (fun s A B row hs hg hr=>⟨⟨cell_kept hs.1.1 hg hr,(frozen_kept hs.1.1 hg hr).trans hs.1.2⟩,cell_kept hs.2.1 hg hr,cell_kept hs.2.2.1 hg hr,(frozen_kept hs.2.2.1 hg hr).trans hs.2.2.2.1,hs.2.2.2.2⟩) _) (ownFrom_below (ax _) nI))
  (fun c=>OwnFrom.and (Own.from (fun s A B row hs hg hr=>⟨hs.1,hs.2.1,cell_kept hs.2.2 hg hr⟩) _) (ownFrom_below (ax _) nI))
  ⟨⟨⟨g4,I6⟩,g2,g3,I5,by simp⟩,hb⟩
  (fun x=>{ tmps:=#[.slice p m c,.int .i64 200,undef,.pointer (au ⟨w.heap.size,0,ah⟩),.pointer (au ⟨w.heap.size+1,0,ah⟩),.pointer (au ⟨w.heap.size+1+1,0,ah⟩),.slice p m c,.func (.func 104) #[] #[.pointer (au ⟨w.heap.size+1+1+1,0,ah⟩)],.agg (cs x.x x.P),undef,undef,undef,undef,undef],defers:=[] }) ?assign ?body ?done ?stop
 case assign=>
  intro l x W K hK;simp only[uI]
  gi_wp2
  simp[go_sem]
  exact hK
 case body=>
  rintro l ps x W ⟨⟨⟨hc,hf⟩,I7,hr,hrf,hle⟩,hB⟩ hlt;have hlt2:(ps.length:Int)<=200:=by omega
  by_cases h6:ps.length=200
  · have e6:(ps.length:Int)=200:=by omega
    rw[e6] at hc;clear hlt2 e6
    gi_wp2
    refine⟨((KeepsOthers.setCell _ _ _).trans (KeepsOthers.setCell _ _ _)).from _,⟨rfl,by rw[af,h6];simp,?_⟩,pq (pq hB nI _) nI _⟩;exact World.cell?_setCell_same' _ _ _ (by rw[EA hr nI];rfl)
  · have l6:(ps.length:Int)+1<=200:=by omega
    gi_wp2
    refine⟨(KeepsOthers.setCell _ _ _).from _,Kp.set nI nI _,⟨⟨?_,by rw[World.frozen?_setCell];exact hf⟩,?_,?_,by rw[World.frozen?_setCell];exact hrf,by rw[af];simp;omega⟩,pq hB nI _⟩
    · rw[World.cell?_setCell_same' _ _ _ (by rw[hc];rfl),af]
      congr 2
    · exact EA I7 nI _
    · exact EA hr nI _
 case done=>
  rintro D ys W hD hys ⟨⟨⟨hc,hf⟩,I7,hr,hrf,hle⟩,hB⟩ hK;have hl:=TE hys;have hv:decide (200<eT sl)=false:=decide_eq_false nI;have HV:=ak hv
  gi_wp2
  have hK':=(KeepsOthers.setCell W ⟨w.heap.size+1,0,ah⟩ (.bool false)).same D _ hK rfl;refine⟨by simp,.inl ⟨_,_,rfl,run_takeDeferred hK',?_⟩⟩;have rP:=cell_kept (World.cell?_setCell_same' W ⟨w.heap.size+1,0,ah⟩ (.bool false) (by rw[hr];rfl)) (grownBy_putObj' _ D (.deferred ah)) (fun r e=>by cases e;exact⟨_,hK',rfl⟩);refine⟨.bool false,?_,by rw[HV.out],(pq hB nI _).trans (belowK_b (w:=w) (ax _) _ D _ _ nI hK' rfl rfl)⟩;simp[results,Tryz.f57,go_sem,rP]
 case stop=>
  rintro D c ps W hD hps ⟨⟨rfl,h6,hr⟩,hB⟩ hK;have hl:=TT hps;have hv:decide (200<eT sl)=true:=decide_eq_true nI;have HV:=ak hv
  gi_wp2
  refine⟨by simp,.inl ⟨_,_,rfl,run_takeDeferred hK,?_⟩⟩;have rP:=cell_kept hr (grownBy_putObj' _ D (.deferred ah)) (fun r e=>by cases e;exact⟨_,hK,rfl⟩);refine⟨.bool true,?_,by rw[HV.out],hB.trans (belowK_b (w:=w) (ax _) W D _ _ nI hK rfl rfl)⟩;simp[results,Tryz.f57,go_sem,rP]
end Sm
namespace Sm
open Go.RowKit
open Ex (Gives)
attribute [local go_sem] cs0 cs1 cs2 wo wu wy wB wC wD wE vQ vR vS vT vU vV vW vX vY vZ v_
theorem ak2 {w':ai} {g:Nat} {x:St} {P:Pl} (h:dG w' g x P):w'.cell? ⟨g,19,ah⟩=au (.slice P.bp P.bm P.bc)/\w'.cell? ⟨g,20,ah⟩=au (.slice P.lp P.lm P.lc):=⟨h.c19,h.c20⟩
theorem Ri (sl:List St):∀(p:Option Addr) (m c:Nat) (w:ai),qB w sl p m->eT sl<=4000000->Calls aj 58 #[.slice p m c] w (Gives (.int .i64 (gW sl:Nat)) w):=by
 induction sl using TC with
 | h sl ih=>
  intro p m c w h hc;have HH:=ak h;have HI:=ak ih;obtain⟨hl,hm⟩:=h.len;have HL:=ak hl;have HC:=ak hc;clear ih h hl hc;rcases Nat.eq_zero_or_pos m with h0|h0
  · have hz:sl=[]:=List.length_eq_zero_iff.1 (by rw[HL.out,h0]);subst h0;rw[show gW sl=0 by rw[hz,gW]];clear hz;go_enter func58,ntmps58;exact dS
  have hd:=RB (l:=sl) (by rw[HL.out];exact h0);rw[hd];clear hd;have t0:((m:Int)==0)=false:=beq_eq_false_iff_ne.2 bU;obtain⟨n21,nT⟩:∃n:Nat,21=n:=⟨_,rfl⟩
  have hsz:∀w,(sizeOf 58).run aj w=.ok n21 w:=fun w=>by rw[sizeOf58,nT]
  have lg:=ak nT;clear nT;go_enter func58,ntmps58;go_wp2_with fail;go_loopw [3,11] (fun d i wr=>∃k:Nat,k<=m/\d=.int .i64 (oH (sl.take k):Nat)/\i=.int .i64 (k:Nat)/\Hid (av w.heap.size w wr)) (fun d i _=>m-(intOf i).toNat)
  case atStart=>exact⟨0,Nat.zero_le _,rfl,rfl,ak bl⟩
  case round=>
   obtain⟨k,hk,rfl,rfl,HW⟩:=hrel;have k0:(0:Int)<=(k:Int):=by omega
   rcases Nat.lt_or_ge k m with h|h
   · have k1:(k:Int)<(m:Int):=by omega
     obtain⟨b,o',rfl,-,hG,hcell⟩:=HH.out.rows bU;have hkl:k<sl.length:=by rw[HL.out];omega
     obtain⟨P,hc21,xI⟩:=hcell.out k hkl;have hmem:sl[k]∈sl:=List.getElem_mem hkl;have hgx:sl[k]?=au sl[k]:=List.getElem?_eq_getElem hkl;obtain⟨x,hx⟩:∃x,sl[k]=x:=⟨_,rfl⟩
     rw[hx] at hc21 xI hmem hgx;have Ag:=ak xI;have HX:=ak hgx;have HM:=ak hmem;have hcw:=(hc21.on HW.out hG).at lg.out;have hbr:b<wr.heap.size:=Nat.lt_of_lt_of_le hG HW.out.size;have hcsz:(cs x P).size=n21:=lg.out;have ld1:=(hcw).gJ lg.out;have pI:=(hcw).loadVar;have pJ:=(hcw).loadAt;have st1:=Kg x P;have st2:=Ki x P;have qZ:=Kh x P;have PV:=ak hcw;clear hcell hc21 xI hx hmem hgx hkl hcw;have d1:=aaB sl k;have HK:=ak (aky HX.out);obtain⟨i1,i2⟩:=HI.out x HM.out;have d2:=Fz HM.out;rw[Am] at d2;have c1:=Mw x.bo;have c2:=Mw x.el;obtain⟨D,hD⟩:∃D,oH (sl.take k)=D:=⟨_,rfl⟩
     obtain⟨E,hE⟩:∃E,gW x.bo=E:=⟨_,rfl⟩
     obtain⟨F,hF⟩:∃F,gW x.el=F:=⟨_,rfl⟩
     have hcc:=HC.out;have F1:=ak (fun W hi=>i1 P.bp P.bm P.bc W hi bU);have F2:=ak (fun W hi=>i2 P.lp P.lm P.lc W hi bU);rw[hD] at d1 HK ⊢;rw[hE] at c1 HK F1;rw[hF] at c2 HK F2;have d3:D<=4000000:=by omega
     have d4:E<=4000000:=by omega
     have d5:F<=4000000:=by omega
     clear hD hE hF i1 i2 c1 c2 d1 d2 hcc;have HBX:Hid (∀W,av (wr.alloc (.cells (cs x P) 58)).heap.size (wr.alloc (.cells (cs x P) 58)) W->dG W wr.heap.size x P):=ak fun W hb=>Ak.on hb;obtain⟨M,hM⟩:∃M,max D (max E F)=M:=⟨_,rfl⟩
     have hmx:∀(ts:Array TypeId) (t:TypeId) (W:ai),(Builtin.max_ ts t #[.int .i64 (D:Int),.int .i64 (E:Int),.int .i64 (F:Int)]).run aj W=.ok (.int .i64 (M:Int)) W:=fun ts t W=>by
      rw[run_max_int3]
      congr 2
      rw[← hM]
      split <;> split at * <;> omega
     rw[hM] at HK;have hM2:M<=4000000:=by omega
     clear hM d3 d4 d5;go_wp2_with fail;go_region_held3 (fun w'=>w'.cell? ⟨wr.heap.size,19,ah⟩=au (.slice P.bp P.bm P.bc)/\w'.cell? ⟨wr.heap.size,20,ah⟩=au (.slice P.lp P.lm P.lc)) (first|(refine ak2 (HBX.out _ ?_);exact bl;done)|(go_keep;done)) (first|(have t:=hb1;go_at_call 58;refine(F2.out _ (Ag.out.el.on rq)).mono ?_;rintro e w2 ⟨rfl,hb2⟩)|(go_at_call 58;refine(F1.out _ (Ag.out.bo.on rq)).mono ?_;rintro e w1 ⟨rfl,hb1⟩))
     all_goals
      have HWz:Hid (av w.heap.size w w2):=ak rq;go_wp2_with fail;go_roundw
      case rel=>exact⟨k+1,by omega,by rw[HK.out],by go_num,HWz⟩
      case measure=>simp[intOf];omega
   · obtain rfl:m=k:=by omega
     have HT:Hid (sl.take m=sl):=ak (List.take_of_length_le t_);have d1:=aaB sl m;have d2:=HC.out;rw[HT.out] at d1 ⊢;have d9:=aaC sl;have d8:=Mw sl;obtain⟨D,hD⟩:∃D,oH sl=D:=⟨_,rfl⟩
     rw[hD] at d1 d9 ⊢;have d3:D<=4000000:=by omega
     have HD:=ak hD;clear hD d1 d2 d8 d9;go_wp2_with fail;go_ret;exact⟨by rw[HD.out];go_num,HW.out⟩
end Sm
end Go.Proofs.YthnillhnjhalmaaGreatDoor
