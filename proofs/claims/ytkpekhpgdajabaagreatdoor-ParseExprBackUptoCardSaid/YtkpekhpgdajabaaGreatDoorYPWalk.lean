/-
  Parts of this proof: The contracts of walk, of the closure of stateme. The contracts of Count and of hasMore. The contract of Depth. Words for lists of texts in memory; the contract. The contract of Names.
-/
import Derived.Test.YtkpekhpgdajabaaGreatDoorYEWalk
open Go.Proofs.Tryz
open Go renaming World->ae
open List renaming cons_append->af,length_append->ag,length_cons->ai
open Option renaming none->ah,some->av
open Go.Proofs.Tryz renaming prog->aj
open Go.RowKit renaming Below->ak
open Go.Lib renaming hid->au
open Nat renaming le_trans->ax,le_refl->ay,lt_of_lt_of_le->az
set_option linter.unusedVariables false
set_option maxRecDepth 100000
set_option maxHeartbeats 4000000
open Go.Lib (hid)
namespace Go.Proofs.YtkpekhpgdajabaaGreatDoor
namespace Sm
open Go.RowKit Go.Shelf
open Ex (Lo block_lt TS OH)
attribute [local go_sem] Oper.semAt_some
attribute [local go_sem] cs0 cs1 cs2 uW uX uY uZ u_ ve vg uI uJ uK uM uP uQ uR uS uT uU uV
structure Nd (n₀:Nat) (W0:ae) where
 x:St
 P:Pl
 hi:dh (Lo n₀) W0 x P
 hs:BS x
def sQ {n₀:Nat} {W0:ae} (r:Nd n₀ W0):Array Value:=#[.agg (cs r.x r.P)]
structure Kp (n₀ T:Nat) (W W':ae):Prop where
 below:ak n₀ W W'
 same:∀(k:Nat) (C:Array Value) (fr:Nat×Nat),T<=k->W.heap[k]?=av (.cells C 62 fr)->W'.heap[k]?=av (.cells C 62 fr)
theorem Kp.refl (n₀ T:Nat) (W:ae):Kp n₀ T W W:=⟨Below.refl _ _,fun _ _ _ _ h=>h⟩
theorem Kp.trans {n₀ T:Nat} {A B C:ae} (h:Kp n₀ T A B) (k:Kp n₀ T B C):Kp n₀ T A C:=⟨h.below.trans k.below,fun i c fr hi hc=>k.same i c fr hi (h.same i c fr hi hc)⟩
theorem Kp.of_below {n₀ T:Nat} {W W':ae} (h:ak W.heap.size W W') (hn:n₀<=W.heap.size):Kp n₀ T W W':=⟨h.mono hn,fun k c fr _ hc=>(h.block k (Array.getElem?_eq_some_iff.1 hc).1).trans hc⟩
theorem Kp.box {n₀ T g:Nat} {W W':ae} {x:St} {P:Pl} (h:Kp n₀ T W W') (hT:T<=g) (hb:dB W g x P):dB W' g x P:=h.same g _ _ hT hb
theorem Kp.put {n₀ T:Nat} {w:ae} (hn:n₀<=w.heap.size) (W:ae) (l:Nat) (o o':Obj) (hl:w.heap.size<=l) (h:W.heap[l]?=av o) (h1:o.isCells=false) (h2:o.isWalk=false):Kp n₀ T W (W.putObj l o'):=
 ⟨belowK_b hn W l o o' hl h h1 h2, fun k c fr _ hc => by
   rw[World.putObj_heap_other]
   · exact hc
   · intro e;subst e;rw[h] at hc;cases hc
     cases h1⟩
theorem Kp.set {n₀ T:Nat} {W:ae} {B:Nat} (h0:n₀<=B) (hT:B<T) (v:Value):Kp n₀ T W (W.setCell ⟨B,0,ah⟩ v):=
 ⟨(Below.refl n₀ W).setCell (p:=⟨B,0,ah⟩) h0 v,fun k c fr hk hc=>((grownBy_setCell' W B v).block k (Array.getElem?_eq_some_iff.1 hc).1 (fun e=>by cases e;omega)).trans hc⟩
theorem RV {sl:List St} {k:Nat} {x:St} {q:List St} (h:sl[k]?=av x) (hq:q <+: ord x):eU (sl.take k)++q <+: eU sl:=by
 have h2:=Fe (sl.take (k+1)) (sl.drop (k+1));rw[List.take_append_drop,aaR h,List.append_assoc] at h2;rw[h2,List.prefix_append_right_inj];exact hq.trans (List.prefix_append _ _)
theorem ak1 (x:St):[x] <+: ord x:=by rw[yJ];exact⟨_,rfl⟩
theorem ak2 {x:St} {q:List St} (h:q <+: eU x.bo):x::q <+: ord x:=by
 rw[yJ,List.cons_prefix_cons];exact⟨rfl,h.trans (List.prefix_append _ _)⟩
theorem ak3 {x:St} {q:List St} (h:q <+: eU x.el):x::(eU x.bo++q) <+: ord x:=by
 rw[yJ,List.cons_prefix_cons];exact⟨rfl,by rw[List.prefix_append_right_inj];exact h⟩
theorem TL (F:Fence) (hd:F.depth=ah) (hf:F.fn 103) (hro:F.round=ah) (l n₀ T N:Nat) (W0:ae) (hn:n₀<=W0.heap.size) (J Jx:List (Nd n₀ W0)->ae->Prop)
 (hJ:∀s W W',J s W->ak W.heap.size W W'->J s W')
 (hY : ∀ m ps r W, J ps W → ps.length < N → YieldAt F m aj l (sQ r) W fun e W' =>
   (e=.returned (.bool true)/\J (ps++[r]) W'/\Kp n₀ T W W')∨(e=.returned (.bool false)/\Jx (ps++[r]) W')) (sl:List St) :
 ∀(n:Nat) (p:Option Addr) (m c:Nat) (ps:List (Nd n₀ W0)) (W:ae),dA (Lo n₀) W0 sl p m->kP sl->ak n₀ W0 W->T<=W.heap.size->J ps W->ps.length+eF sl<=N ->
  CallsIn F n aj 103 #[.slice p m c,.func (.yield l) #[] #[]] W fun r W'=>
   (r=.returned (.bool true)/\∃ys,ys.map Nd.x=eU sl/\J (ps++ys) W'/\Kp n₀ T W W')∨(r=.returned (.bool false)/\∃q,q.map Nd.x <+: eU sl/\Jx (ps++q) W'):=by
 induction sl using Rx with
 | h sl ih=>
  intro n p m c ps W ht hsz hb0 hT hJ0 hN;have hdd:∀k:Nat,(F.depth.isSome=true->1<=k):=fun k h=>by rw[hd] at h;cases h
  obtain⟨hl,hm⟩:=ht.len;have HH:=au ht;have HI:=au ih;have HL:=au hl;have je:=au hsz;have HJ:=au hJ;have HY:=au hY;have HN:=au hN;have HB0:=au hb0;have Gm:=au hn;have oD:=au hT;have HJ0:=au hJ0;clear hY hJ hJ0 hN ih ht hsz hn hT hl hb0;obtain⟨n21,nH⟩:∃n:Nat,21=n:=⟨_,rfl⟩
  have hsz:∀w,(sizeOf 62).run aj w=.ok n21 w:=fun w=>by rw[sizeOf62,nH]
  have kK:=au nH;clear nH;refine callsIn_of_wp func103 rfl hf ?_ hro;simp only[ntmps103,List.size_toArray,ai,List.length_nil,Nat.reduceAdd,Nat.reduceSub,Array.replicate_succ,Array.replicate_zero,List.push_toArray,List.append_toArray,List.nil_append,af]
  gi_wp2_with fail
  gi_loopw [9] (fun i wr=>∃(k:Nat) (ys:List (Nd n₀ W0)),k<=m/\i=.int .i64 (k:Nat)/\Hid (ys.map Nd.x=eU (sl.take k)/\J (ps++ys) wr/\Kp n₀ T W wr)) (fun i _=>m-(intOf i).toNat)
  case atStart=>exact⟨0,[],Nat.zero_le _,rfl,au ⟨by rw[List.take_zero,eU];rfl,by rw[List.append_nil];exact HJ0.out,Kp.refl _ _ _⟩⟩
  case round=>
   obtain⟨k,ys,hk,rfl,HS⟩:=hrel;have k0:(0:Int)<=(k:Int):=by omega
   rcases Nat.lt_or_ge k m with h|h
   · have k1:(k:Int)<(m:Int):=by omega
     obtain⟨b,o',rfl,hG,hbs,hcell⟩:=HH.out.rows bT;have hkl:k<sl.length:=by rw[HL.out];omega
     obtain⟨P,hc21,wO⟩:=hcell.out k hkl;have hmem:sl[k]∈sl:=List.getElem_mem hkl;have hgx:sl[k]?=av sl[k]:=List.getElem?_eq_getElem hkl;obtain⟨x,hx⟩:∃x,sl[k]=x:=⟨_,rfl⟩
     rw[hx] at hc21 wO hmem hgx;have zh:=au wO;have HX:=au hgx;have HM:=au hmem;have HB1:=au (HB0.out.trans HS.out.2.2.below);have hcw:=(hc21.keep (HB1.out.block b hG)).at kK.out;have hbr:b<wr.heap.size:=az hbs HB1.out.size;have hcsz:(cs x P).size=n21:=kK.out;have ld1:=(hcw).fZ kK.out;have oU:=(hcw).loadVar;have oV:=(hcw).loadAt;have st1:=IZ x P;have st2:=I5 x P;have qB:=I4 x P;clear hcell hc21 wO hx hmem hgx hkl hcw
     gi_wp2_with fail
     have hbW:ak wr.heap.size wr (wr.alloc (.cells (cs x P) 62)):=bl;have hle:=HB1.out.size;have hcap:eF (sl.take k)+cn x<=eF sl:=by rw[← agI HX.out];exact agH _ _
     have hcn:=zq x;have hlen:ys.length=eF (sl.take k):=by
      have:=congrArg List.length HS.out.1;rwa [List.length_map,Mg] at this
     have hN:=HN.out;have hnn:=Gm.out;have Za:=oD.out;have hsw:=HS.out.2.2.below.size;have hy:=HY.out (n-1) (ps++ys) ⟨x,P,zh.out,je.out.mem HM.out⟩ _ (HJ.out _ _ _ HS.out.2.1 hbW) (by rw[ag];omega);obtain⟨r0,hr0⟩:∃r0:Nd n₀ W0,r0=⟨x,P,zh.out,je.out.mem HM.out⟩:=⟨_,rfl⟩
     rw[← hr0] at hy;have hr1:sQ r0=#[.agg (cs x P)]:=by rw[hr0];rfl
     have JJ:Hid (r0.x=x):=au (by rw[hr0]);rw[hr1] at hy;clear hr0 hr1;have lL:=au hbW;have hy2:=YieldAt.mono hy (R':=fun e W2=>(e=.returned (.bool true)/\Hid (J (ps++(ys++[r0])) W2)/\Hid (Kp n₀ T W W2)/\Hid (dB W2 wr.heap.size x P)/\Hid (wr.heap.size<W2.heap.size))∨(e=.returned (.bool false)/\Hid (Jx (ps++(ys++[r0])) W2)))
      (fun e W2 h=>h.elim (fun⟨he,hj,hk⟩=>.inl ⟨he,au (by rwa [List.append_assoc] at hj),au ((HS.out.2.2.trans (Kp.of_below lL.out bT)).trans hk),au (hk.box bT zm),au (hk.box bT zm).lt⟩) fun⟨he,hj⟩=>.inr ⟨he,au (by rwa [List.append_assoc] at hj)⟩)
     obtain⟨fn,tmps,assign,body,hy3,hR⟩:=hy2;have ldb:=(dB.cell (zm (w:=wr) (x:=x) (P:=P))).fZ kK.out;have HI0:=HI.out x HM.out;have U3:Hid (ps.length+(ys.length+cn x)<=N):=au bT;have U2:=au hcn;have U_:=au (je.out);have sF:Hid (n₀<=W.heap.size/\T<=W.heap.size):=au ⟨by have:=HB0.out.size;omega,Za⟩;clear hy hbW hle hcap hcn hlen hN hnn Za hsw
     go_simp
     gi_wp2_with ((try refine⟨hdd _,?_⟩);refine hR.mono ?_;clear hR;rintro e W2 (⟨rfl,HJ2,Gj,iG,HZ2⟩|⟨rfl,iG⟩) <;> (try have q19:=iG.out.c19))
     · refine((HI0.1 (n-1) P.bp P.bm P.bc (ps++(ys++[r0])) W2 zh.out.bo (U_.out.bo HM.out) (HB0.out.trans Gj.out.below) (ax sF.out.2 Gj.out.below.size) HJ2.out (by simp only[ag,ai,List.length_nil];have:=U3.out;have:=U2.out;omega))).mono ?_;rintro e W3 (⟨rfl,zs,hz1,hz2,hz3⟩|⟨rfl,q,hq1,hq2⟩)
       · have JM:=au (hz3.box (ax sF.out.2 HS.out.2.2.below.size) iG.out);have q20:=JM.out.c20;have Ol:=au (Gj.out.trans hz3);have HJ3:=au hz2;have HZ3:=au hz1;clear hz1 hz2 hz3;have hzl:zs.length=eF x.bo:=by
          have:=congrArg List.length HZ3.out;rwa [List.length_map,Mg] at this
         have HZL:=au hzl;clear hzl
         gi_wp2_with fail
         refine((HI0.2 (n-1) P.lp P.lm P.lc (ps++(ys++[r0])++zs) W3 zh.out.el (U_.out.el HM.out) (HB0.out.trans Ol.out.below) (ax sF.out.2 Ol.out.below.size) HJ3.out (by simp only[ag,ai,List.length_nil];have:=U3.out;have:=U2.out;have:=HZL.out;omega))).mono ?_;rintro e W4 (⟨rfl,us,hu1,hu2,hu3⟩|⟨rfl,q,hq1,hq2⟩)
         · have HK4:=au (Ol.out.trans hu3);have HR:Hid ((ys++([r0]++(zs++us))).map Nd.x=eU (sl.take (k+1))/\J (ps++(ys++([r0]++(zs++us)))) W4/\Kp n₀ T W W4):=au ⟨by
            rw[aaR HX.out,List.map_append,HS.out.1,List.map_append,List.map_append,HZ3.out,hu1,yJ];simp only[List.map_cons,List.map_nil,JJ.out,af,List.nil_append],by simpa [List.append_assoc] using hu2,HK4.out⟩
           clear hu1 hu2 hu3
           gi_wp2_with fail
           go_roundw
           case rel=>exact⟨k+1,_,by omega,by go_num,HR⟩
           case measure=>simp[intOf];omega
         · have HR:Hid (∃q:List (Nd n₀ W0),q.map Nd.x <+: eU sl/\Jx (ps++q) W4):=au ⟨ys++([r0]++(zs++q)),by
            rw[List.map_append,HS.out.1,List.map_append,List.map_append,HZ3.out];refine RV HX.out ?_;simp only[List.map_cons,List.map_nil,JJ.out,af,List.nil_append];exact ak3 hq1,by simpa [List.append_assoc] using hq2⟩
           clear hq1 hq2
           gi_wp2_with fail
           go_ret;exact .inr ⟨rfl,HR.out⟩
       · have HR:Hid (∃q:List (Nd n₀ W0),q.map Nd.x <+: eU sl/\Jx (ps++q) W3):=au ⟨ys++([r0]++q),by
          rw[List.map_append,HS.out.1,List.map_append];refine RV HX.out ?_;simp only[List.map_cons,List.map_nil,JJ.out,af,List.nil_append];exact ak2 hq1,by simpa [List.append_assoc] using hq2⟩
         clear hq1 hq2
         gi_wp2_with fail
         go_ret;exact .inr ⟨rfl,HR.out⟩
     · go_ret;exact .inr ⟨rfl,ys++[r0],by
        rw[List.map_append,HS.out.1];refine RV HX.out ?_;simp only[List.map_cons,List.map_nil,JJ.out];exact ak1 x,iG.out⟩
   · obtain rfl:m=k:=by omega
     have HT:Hid (sl.take m=sl):=au (List.take_of_length_le x_);rw[HT.out] at HS
     gi_wp2
     go_ret;exact .inl ⟨rfl,ys,HS.out⟩
theorem Ra (F:Fence) (hd:F.depth=ah) (hf:F.fn 103) (hg:F.fn 102) (hro:F.round=ah) (n l B n₀ T:Nat) (W0:ae) (hn:n₀<=W0.heap.size) (J Jx:List (Nd n₀ W0)->ae->Prop) (sl:List St)
 (hJ:∀s W W',J s W->ak W.heap.size W W'->J s W')
 (hY : ∀ ps r W, J ps W → ps.length < eF sl → YieldAt F (n - 1) aj l (sQ r) W fun e W' =>
   (e=.returned (.bool true)/\J (ps++[r]) W'/\Kp n₀ T W W')∨(e=.returned (.bool false)/\Jx (ps++[r]) W'))
 (p:Option Addr) (m c:Nat) (W:ae) (hx:W.cell? ⟨B,0,ah⟩=av (.slice p m c)) (hk:dA (Lo n₀) W0 sl p m) (hs:kP sl) (hb:ak n₀ W0 W) (hT:T<=W.heap.size) (h0:J [] W) :
 CallsIn F n aj 102 #[.func (.yield l) #[] #[],.pointer (av ⟨B,0,ah⟩)] W fun e' W'=>(∃v,e'=.returned v) /\
  ((∃ys,ys.map Nd.x=eU sl/\J ys W')∨(∃q,q.map Nd.x <+: eU sl/\Jx q W')):=by
 have hdd:∀k:Nat,(F.depth.isSome=true->1<=k):=fun k h=>by rw[hd] at h;cases h
 have hp:=TL F hd hf hro l n₀ T (eF sl) W0 hn J Jx hJ (fun m ps r W hj hl=>TS hd m (hY ps r W hj hl)) sl (n-1) p m c [] W hk hs hb hT h0 cK;clear hY hk hs hn hT h0 hJ;refine callsIn_of_wp func102 rfl hg ?_ hro;simp only[ntmps102,List.size_toArray,ai,List.length_nil,Nat.reduceAdd,Nat.reduceSub,Array.replicate_succ,Array.replicate_zero,List.push_toArray,List.append_toArray,List.nil_append,af]
 gi_wp2_with ((try refine⟨hdd _,?_⟩);gi_at_call 103;refine hp.mono ?_;clear hp;rintro e W1 (⟨rfl,ys,h1,h2,-⟩|⟨rfl,q,h1,h2⟩))
 · go_end0
   exact⟨⟨_,rfl⟩,.inl ⟨ys,h1,by simpa using h2⟩⟩
 · go_end0
   exact⟨⟨_,rfl⟩,.inr ⟨q,h1,by simpa using h2⟩⟩
theorem abZ (F:Fence) (n:Nat) (hf:F.fn 62) (hro:F.round=ah) (p:Option Addr) (m c:Nat) (w:ae) :
 CallsIn F n aj 62 #[.slice p m c] w fun e w'=>e=.returned (.func (.func 102) #[] #[.pointer (av ⟨w.heap.size,0,ah⟩)])/\w'=w.alloc (.cells #[.slice p m c] 43):=by
 refine callsIn_of_wp func62 rfl hf ?_ hro;simp only[ntmps62,List.size_toArray,ai,List.length_nil,Nat.reduceAdd,Nat.reduceSub,Array.replicate_succ,Array.replicate_zero,List.push_toArray,List.append_toArray,List.nil_append,af]
 gi_wp2
 go_ret;exact⟨rfl,rfl⟩
theorem ab1 (F:Fence) (hd:F.depth=ah) (hf:F.fn 103) (hg:F.fn 102) (hro:F.round=ah) (n B n₀ T:Nat) (W0:ae) (hn:n₀<=W0.heap.size) (sl:List St) (p:Option Addr) (m c:Nat) (w:ae) (hx:w.cell? ⟨B,0,ah⟩=av (.slice p m c)) (hk:dA (Lo n₀) W0 sl p m) (hs:kP sl) (hb:ak n₀ W0 w) (hT:T<=w.heap.size) :
 SeqStopsK F n aj 102 #[.pointer (av ⟨B,0,ah⟩)] (sQ (n₀:=n₀) (W0:=W0)) (Kp n₀ T) (fun ys=>ys.map Nd.x=eU sl) (fun q=>q.map Nd.x <+: eU sl) (eF sl) w:=fun l J Jx W hW hJ _ hY h0=>
 Ra F hd hf hg hro n l B n₀ T W0 hn J Jx sl (fun s W W' h hb=>OH hJ h hb) hY p m c W ((hW.cell (p:=⟨B,0,ah⟩) (block_lt hx)).trans hx) hk hs (hb.trans (hW.mono (ax hn hb.size))) (ax hT hW.size) h0
end Sm
namespace Sm
open Go.RowKit Go.Shelf
open Ex (Gives sI Dx oN)
attribute [local go_sem] Oper.semAt_some
theorem Rz {n₀:Nat} {W0:ae} {ys:List (Nd n₀ W0)} {sl:List St} (h:ys.map Nd.x=eU sl):ys.length=eF sl:=by
 have:=congrArg List.length h;rwa [List.length_map,Mg] at this
theorem Sb {n₀:Nat} {W0:ae} {q:List (Nd n₀ W0)} {sl:List St} (h:q.map Nd.x <+: eU sl):q.length<=eF sl:=by
 have:=h.length_le;rwa [List.length_map,Mg] at this
theorem ni {p:Prop} (h:p:=by omega):p:=h
theorem Aj {p:Prop} (h:p:=by simp;omega):p:=h
theorem RD (sl:List St) (p:Option Addr) (m c:Nat) (w:ae) (h:pY w sl p m) (hs:kP sl):Calls aj 60 #[.slice p m c,.int .i64 200] w (Gives (.bool (decide (200<eF sl))) w):=by
 have HH:=au h;have HS:=au hs;clear h hs;refine(callsIn_wide (n:=3)).1 ?_;refine callsIn_of_wp_marks func60 rfl trivial ?_ rfl;simp only[ntmps60,List.size_toArray,ai,List.length_nil,Nat.reduceAdd,Nat.reduceSub,Array.replicate_succ,Array.replicate_zero,List.push_toArray,List.append_toArray,List.nil_append,af]
 gi_wp2_with (refine⟨trivial,?_⟩;gi_at_call 62;refine(abZ Fence.wide _ trivial rfl _ _ _ _).mono ?_;rintro e w' ⟨rfl,rfl⟩)
 obtain⟨w2,hw2⟩:∃w2,w.alloc (.cells #[.int .i64 200] 3)=w2:=⟨_,rfl⟩
 have hz2:w2.heap.size=w.heap.size+1:=by rw[← hw2];simp
 have hb2:ak w.heap.size w w2:=by rw[← hw2];exact bl
 have h2:=sI w (.int .i64 200) 3;rw[hw2] at h2;obtain⟨w3,hw3⟩:∃w3,w2.alloc (.cells #[.bool false] 4)=w3:=⟨_,rfl⟩
 have hz3:w3.heap.size=w.heap.size+2:=by rw[← hw3];simp[hz2]
 have hb3:ak w2.heap.size w2 w3:=by rw[← hw3];exact bl
 have h3:=sI w2 (.bool false) 4;rw[hw3] at h3;obtain⟨w4,hw4⟩:∃w4,w3.alloc (.cells #[.int .i64 0] 3)=w4:=⟨_,rfl⟩
 have qU:w4.heap.size=w.heap.size+3:=by rw[← hw4];simp[hz3]
 have hb4:ak w3.heap.size w3 w4:=by rw[← hw4];exact bl
 have h4:=sI w3 (.int .i64 0) 3;rw[hw4] at h4;obtain⟨w5,vB⟩:∃w5,w4.alloc (.cells #[.slice p m c] 43)=w5:=⟨_,rfl⟩
 have Q7:w5.heap.size=w.heap.size+4:=by rw[← vB];simp[qU]
 have hb5:ak w4.heap.size w4 w5:=by rw[← vB];exact bl
 have h5:=sI w4 (.slice p m c) 43;rw[vB] at h5;have g2:w5.cell? ⟨w.heap.size,0,ah⟩=av (.int .i64 200):=(hb5.cell Aj).trans ((hb4.cell Aj).trans ((hb3.cell Aj).trans h2.1));have g3:w5.cell? ⟨w2.heap.size,0,ah⟩=av (.bool false):=(hb5.cell Aj).trans ((hb4.cell Aj).trans h3.1);have Ha:w5.frozen? ⟨w2.heap.size,0,ah⟩=false:=(hb5.frozen Aj).trans ((hb4.frozen Aj).trans h3.2);have g4:w5.cell? ⟨w3.heap.size,0,ah⟩=av (.int .i64 0):=(hb5.cell Aj).trans h4.1;have Hd:w5.frozen? ⟨w3.heap.size,0,ah⟩=false:=(hb5.frozen Aj).trans h4.2;have hb:ak w.heap.size w w5:=hb2.trans ((hb3.mono ni).trans ((hb4.mono ni).trans (hb5.mono ni)));have g5:=h5.1;rw[hz2] at g3 Ha;rw[hz3] at g4 Hd;rw[qU] at g5;rw[hw2,hw3,hw4,vB];clear hw2 hw3 hw4 vB hb2 hb3 hb4 hb5 h2 h3 h4 h5 hz2 hz3 qU;refine wpIn_rangeFunc_ownG rfl ni (gf:=102) (lb:=#[.pointer (av ⟨w.heap.size+1+1+1,0,ah⟩)]) rfl trivial (enters_of func102 dx rfl)
  (ab1 Fence.wide rfl trivial trivial rfl _ (w.heap.size+1+1+1) w.heap.size w5.heap.size w (ay _) sl p m c w5 g5 HH.out HS.out hb (ay _)) (fun h k=>h.trans k) (Kp.put ni) (Below.refl _ _) (fun _=>rfl)
  (fun ps W=>((W.cell? ⟨w.heap.size+1+1,0,ah⟩=av (.int .i64 (ps.length:Nat))/\W.frozen? ⟨w.heap.size+1+1,0,ah⟩=false)/\W.cell? ⟨w.heap.size,0,ah⟩=av (.int .i64 200)/\W.cell? ⟨w.heap.size+1,0,ah⟩=av (.bool false)/\W.frozen? ⟨w.heap.size+1,0,ah⟩=false/\ps.length<=200)/\ak w.heap.size w W)
  (fun c ps W=>(c=.ret/\200<ps.length/\W.cell? ⟨w.heap.size+1,0,ah⟩=av (.bool true))/\ak w.heap.size w W)
  (OwnFrom.and (Own.from (fun s A B row hs hg hr=>⟨⟨cell_kept hs.1.1 hg hr,(frozen_kept hs.1.1 hg hr).trans hs.1.2⟩,cell_kept hs.2.1 hg hr,cell_kept hs.2.2.1 hg hr,(frozen_kept hs.2.2.1 hg hr).trans hs.2.2.2.1,hs.2.2.2.2⟩) _) (ownFrom_below (ay _) ni))
  (fun c=>OwnFrom.and (Own.from (fun s A B row hs hg hr=>⟨hs.1,hs.2.1,cell_kept hs.2.2 hg hr⟩) _) (ownFrom_below (ay _) ni))
  ⟨⟨⟨g4,Hd⟩,g2,g3,Ha,by simp⟩,hb⟩
  (fun x=>{ tmps:=#[.slice p m c,.int .i64 200,undef,.pointer (av ⟨w.heap.size,0,ah⟩),.pointer (av ⟨w.heap.size+1,0,ah⟩),.pointer (av ⟨w.heap.size+1+1,0,ah⟩),.slice p m c,.func (.func 102) #[] #[.pointer (av ⟨w.heap.size+1+1+1,0,ah⟩)],.agg (cs x.x x.P),undef,undef,undef,undef,undef],defers:=[] }) ?assign ?body ?done ?stop
 case assign=>
  intro l x W K hK;simp only[sQ]
  gi_wp2
  simp[go_sem]
  exact hK
 case body=>
  rintro l ps x W ⟨⟨⟨hc,hf⟩,Hf,hr,hrf,hle⟩,hB⟩ hlt;have hlt2:(ps.length:Int)<=200:=by omega
  by_cases h6:ps.length=200
  · have e6:(ps.length:Int)=200:=by omega
    rw[e6] at hc;clear hlt2 e6
    gi_wp2
    refine⟨((KeepsOthers.setCell _ _ _).trans (KeepsOthers.setCell _ _ _)).from _,⟨rfl,by rw[ag,h6];simp,?_⟩,oN (oN hB ni _) ni _⟩;exact World.cell?_setCell_same' _ _ _ (by rw[Dx hr ni];rfl)
  · have l6:(ps.length:Int)+1<=200:=by omega
    gi_wp2
    refine⟨(KeepsOthers.setCell _ _ _).from _,Kp.set ni ni _,⟨⟨?_,by rw[World.frozen?_setCell];exact hf⟩,?_,?_,by rw[World.frozen?_setCell];exact hrf,by rw[ag];simp;omega⟩,oN hB ni _⟩
    · rw[World.cell?_setCell_same' _ _ _ (by rw[hc];rfl),ag]
      congr 2
    · exact Dx Hf ni _
    · exact Dx hr ni _
 case done=>
  rintro D ys W hD hys ⟨⟨⟨hc,hf⟩,Hf,hr,hrf,hle⟩,hB⟩ hK;have hl:=Rz hys;have hv:decide (200<eF sl)=false:=decide_eq_false ni;have HV:=au hv
  gi_wp2
  have hK':=(KeepsOthers.setCell W ⟨w.heap.size+1,0,ah⟩ (.bool false)).same D _ hK rfl;refine⟨by simp,.inl ⟨_,_,rfl,run_takeDeferred hK',?_⟩⟩;have qQ:=cell_kept (World.cell?_setCell_same' W ⟨w.heap.size+1,0,ah⟩ (.bool false) (by rw[hr];rfl)) (grownBy_putObj' _ D (.deferred ah)) (fun r e=>by cases e;exact⟨_,hK',rfl⟩);refine⟨.bool false,?_,by rw[HV.out],(oN hB ni _).trans (belowK_b (w:=w) (ay _) _ D _ _ ni hK' rfl rfl)⟩;simp[results,Tryz.f60,go_sem,qQ]
 case stop=>
  rintro D c ps W hD hps ⟨⟨rfl,h6,hr⟩,hB⟩ hK;have hl:=Sb hps;have hv:decide (200<eF sl)=true:=decide_eq_true ni;have HV:=au hv
  gi_wp2
  refine⟨by simp,.inl ⟨_,_,rfl,run_takeDeferred hK,?_⟩⟩;have qQ:=cell_kept hr (grownBy_putObj' _ D (.deferred ah)) (fun r e=>by cases e;exact⟨_,hK,rfl⟩);refine⟨.bool true,?_,by rw[HV.out],hB.trans (belowK_b (w:=w) (ay _) W D _ _ ni hK rfl rfl)⟩;simp[results,Tryz.f60,go_sem,qQ]
end Sm
namespace Sm
open Go.RowKit
open Ex (Gives)
attribute [local go_sem] cs0 cs1 cs2 uW uX uY uZ u_ ve vg uI uJ uK uM uP uQ uR uS uT uU uV
theorem ajA {w':ae} {g:Nat} {x:St} {P:Pl} (h:dB w' g x P):w'.cell? ⟨g,19,ah⟩=av (.slice P.bp P.bm P.bc)/\w'.cell? ⟨g,20,ah⟩=av (.slice P.lp P.lm P.lc):=⟨h.c19,h.c20⟩
theorem PY (sl:List St):∀(p:Option Addr) (m c:Nat) (w:ae),pY w sl p m->eF sl<=4000000->Calls aj 61 #[.slice p m c] w (Gives (.int .i64 (gH sl:Nat)) w):=by
 induction sl using Rx with
 | h sl ih=>
  intro p m c w h hc;have HH:=au h;have HI:=au ih;obtain⟨hl,hm⟩:=h.len;have HL:=au hl;have HC:=au hc;clear ih h hl hc;rcases Nat.eq_zero_or_pos m with h0|h0
  · have hz:sl=[]:=List.length_eq_zero_iff.1 (by rw[HL.out,h0]);subst h0;rw[show gH sl=0 by rw[hz,gH]];clear hz;go_enter func61,ntmps61;exact dX
  have hd:=Qe (l:=sl) (by rw[HL.out];exact h0);rw[hd];clear hd;have t0:((m:Int)==0)=false:=beq_eq_false_iff_ne.2 bT;obtain⟨n21,nH⟩:∃n:Nat,21=n:=⟨_,rfl⟩
  have hsz:∀w,(sizeOf 62).run aj w=.ok n21 w:=fun w=>by rw[sizeOf62,nH]
  have kK:=au nH;clear nH;go_enter func61,ntmps61;go_wp2_with fail;go_loopw [3,11] (fun d i wr=>∃k:Nat,k<=m/\d=.int .i64 (oq (sl.take k):Nat)/\i=.int .i64 (k:Nat)/\Hid (ak w.heap.size w wr)) (fun d i _=>m-(intOf i).toNat)
  case atStart=>exact⟨0,Nat.zero_le _,rfl,rfl,au bl⟩
  case round=>
   obtain⟨k,hk,rfl,rfl,HW⟩:=hrel;have k0:(0:Int)<=(k:Int):=by omega
   rcases Nat.lt_or_ge k m with h|h
   · have k1:(k:Int)<(m:Int):=by omega
     obtain⟨b,o',rfl,-,hG,hcell⟩:=HH.out.rows bT;have hkl:k<sl.length:=by rw[HL.out];omega
     obtain⟨P,hc21,wO⟩:=hcell.out k hkl;have hmem:sl[k]∈sl:=List.getElem_mem hkl;have hgx:sl[k]?=av sl[k]:=List.getElem?_eq_getElem hkl;obtain⟨x,hx⟩:∃x,sl[k]=x:=⟨_,rfl⟩
     rw[hx] at hc21 wO hmem hgx;have zh:=au wO;have HX:=au hgx;have HM:=au hmem;have hcw:=(hc21.on HW.out hG).at kK.out;have hbr:b<wr.heap.size:=az hG HW.out.size;have hcsz:(cs x P).size=n21:=kK.out;have ld1:=(hcw).fZ kK.out;have oU:=(hcw).loadVar;have oV:=(hcw).loadAt;have st1:=IZ x P;have st2:=I5 x P;have qB:=I4 x P;have Oj:=au hcw;clear hcell hc21 wO hx hmem hgx hkl hcw;have d1:=Zx sl k;have HK:=au (ai_ HX.out);obtain⟨i1,i2⟩:=HI.out x HM.out;have d2:=Ew HM.out;rw[zq] at d2;have c1:=KD x.bo;have c2:=KD x.el;obtain⟨D,hD⟩:∃D,oq (sl.take k)=D:=⟨_,rfl⟩
     obtain⟨E,hE⟩:∃E,gH x.bo=E:=⟨_,rfl⟩
     obtain⟨F,hF⟩:∃F,gH x.el=F:=⟨_,rfl⟩
     have hcc:=HC.out;have F1:=au (fun W hi=>i1 P.bp P.bm P.bc W hi bT);have F2:=au (fun W hi=>i2 P.lp P.lm P.lc W hi bT);rw[hD] at d1 HK ⊢;rw[hE] at c1 HK F1;rw[hF] at c2 HK F2;have d3:D<=4000000:=by omega
     have d4:E<=4000000:=by omega
     have d5:F<=4000000:=by omega
     clear hD hE hF i1 i2 c1 c2 d1 d2 hcc;have HBX:Hid (∀W,ak (wr.alloc (.cells (cs x P) 62)).heap.size (wr.alloc (.cells (cs x P) 62)) W->dB W wr.heap.size x P):=au fun W hb=>zm.on hb;obtain⟨M,hM⟩:∃M,max D (max E F)=M:=⟨_,rfl⟩
     have hmx:∀(ts:Array TypeId) (t:TypeId) (W:ae),(Builtin.max_ ts t #[.int .i64 (D:Int),.int .i64 (E:Int),.int .i64 (F:Int)]).run aj W=.ok (.int .i64 (M:Int)) W:=fun ts t W=>by
      rw[run_max_int3]
      congr 2
      rw[← hM]
      split <;> split at * <;> omega
     rw[hM] at HK;have hM2:M<=4000000:=by omega
     clear hM d3 d4 d5;go_wp2_with fail;go_region_held3 (fun w'=>w'.cell? ⟨wr.heap.size,19,ah⟩=av (.slice P.bp P.bm P.bc)/\w'.cell? ⟨wr.heap.size,20,ah⟩=av (.slice P.lp P.lm P.lc)) (first|(refine ajA (HBX.out _ ?_);exact bl;done)|(go_keep;done)) (first|(have t:=hb1;go_at_call 61;refine(F2.out _ (zh.out.el.on qG)).mono ?_;rintro e w2 ⟨rfl,hb2⟩)|(go_at_call 61;refine(F1.out _ (zh.out.bo.on qG)).mono ?_;rintro e w1 ⟨rfl,hb1⟩))
     all_goals
      have HWz:Hid (ak w.heap.size w w2):=au qG;go_wp2_with fail;go_roundw
      case rel=>exact⟨k+1,by omega,by rw[HK.out],by go_num,HWz⟩
      case measure=>simp[intOf];omega
   · obtain rfl:m=k:=by omega
     have HT:Hid (sl.take m=sl):=au (List.take_of_length_le x_);have d1:=Zx sl m;have d2:=HC.out;rw[HT.out] at d1 ⊢;have d9:=Zy sl;have d8:=KD sl;obtain⟨D,hD⟩:∃D,oq sl=D:=⟨_,rfl⟩
     rw[hD] at d1 d9 ⊢;have d3:D<=4000000:=by omega
     have HD:=au hD;clear hD d1 d2 d8 d9;go_wp2_with fail;go_ret;exact⟨by rw[HD.out];go_num,HW.out⟩
end Sm
namespace Ex
open Go.RowKit
def tb (l:Nm):ByteArray:=⟨l.toArray⟩
def Gt (w:ae) (p:Option Addr) (n:Nat) (l:List Nm):Prop:=
 l.length=n/\n<=9223372036854775807/\(n=0∨∃b o,p=av ⟨b,o,ah⟩/\b<w.heap.size/\Hid (∀i,(h:i<l.length)->w.cell? ⟨b,o+i,ah⟩=av (.string (tb l[i]))))
theorem Gt.on {w w2:ae} {p:Option Addr} {n:Nat} {l:List Nm} (hb:ak w.heap.size w w2) (h:Gt w p n l):Gt w2 p n l:=by
 exact zzk
theorem Gt.nil {w:ae} {p:Option Addr}:Gt w p 0 []:=⟨rfl,by omega,.inl rfl⟩
abbrev tbs (l:List Nm):List Value:=l.map fun x=>.string (tb x)
abbrev Eg (lo:Nat) (w:ae) (v:Value) (l:List Nm):Prop:=w.ownsRow lo 9 1 v l.length (tbs l)
theorem Eg.below {lo:Nat} {w w2:ae} {v:Value} {l:List Nm} (h:Eg lo w v l) (hb:ak w.heap.size w w2):Eg lo w2 v l:=
 World.ownsRow.kept h (row:=ah) ⟨hb.os,hb.tape,hb.output,hb.size,fun k hk _=>hb.block k hk⟩ (by cases v.ownBlock <;> simp)
end Ex
namespace Ex
open Go.RowKit Go.Shelf Go.Sort
attribute [local go_sem] Oper.semAt_some
theorem Kp.app {n₀ T B:Nat} {W w1:ae} {v v':Value} {l:List Nm} {tmp:Obj} (hn:n₀<=W.heap.size) (hB:n₀<=B) (hT:B<T) (hrow:Eg n₀ W v l) (hgrow:(W.alloc tmp).grownBy w1 v.ownBlock) (hbel:ak n₀ W (w1.setCell ⟨B,0,ah⟩ v')):Kp n₀ T W (w1.setCell ⟨B,0,ah⟩ v'):=
 ⟨hbel, fun k c fr hk hc => by
   have hkl:=(Array.getElem?_eq_some_iff.1 hc).1;rw[(grownBy_setCell' w1 B v').block k (az hkl (ax cK hgrow.size)) (fun e=>by cases e;omega)];rw[hgrow.block k za (fun e=>by
    rcases hrow.2 with⟨rfl,_⟩|⟨g',cap,cur,rfl,_,hgb,_⟩
    · simp[Value.ownBlock] at e
    · obtain rfl:g'=k:=by simpa [Value.ownBlock] using e.symm
      rw[hgb] at hc
      cases hc)]
   exact(Below.heap_alloc W tmp k hkl).trans hc⟩
end Ex
end Go.Proofs.YtkpekhpgdajabaaGreatDoor
