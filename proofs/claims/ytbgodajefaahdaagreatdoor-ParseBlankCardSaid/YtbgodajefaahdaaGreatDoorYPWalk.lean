/-
  Parts of this proof: The contracts of walk, of the closure of stateme. The contracts of Nodes and of hasMoreNodes. The contracts of Count and of hasMore. The contract of Depth.
-/
import Derived.Test.YtbgodajefaahdaaGreatDoorYPBase
import Derived.Test.YtbgodajefaahdaaGreatDoorYEWalk
import Derived.Laws.Cover1
open Option renaming none->U,some->ai
open List renaming length_append->ae,cons_append->ag,length_cons->aj
open Nat renaming le_refl->af,le_trans->av
open Go renaming World->ah
open Go.Proofs.Tryz renaming prog->ak
open Go.RowKit renaming Below->au
open Go.Lib renaming hid->V
set_option linter.unusedVariables false
open Go.Lib (hid)
namespace Go.Proofs.YtbgodajefaahdaaGreatDoor
namespace Sm
open Go.RowKit Go.Shelf
open Ex (Lo block_lt XE RX)
attribute [local go_sem] Oper.semAt_some
attribute [local go_sem] cs0 cs1 cs2 wU wV wW wX wY wZ w_ wJ wK wL wM wN wO wP wQ wR wS wT
set_option maxHeartbeats 400000
structure Nd (n₀:Nat) (W0:ah) where
 x:St
 P:Pl
 hi:cZ (Lo n₀) W0 x P
 hs:D6 x
def vg {n₀:Nat} {W0:ah} (r:Nd n₀ W0):Array Value:=#[.agg (cs r.x r.P)]
structure Kp (n₀ T:Nat) (W W':ah):Prop where
 below:au n₀ W W'
 same:∀(k:Nat) (C:Array Value) (fr:Nat×Nat),T<=k->W.heap[k]?=ai (.cells C 60 fr)->W'.heap[k]?=ai (.cells C 60 fr)
theorem Kp.refl (n₀ T:Nat) (W:ah):Kp n₀ T W W:=⟨Below.refl _ _,fun _ _ _ _ h=>h⟩
theorem Kp.trans {n₀ T:Nat} {A B C:ah} (h:Kp n₀ T A B) (k:Kp n₀ T B C):Kp n₀ T A C:=⟨h.below.trans k.below,fun i c fr hi hc=>k.same i c fr hi (h.same i c fr hi hc)⟩
theorem Kp.of_below {n₀ T:Nat} {W W':ah} (h:au W.heap.size W W') (hn:n₀<=W.heap.size):Kp n₀ T W W':=⟨h.mono hn,fun k c fr _ hc=>(h.block k (Array.getElem?_eq_some_iff.1 hc).1).trans hc⟩
theorem Kp.box {n₀ T g:Nat} {W W':ah} {x:St} {P:Pl} (h:Kp n₀ T W W') (hT:T<=g) (hb:dK W g x P):dK W' g x P:=h.same g _ _ hT hb
theorem Kp.put {n₀ T:Nat} {w:ah} (hn:n₀<=w.heap.size) (W:ah) (l:Nat) (o o':Obj) (hl:w.heap.size<=l) (h:W.heap[l]?=ai o) (h1:o.isCells=false) (h2:o.isWalk=false):Kp n₀ T W (W.putObj l o'):=
 ⟨belowK_b hn W l o o' hl h h1 h2, fun k c fr _ hc => by
   rw[World.putObj_heap_other]
   · exact hc
   · intro e;subst e;rw[h] at hc;cases hc
     cases h1⟩
theorem Kp.set {n₀ T:Nat} {W:ah} {B:Nat} (h0:n₀<=B) (hT:B<T) (v:Value):Kp n₀ T W (W.setCell ⟨B,0,U⟩ v):=
 ⟨(Below.refl n₀ W).setCell (p:=⟨B,0,U⟩) h0 v,fun k c fr hk hc=>((grownBy_setCell' W B v).block k (Array.getElem?_eq_some_iff.1 hc).1 (fun e=>by cases e;omega)).trans hc⟩
theorem U5 {sl:List St} {k:Nat} {x:St} {q:List St} (h:sl[k]?=ai x) (hq:q <+: ord x):fw (sl.take k)++q <+: fw sl:=by
 have h2:=GU (sl.take (k+1)) (sl.drop (k+1));rw[List.take_append_drop,aek h,List.append_assoc] at h2;rw[h2,List.prefix_append_right_inj];exact hq.trans (List.prefix_append _ _)
theorem apg (x:St):[x] <+: ord x:=by rw[zI];exact⟨_,rfl⟩
theorem aph {x:St} {q:List St} (h:q <+: fw x.bo):x::q <+: ord x:=by
 rw[zI,List.cons_prefix_cons];exact⟨rfl,h.trans (List.prefix_append _ _)⟩
theorem api {x:St} {q:List St} (h:q <+: fw x.el):x::(fw x.bo++q) <+: ord x:=by
 rw[zI,List.cons_prefix_cons];exact⟨rfl,by rw[List.prefix_append_right_inj];exact h⟩
set_option maxRecDepth 100000 in
theorem wlkd_in (F:Fence) (hd:F.depth=U) (hf:F.fn 83) (hro:F.round=U) (l n₀ T N:Nat) (W0:ah) (hn:n₀<=W0.heap.size) (J Jx:List (Nd n₀ W0)->ah->Prop)
 (hJ:∀s W W',J s W->au W.heap.size W W'->J s W')
 (hY : ∀ m ps r W, J ps W → ps.length < N → YieldAt F m ak l (vg r) W fun e W' =>
   (e=.returned (.bool true)/\J (ps++[r]) W'/\Kp n₀ T W W')∨(e=.returned (.bool false)/\Jx (ps++[r]) W')) (sl:List St) :
 ∀(n:Nat) (p:Option Addr) (m c:Nat) (ps:List (Nd n₀ W0)) (W:ah),dE (Lo n₀) W0 sl p m->lY sl->au n₀ W0 W->T<=W.heap.size->J ps W->ps.length+eZ sl<=N ->
  CallsIn F n ak 83 #[.slice p m c,.func (.yield l) #[] #[]] W fun r W'=>
   (r=.returned (.bool true)/\∃ys,ys.map Nd.x=fw sl/\J (ps++ys) W'/\Kp n₀ T W W')∨(r=.returned (.bool false)/\∃q,q.map Nd.x <+: fw sl/\Jx (ps++q) W'):=by
 induction sl using UK with
 | h sl ih=>
  intro n p m c ps W ht hsz hb0 hT hJ0 hN;have hdd:∀k:Nat,(F.depth.isSome=true->1<=k):=fun k h=>by rw[hd] at h;cases h
  obtain⟨hl,hm⟩:=ht.len;have HH:=V ht;have HI:=V ih;have HL:=V hl;have jI:=V hsz;have HJ:=V hJ;have HY:=V hY;have HN:=V hN;have HB0:=V hb0;have Iz:=V hn;have mZ:=V hT;have HJ0:=V hJ0;clear hY hJ hJ0 hN ih ht hsz hn hT hl hb0;obtain⟨n21,oU⟩:∃n:Nat,21=n:=⟨_,rfl⟩
  have hsz:∀w,(sizeOf 60).run ak w=.ok n21 w:=fun w=>by rw[Tryz.sizeOf60,oU]
  have lV:=V oU;clear oU;refine callsIn_of_wp Tryz.func83 rfl hf ?_ hro;simp only[Tryz.ntmps83,List.size_toArray,aj,List.length_nil,Nat.reduceAdd,Nat.reduceSub,Array.replicate_succ,Array.replicate_zero,List.push_toArray,List.append_toArray,List.nil_append,ag]
  gi_wp2_with fail
  gi_loopw [9] (fun i wr=>∃(k:Nat) (ys:List (Nd n₀ W0)),k<=m/\i=.int .i64 (k:Nat)/\Hid (ys.map Nd.x=fw (sl.take k)/\J (ps++ys) wr/\Kp n₀ T W wr)) (fun i _=>m-(intOf i).toNat)
  case atStart=>exact⟨0,[],Nat.zero_le _,rfl,V ⟨by rw[List.take_zero,fw];rfl,by rw[List.append_nil];exact HJ0.out,Kp.refl _ _ _⟩⟩
  case round=>
   obtain⟨k,ys,hk,rfl,HS⟩:=hrel;have k0:(0:Int)<=(k:Int):=by omega
   rcases Nat.lt_or_ge k m with h|h
   · have k1:(k:Int)<(m:Int):=by omega
     obtain⟨b,o',rfl,hG,hbs,hcell⟩:=HH.out.rows (by omega);have hkl:k<sl.length:=by rw[HL.out];omega
     obtain⟨P,hc21,yo⟩:=hcell.out k hkl;have hmem:sl[k]∈sl:=List.getElem_mem hkl;have hgx:sl[k]?=ai sl[k]:=List.getElem?_eq_getElem hkl;obtain⟨x,hx⟩:∃x,sl[k]=x:=⟨_,rfl⟩
     rw[hx] at hc21 yo hmem hgx;have Ai:=V yo;have HX:=V hgx;have HM:=V hmem;have HB1:=V (HB0.out.trans HS.out.2.2.below);have hcw:=(hc21.keep (HB1.out.block b hG)).at lV.out;have hbr:b<wr.heap.size:=Nat.lt_of_lt_of_le hbs HB1.out.size;have hcsz:(cs x P).size=n21:=lV.out;have ld1:=(hcw).dW lV.out;have lI:=(hcw).loadVar;have nD:=(hcw).loadAt;have st1:=Le x P;have st2:=Lg x P;have rM:=Lf x P;clear hcell hc21 yo hx hmem hgx hkl hcw
     gi_wp2_with fail
     have hbW:au wr.heap.size wr (wr.alloc (.cells (cs x P) 60)):=bl;have hle:=HB1.out.size;have hcap:eZ (sl.take k)+cn x<=eZ sl:=by rw[← akw HX.out];exact akv _ _
     have hcn:=Ar x;have hlen:ys.length=eZ (sl.take k):=by
      have:=congrArg List.length HS.out.1;rwa [List.length_map,Pg] at this
     have hN:=HN.out;have hnn:=Iz.out;have hTT:=mZ.out;have hsw:=HS.out.2.2.below.size;have hy:=HY.out (n-1) (ps++ys) ⟨x,P,Ai.out,jI.out.mem HM.out⟩ _ (HJ.out _ _ _ HS.out.2.1 hbW) (by rw[ae];omega);obtain⟨r0,hr0⟩:∃r0:Nd n₀ W0,r0=⟨x,P,Ai.out,jI.out.mem HM.out⟩:=⟨_,rfl⟩
     rw[← hr0] at hy;have hr1:vg r0=#[.agg (cs x P)]:=by rw[hr0];rfl
     have MF:Hid (r0.x=x):=V (by rw[hr0]);rw[hr1] at hy;clear hr0 hr1;have eY:=V hbW;have hy2:=YieldAt.mono hy (R':=fun e W2=>(e=.returned (.bool true)/\Hid (J (ps++(ys++[r0])) W2)/\Hid (Kp n₀ T W W2)/\Hid (dK W2 wr.heap.size x P)/\Hid (wr.heap.size<W2.heap.size))∨(e=.returned (.bool false)/\Hid (Jx (ps++(ys++[r0])) W2)))
      (fun e W2 h=>h.elim (fun⟨he,hj,hk⟩=>.inl ⟨he,V (by rwa [List.append_assoc] at hj),V ((HS.out.2.2.trans (Kp.of_below eY.out (by omega))).trans hk),V (hk.box (by omega) Ao),V (hk.box (by omega) Ao).lt⟩) fun⟨he,hj⟩=>.inr ⟨he,V (by rwa [List.append_assoc] at hj)⟩)
     obtain⟨fn,tmps,assign,body,hy3,hR⟩:=hy2;have ldb:=(dK.cell (Ao (w:=wr) (x:=x) (P:=P))).dW lV.out;have HI0:=HI.out x HM.out;have YB:Hid (ps.length+(ys.length+cn x)<=N):=V (by omega);have Yx:=V hcn;have YJ:=V (jI.out);have uU:Hid (n₀<=W.heap.size/\T<=W.heap.size):=V ⟨by have:=HB0.out.size;omega,hTT⟩;clear hy hbW hle hcap hcn hlen hN hnn hTT hsw
     go_simp
     gi_wp2_with ((try refine⟨hdd _,?_⟩);refine hR.mono ?_;clear hR;rintro e W2 (⟨rfl,HJ2,uT,dV,HZ2⟩|⟨rfl,dV⟩) <;> (try have q19:=dV.out.c19))
     · refine((HI0.1 (n-1) P.bp P.bm P.bc (ps++(ys++[r0])) W2 Ai.out.bo (YJ.out.bo HM.out) (HB0.out.trans uT.out.below) (av uU.out.2 uT.out.below.size) HJ2.out (by simp only[ae,aj,List.length_nil];have:=YB.out;have:=Yx.out;omega))).mono ?_;rintro e W3 (⟨rfl,zs,hz1,hz2,hz3⟩|⟨rfl,q,hq1,hq2⟩)
       · have BR:=V (hz3.box (av uU.out.2 HS.out.2.2.below.size) dV.out);have q20:=BR.out.c20;have xM:=V (uT.out.trans hz3);have HJ3:=V hz2;have HZ3:=V hz1;clear hz1 hz2 hz3;have hzl:zs.length=eZ x.bo:=by
          have:=congrArg List.length HZ3.out;rwa [List.length_map,Pg] at this
         have HZL:=V hzl;clear hzl
         gi_wp2_with fail
         refine((HI0.2 (n-1) P.lp P.lm P.lc (ps++(ys++[r0])++zs) W3 Ai.out.el (YJ.out.el HM.out) (HB0.out.trans xM.out.below) (av uU.out.2 xM.out.below.size) HJ3.out (by simp only[ae,aj,List.length_nil];have:=YB.out;have:=Yx.out;have:=HZL.out;omega))).mono ?_;rintro e W4 (⟨rfl,us,hu1,hu2,hu3⟩|⟨rfl,q,hq1,hq2⟩)
         · have Iw:=V (xM.out.trans hu3);have HR:Hid ((ys++([r0]++(zs++us))).map Nd.x=fw (sl.take (k+1))/\J (ps++(ys++([r0]++(zs++us)))) W4/\Kp n₀ T W W4):=V ⟨by
            rw[aek HX.out,List.map_append,HS.out.1,List.map_append,List.map_append,HZ3.out,hu1,zI];simp only[List.map_cons,List.map_nil,MF.out,ag,List.nil_append],by simpa [List.append_assoc] using hu2,Iw.out⟩
           clear hu1 hu2 hu3
           gi_wp2_with fail
           go_roundw
           case rel=>exact⟨k+1,_,by omega,by go_num,HR⟩
           case measure=>simp[intOf];omega
         · have HR:Hid (∃q:List (Nd n₀ W0),q.map Nd.x <+: fw sl/\Jx (ps++q) W4):=V ⟨ys++([r0]++(zs++q)),by
            rw[List.map_append,HS.out.1,List.map_append,List.map_append,HZ3.out];refine U5 HX.out ?_;simp only[List.map_cons,List.map_nil,MF.out,ag,List.nil_append];exact api hq1,by simpa [List.append_assoc] using hq2⟩
           clear hq1 hq2
           gi_wp2_with fail
           go_ret;exact .inr ⟨rfl,HR.out⟩
       · have HR:Hid (∃q:List (Nd n₀ W0),q.map Nd.x <+: fw sl/\Jx (ps++q) W3):=V ⟨ys++([r0]++q),by
          rw[List.map_append,HS.out.1,List.map_append];refine U5 HX.out ?_;simp only[List.map_cons,List.map_nil,MF.out,ag,List.nil_append];exact aph hq1,by simpa [List.append_assoc] using hq2⟩
         clear hq1 hq2
         gi_wp2_with fail
         go_ret;exact .inr ⟨rfl,HR.out⟩
     · go_ret;exact .inr ⟨rfl,ys++[r0],by
        rw[List.map_append,HS.out.1];refine U5 HX.out ?_;simp only[List.map_cons,List.map_nil,MF.out];exact apg x,dV.out⟩
   · obtain rfl:m=k:=by omega
     have HT:Hid (sl.take m=sl):=V (List.take_of_length_le (by rw[HL.out];exact af _));rw[HT.out] at HS
     gi_wp2
     go_ret;exact .inl ⟨rfl,ys,HS.out⟩
set_option maxRecDepth 100000 in
theorem Ut (F:Fence) (hd:F.depth=U) (hf:F.fn 83) (hg:F.fn 82) (hro:F.round=U) (n l B n₀ T:Nat) (W0:ah) (hn:n₀<=W0.heap.size) (J Jx:List (Nd n₀ W0)->ah->Prop) (sl:List St)
 (hJ:∀s W W',J s W->au W.heap.size W W'->J s W')
 (hY : ∀ ps r W, J ps W → ps.length < eZ sl → YieldAt F (n - 1) ak l (vg r) W fun e W' =>
   (e=.returned (.bool true)/\J (ps++[r]) W'/\Kp n₀ T W W')∨(e=.returned (.bool false)/\Jx (ps++[r]) W'))
 (p:Option Addr) (m c:Nat) (W:ah) (hx:W.cell? ⟨B,0,U⟩=ai (.slice p m c)) (hk:dE (Lo n₀) W0 sl p m) (hs:lY sl) (hb:au n₀ W0 W) (hT:T<=W.heap.size) (h0:J [] W) :
 CallsIn F n ak 82 #[.func (.yield l) #[] #[],.pointer (ai ⟨B,0,U⟩)] W fun e' W'=>(∃v,e'=.returned v) /\
  ((∃ys,ys.map Nd.x=fw sl/\J ys W')∨(∃q,q.map Nd.x <+: fw sl/\Jx q W')):=by
 have hdd:∀k:Nat,(F.depth.isSome=true->1<=k):=fun k h=>by rw[hd] at h;cases h
 have hp:=wlkd_in F hd hf hro l n₀ T (eZ sl) W0 hn J Jx hJ (fun m ps r W hj hl=>XE hd m (hY ps r W hj hl)) sl (n-1) p m c [] W hk hs hb hT h0 (by simp);clear hY hk hs hn hT h0 hJ;refine callsIn_of_wp Tryz.func82 rfl hg ?_ hro;simp only[Tryz.ntmps82,List.size_toArray,aj,List.length_nil,Nat.reduceAdd,Nat.reduceSub,Array.replicate_succ,Array.replicate_zero,List.push_toArray,List.append_toArray,List.nil_append,ag]
 gi_wp2_with ((try refine⟨hdd _,?_⟩);gi_at_call 83;refine hp.mono ?_;clear hp;rintro e W1 (⟨rfl,ys,h1,h2,-⟩|⟨rfl,q,h1,h2⟩))
 · go_end0
   exact⟨⟨_,rfl⟩,.inl ⟨ys,h1,by simpa using h2⟩⟩
 · go_end0
   exact⟨⟨_,rfl⟩,.inr ⟨q,h1,by simpa using h2⟩⟩
theorem afo (F:Fence) (n:Nat) (hf:F.fn 44) (hro:F.round=U) (p:Option Addr) (m c:Nat) (w:ah) :
 CallsIn F n ak 44 #[.slice p m c] w fun e w'=>e=.returned (.func (.func 82) #[] #[.pointer (ai ⟨w.heap.size,0,U⟩)])/\w'=w.alloc (.cells #[.slice p m c] 31):=by
 refine callsIn_of_wp Tryz.func44 rfl hf ?_ hro;simp only[Tryz.ntmps44,List.size_toArray,aj,List.length_nil,Nat.reduceAdd,Nat.reduceSub,Array.replicate_succ,Array.replicate_zero,List.push_toArray,List.append_toArray,List.nil_append,ag]
 gi_wp2
 go_ret;exact⟨rfl,rfl⟩
theorem afp (F:Fence) (hd:F.depth=U) (hf:F.fn 83) (hg:F.fn 82) (hro:F.round=U) (n B n₀ T:Nat) (W0:ah) (hn:n₀<=W0.heap.size) (sl:List St) (p:Option Addr) (m c:Nat) (w:ah) (hx:w.cell? ⟨B,0,U⟩=ai (.slice p m c)) (hk:dE (Lo n₀) W0 sl p m) (hs:lY sl) (hb:au n₀ W0 w) (hT:T<=w.heap.size) :
 SeqStopsK F n ak 82 #[.pointer (ai ⟨B,0,U⟩)] (vg (n₀:=n₀) (W0:=W0)) (Kp n₀ T) (fun ys=>ys.map Nd.x=fw sl) (fun q=>q.map Nd.x <+: fw sl) (eZ sl) w:=fun l J Jx W hW hJ _ hY h0=>
 Ut F hd hf hg hro n l B n₀ T W0 hn J Jx sl (fun s W W' h hb=>RX hJ h hb) hY p m c W ((hW.cell (p:=⟨B,0,U⟩) (block_lt hx)).trans hx) hk hs (hb.trans (hW.mono (av hn hb.size))) (av hT hW.size) h0
end Sm
namespace Ex
open Go.RowKit Go.Shelf
attribute [local go_sem] Oper.semAt_some
set_option maxHeartbeats 2000000
theorem ajL {W:ah} {B:Nat} {v:Value} {t:TypeId} (h:W.heap[B]?=ai (.cells #[v] t (0,0))):W.cell? ⟨B,0,U⟩=ai v/\W.frozen? ⟨B,0,U⟩=false:=by
 constructor <;> simp[World.cell?,World.frozen?,h]
theorem uW (W:ah) (v:Value) (t:TypeId):(W.alloc (.cells #[v] t)).cell? ⟨W.heap.size,0,U⟩=ai v/\(W.alloc (.cells #[v] t)).frozen? ⟨W.heap.size,0,U⟩=false:=
 ajL (World.alloc_heap_new W _)
theorem NL {W:ah} {a:Addr} {v:Value} (o:Obj) (h:W.cell? a=ai v):(W.alloc o).cell? a=ai v:=cell_kept h (World.grownBy_alloc W o U) (fun r e=>by cases e)
theorem TJ {W:ah} {a:Addr} {v:Value} (o:Obj) (h:W.cell? a=ai v) (hf:W.frozen? a=false):(W.alloc o).frozen? a=false:=(frozen_kept h (World.grownBy_alloc W o U) (fun r e=>by cases e)).trans hf
theorem Fg {W:ah} {a B:Nat} {v:Value} (h:W.cell? ⟨a,0,U⟩=ai v) (hne:a≠B) (u:Value):(W.setCell ⟨B,0,U⟩ u).cell? ⟨a,0,U⟩=ai v:=
 (World.cell?_of_block (a:=⟨a,0,U⟩) ((grownBy_setCell' W B u).block a (block_lt h) (fun e=>hne (by cases e;rfl)))).trans h
theorem pK {n₀ g k:Nat} {a W:ah} (h:au n₀ a W) (hg:n₀<=g) (v:Value):au n₀ a (W.setCell ⟨g,k,U⟩ v):=h.setCell (p:=⟨g,k,U⟩) hg v
theorem UM {ys:List Nd} {e:Ex} (h:ys.map Nd.x=pre e):ys.length=cnt e:=by
 have:=congrArg List.length h;rwa [List.length_map,U9] at this
theorem Va {q:List Nd} {e:Ex} (h:q.map Nd.x <+: pre e):q.length<=cnt e:=by
 have:=h.length_le;rwa [List.length_map,U9] at this
theorem mX {p:Prop} (h:p:=by omega):p:=h
theorem BH {p:Prop} (h:p:=by simp;omega):p:=h
set_option maxRecDepth 100000 in
theorem UQ (e:Ex) (p:Option Addr) (m c:Nat) (w:ah) (h:In w e p m) (hs:Sz e) (hc:cnt e<=1000000):Calls ak 95 #[.agg #[.int .i64 e.o,.string e.s,.int .i64 e.n,.slice p m c],.int .i64 60] w (Gives (.bool (decide (60<cnt e))) w):=by
 obtain⟨o,s,nn,kl⟩:=e;simp only[Ex.o,Ex.s,Ex.n];have HH:=V h;have HS:=V hs;have HC:=V hc;clear h hs hc;refine(callsIn_wide (n:=3)).1 ?_;refine callsIn_of_wp_marks Tryz.func95 rfl trivial ?_ rfl;simp only[Tryz.ntmps95,List.size_toArray,aj,List.length_nil,Nat.reduceAdd,Nat.reduceSub,Array.replicate_succ,Array.replicate_zero,List.push_toArray,List.append_toArray,List.nil_append,ag]
 gi_wp2_with (refine⟨trivial,?_⟩;gi_at_call 97;refine(aea Fence.wide _ trivial rfl _ _ _ _ _ _ _).mono ?_;rintro e w' ⟨rfl,rfl⟩)
 obtain⟨w1,hw1⟩:∃w1,w.alloc (.cells #[.int .i64 o,.string s,.int .i64 nn,.slice p m c] 41)=w1:=⟨_,rfl⟩
 have hz1:w1.heap.size=w.heap.size+1:=by rw[← hw1];simp
 have hb1:au w.heap.size w w1:=by rw[← hw1];exact bl
 obtain⟨w2,hw2⟩:∃w2,w1.alloc (.cells #[.int .i64 60] 3)=w2:=⟨_,rfl⟩
 have hz2:w2.heap.size=w.heap.size+2:=by rw[← hw2];simp[hz1]
 have hb2:au w1.heap.size w1 w2:=by rw[← hw2];exact bl
 have h2:=uW w1 (.int .i64 60) 3;rw[hw2] at h2;obtain⟨w3,hw3⟩:∃w3,w2.alloc (.cells #[.bool false] 4)=w3:=⟨_,rfl⟩
 have hz3:w3.heap.size=w.heap.size+3:=by rw[← hw3];simp[hz2]
 have hb3:au w2.heap.size w2 w3:=by rw[← hw3];exact bl
 have h3:=uW w2 (.bool false) 4;rw[hw3] at h3;obtain⟨w4,hw4⟩:∃w4,w3.alloc (.cells #[.int .i64 0] 3)=w4:=⟨_,rfl⟩
 have sH:w4.heap.size=w.heap.size+4:=by rw[← hw4];simp[hz3]
 have hb4:au w3.heap.size w3 w4:=by rw[← hw4];exact bl
 have h4:=uW w3 (.int .i64 0) 3;rw[hw4] at h4;obtain⟨w5,xc⟩:∃w5,w4.alloc (.cells #[.int .i64 o,.string s,.int .i64 nn,.slice p m c] 41)=w5:=⟨_,rfl⟩
 have Um:w5.heap.size=w.heap.size+5:=by rw[← xc];simp[sH]
 have hb5:au w4.heap.size w4 w5:=by rw[← xc];exact bl
 have h5:=ni (w:=w4) (o:=o) (s:=s) (n:=nn) (p:=p) (m:=m) (c:=c) (t:=41);rw[xc] at h5;have g2:w5.cell? ⟨w1.heap.size,0,U⟩=ai (.int .i64 60):=(hb5.cell BH).trans ((hb4.cell BH).trans ((hb3.cell BH).trans h2.1));have g3:w5.cell? ⟨w2.heap.size,0,U⟩=ai (.bool false):=(hb5.cell BH).trans ((hb4.cell BH).trans h3.1);have JI:w5.frozen? ⟨w2.heap.size,0,U⟩=false:=(hb5.frozen BH).trans ((hb4.frozen BH).trans h3.2);have g4:w5.cell? ⟨w3.heap.size,0,U⟩=ai (.int .i64 0):=(hb5.cell BH).trans h4.1;have JJ:w5.frozen? ⟨w3.heap.size,0,U⟩=false:=(hb5.frozen BH).trans h4.2;have hb:au w.heap.size w w5:=hb1.trans ((hb2.mono mX).trans ((hb3.mono mX).trans ((hb4.mono mX).trans (hb5.mono mX))));rw[hz1] at g2;rw[hz2] at g3 JI;rw[hz3] at g4 JJ;rw[sH] at h5;rw[hw1,hw2,hw3,hw4,xc];clear hw1 hw2 hw3 hw4 xc hb1 hb2 hb3 hb4 hb5 h2 h3 h4 hz1 hz2 hz3 sH;refine wpIn_rangeFunc_ownG rfl mX (gf:=144) (lb:=#[.pointer (ai ⟨w.heap.size+1+1+1+1,0,U⟩)]) rfl trivial (enters_of Tryz.func144 (by kernel_rfl) rfl)
  (aeb Fence.wide rfl trivial trivial rfl _ (w.heap.size+1+1+1+1) w.heap.size w5.heap.size (.mk o s nn kl) p m c w5 h5 (HH.out.below hb) HS.out mX (af _)) (fun h k=>h.trans k) (Kp.put mX) (Below.refl _ _) (fun _=>rfl)
  (fun ps W=>((W.cell? ⟨w.heap.size+1+1+1,0,U⟩=ai (.int .i64 (ps.length:Nat))/\W.frozen? ⟨w.heap.size+1+1+1,0,U⟩=false)/\W.cell? ⟨w.heap.size+1,0,U⟩=ai (.int .i64 60)/\W.cell? ⟨w.heap.size+1+1,0,U⟩=ai (.bool false)/\W.frozen? ⟨w.heap.size+1+1,0,U⟩=false/\ps.length<=60)/\au w.heap.size w W)
  (fun c ps W=>(c=.ret/\60<ps.length/\W.cell? ⟨w.heap.size+1+1,0,U⟩=ai (.bool true))/\au w.heap.size w W)
  (OwnFrom.and (Own.from (fun s A B row hs hg hr=>⟨⟨cell_kept hs.1.1 hg hr,(frozen_kept hs.1.1 hg hr).trans hs.1.2⟩,cell_kept hs.2.1 hg hr,cell_kept hs.2.2.1 hg hr,(frozen_kept hs.2.2.1 hg hr).trans hs.2.2.2.1,hs.2.2.2.2⟩) _) (ownFrom_below (af _) mX))
  (fun c=>OwnFrom.and (Own.from (fun s A B row hs hg hr=>⟨hs.1,hs.2.1,cell_kept hs.2.2 hg hr⟩) _) (ownFrom_below (af _) mX))
  ⟨⟨⟨g4,JJ⟩,g2,g3,JI,by simp⟩,hb⟩
  (fun x=>{ tmps:=#[.agg #[.int .i64 o,.string s,.int .i64 nn,.slice p m c],.int .i64 60,.pointer (ai ⟨w.heap.size,0,U⟩),.pointer (ai ⟨w.heap.size+1,0,U⟩),.pointer (ai ⟨w.heap.size+1+1,0,U⟩),.pointer (ai ⟨w.heap.size+1+1+1,0,U⟩),.agg #[.int .i64 o,.string s,.int .i64 nn,.slice p m c],.func (.func 144) #[] #[.pointer (ai ⟨w.heap.size+1+1+1+1,0,U⟩)],.agg #[.int .i64 x.x.o,.string x.x.s,.int .i64 x.x.n,.slice x.p x.m x.c],undef,undef,undef,undef,undef],defers:=[] }) ?assign ?body ?done ?stop
 case assign=>
  intro l x W K hK;simp only[vg]
  gi_wp2
  simp[go_sem]
  exact hK
 case body=>
  rintro l ps x W ⟨⟨⟨hc,hf⟩,JM,hr,hrf,hle⟩,hB⟩ hlt;have hlt2:(ps.length:Int)<=60:=by omega
  by_cases h6:ps.length=60
  · have e6:(ps.length:Int)=60:=by omega
    rw[e6] at hc;clear hlt2 e6
    gi_wp2
    refine⟨((KeepsOthers.setCell _ _ _).trans (KeepsOthers.setCell _ _ _)).from _,⟨rfl,by rw[ae,h6];simp,?_⟩,pK (pK hB mX _) mX _⟩;exact World.cell?_setCell_same' _ _ _ (by rw[Fg hr mX];rfl)
  · have l6:(ps.length:Int)+1<=60:=by omega
    gi_wp2
    refine⟨(KeepsOthers.setCell _ _ _).from _,Kp.set mX mX _,⟨⟨?_,by rw[World.frozen?_setCell];exact hf⟩,?_,?_,by rw[World.frozen?_setCell];exact hrf,by rw[ae];simp;omega⟩,pK hB mX _⟩
    · rw[World.cell?_setCell_same' _ _ _ (by rw[hc];rfl),ae]
      congr 2
    · exact Fg JM mX _
    · exact Fg hr mX _
 case done=>
  rintro D ys W hD hys ⟨⟨⟨hc,hf⟩,JM,hr,hrf,hle⟩,hB⟩ hK;have hl:=UM hys;have hv:decide (60<cnt (.mk o s nn kl))=false:=decide_eq_false mX;have HV:=V hv
  gi_wp2
  have hK':=(KeepsOthers.setCell W ⟨w.heap.size+1+1,0,U⟩ (.bool false)).same D _ hK rfl;refine⟨by simp,.inl ⟨_,_,rfl,run_takeDeferred hK',?_⟩⟩;have sD:=cell_kept (World.cell?_setCell_same' W ⟨w.heap.size+1+1,0,U⟩ (.bool false) (by rw[hr];rfl)) (grownBy_putObj' _ D (.deferred U)) (fun r e=>by cases e;exact⟨_,hK',rfl⟩);refine⟨.bool false,?_,by rw[HV.out],(pK hB mX _).trans (belowK_b (w:=w) (af _) _ D _ _ mX hK' rfl rfl)⟩;simp[results,Tryz.f95,go_sem,sD]
 case stop=>
  rintro D c ps W hD hps ⟨⟨rfl,h6,hr⟩,hB⟩ hK;have hl:=Va hps;have hv:decide (60<cnt (.mk o s nn kl))=true:=decide_eq_true mX;have HV:=V hv
  gi_wp2
  refine⟨by simp,.inl ⟨_,_,rfl,run_takeDeferred hK,?_⟩⟩;have sD:=cell_kept hr (grownBy_putObj' _ D (.deferred U)) (fun r e=>by cases e;exact⟨_,hK,rfl⟩);refine⟨.bool true,?_,by rw[HV.out],hB.trans (belowK_b (w:=w) (af _) W D _ _ mX hK rfl rfl)⟩;simp[results,Tryz.f95,go_sem,sD]
end Ex
namespace Sm
open Go.RowKit Go.Shelf
open Ex (Gives uW Fg pK)
attribute [local go_sem] Oper.semAt_some
set_option maxHeartbeats 1000000
theorem UM {n₀:Nat} {W0:ah} {ys:List (Nd n₀ W0)} {sl:List St} (h:ys.map Nd.x=fw sl):ys.length=eZ sl:=by
 have:=congrArg List.length h;rwa [List.length_map,Pg] at this
theorem Va {n₀:Nat} {W0:ah} {q:List (Nd n₀ W0)} {sl:List St} (h:q.map Nd.x <+: fw sl):q.length<=eZ sl:=by
 have:=h.length_le;rwa [List.length_map,Pg] at this
theorem oI {p:Prop} (h:p:=by omega):p:=h
theorem BI {p:Prop} (h:p:=by simp;omega):p:=h
set_option maxRecDepth 100000 in
theorem UQ (sl:List St) (p:Option Addr) (m c:Nat) (w:ah) (h:oK w sl p m) (hs:lY sl):Calls ak 42 #[.slice p m c,.int .i64 200] w (Gives (.bool (decide (200<eZ sl))) w):=by
 have HH:=V h;have HS:=V hs;clear h hs;refine(callsIn_wide (n:=3)).1 ?_;refine callsIn_of_wp_marks Tryz.func42 rfl trivial ?_ rfl;simp only[Tryz.ntmps42,List.size_toArray,aj,List.length_nil,Nat.reduceAdd,Nat.reduceSub,Array.replicate_succ,Array.replicate_zero,List.push_toArray,List.append_toArray,List.nil_append,ag]
 gi_wp2_with (refine⟨trivial,?_⟩;gi_at_call 44;refine(afo Fence.wide _ trivial rfl _ _ _ _).mono ?_;rintro e w' ⟨rfl,rfl⟩)
 obtain⟨w2,hw2⟩:∃w2,w.alloc (.cells #[.int .i64 200] 3)=w2:=⟨_,rfl⟩
 have hz2:w2.heap.size=w.heap.size+1:=by rw[← hw2];simp
 have hb2:au w.heap.size w w2:=by rw[← hw2];exact bl
 have h2:=uW w (.int .i64 200) 3;rw[hw2] at h2;obtain⟨w3,hw3⟩:∃w3,w2.alloc (.cells #[.bool false] 4)=w3:=⟨_,rfl⟩
 have hz3:w3.heap.size=w.heap.size+2:=by rw[← hw3];simp[hz2]
 have hb3:au w2.heap.size w2 w3:=by rw[← hw3];exact bl
 have h3:=uW w2 (.bool false) 4;rw[hw3] at h3;obtain⟨w4,hw4⟩:∃w4,w3.alloc (.cells #[.int .i64 0] 3)=w4:=⟨_,rfl⟩
 have sH:w4.heap.size=w.heap.size+3:=by rw[← hw4];simp[hz3]
 have hb4:au w3.heap.size w3 w4:=by rw[← hw4];exact bl
 have h4:=uW w3 (.int .i64 0) 3;rw[hw4] at h4;obtain⟨w5,xc⟩:∃w5,w4.alloc (.cells #[.slice p m c] 31)=w5:=⟨_,rfl⟩
 have Um:w5.heap.size=w.heap.size+4:=by rw[← xc];simp[sH]
 have hb5:au w4.heap.size w4 w5:=by rw[← xc];exact bl
 have h5:=uW w4 (.slice p m c) 31;rw[xc] at h5;have g2:w5.cell? ⟨w.heap.size,0,U⟩=ai (.int .i64 200):=(hb5.cell BI).trans ((hb4.cell BI).trans ((hb3.cell BI).trans h2.1));have g3:w5.cell? ⟨w2.heap.size,0,U⟩=ai (.bool false):=(hb5.cell BI).trans ((hb4.cell BI).trans h3.1);have JI:w5.frozen? ⟨w2.heap.size,0,U⟩=false:=(hb5.frozen BI).trans ((hb4.frozen BI).trans h3.2);have g4:w5.cell? ⟨w3.heap.size,0,U⟩=ai (.int .i64 0):=(hb5.cell BI).trans h4.1;have JJ:w5.frozen? ⟨w3.heap.size,0,U⟩=false:=(hb5.frozen BI).trans h4.2;have hb:au w.heap.size w w5:=hb2.trans ((hb3.mono oI).trans ((hb4.mono oI).trans (hb5.mono oI)));have g5:=h5.1;rw[hz2] at g3 JI;rw[hz3] at g4 JJ;rw[sH] at g5;rw[hw2,hw3,hw4,xc];clear hw2 hw3 hw4 xc hb2 hb3 hb4 hb5 h2 h3 h4 h5 hz2 hz3 sH;refine wpIn_rangeFunc_ownG rfl oI (gf:=82) (lb:=#[.pointer (ai ⟨w.heap.size+1+1+1,0,U⟩)]) rfl trivial (enters_of Tryz.func82 (by kernel_rfl) rfl)
  (afp Fence.wide rfl trivial trivial rfl _ (w.heap.size+1+1+1) w.heap.size w5.heap.size w (af _) sl p m c w5 g5 HH.out HS.out hb (af _)) (fun h k=>h.trans k) (Kp.put oI) (Below.refl _ _) (fun _=>rfl)
  (fun ps W=>((W.cell? ⟨w.heap.size+1+1,0,U⟩=ai (.int .i64 (ps.length:Nat))/\W.frozen? ⟨w.heap.size+1+1,0,U⟩=false)/\W.cell? ⟨w.heap.size,0,U⟩=ai (.int .i64 200)/\W.cell? ⟨w.heap.size+1,0,U⟩=ai (.bool false)/\W.frozen? ⟨w.heap.size+1,0,U⟩=false/\ps.length<=200)/\au w.heap.size w W)
  (fun c ps W=>(c=.ret/\200<ps.length/\W.cell? ⟨w.heap.size+1,0,U⟩=ai (.bool true))/\au w.heap.size w W)
  (OwnFrom.and (Own.from (fun s A B row hs hg hr=>⟨⟨cell_kept hs.1.1 hg hr,(frozen_kept hs.1.1 hg hr).trans hs.1.2⟩,cell_kept hs.2.1 hg hr,cell_kept hs.2.2.1 hg hr,(frozen_kept hs.2.2.1 hg hr).trans hs.2.2.2.1,hs.2.2.2.2⟩) _) (ownFrom_below (af _) oI))
  (fun c=>OwnFrom.and (Own.from (fun s A B row hs hg hr=>⟨hs.1,hs.2.1,cell_kept hs.2.2 hg hr⟩) _) (ownFrom_below (af _) oI))
  ⟨⟨⟨g4,JJ⟩,g2,g3,JI,by simp⟩,hb⟩
  (fun x=>{ tmps:=#[.slice p m c,.int .i64 200,undef,.pointer (ai ⟨w.heap.size,0,U⟩),.pointer (ai ⟨w.heap.size+1,0,U⟩),.pointer (ai ⟨w.heap.size+1+1,0,U⟩),.slice p m c,.func (.func 82) #[] #[.pointer (ai ⟨w.heap.size+1+1+1,0,U⟩)],.agg (cs x.x x.P),undef,undef,undef,undef,undef],defers:=[] }) ?assign ?body ?done ?stop
 case assign=>
  intro l x W K hK;simp only[vg]
  gi_wp2
  simp[go_sem]
  exact hK
 case body=>
  rintro l ps x W ⟨⟨⟨hc,hf⟩,JM,hr,hrf,hle⟩,hB⟩ hlt;have hlt2:(ps.length:Int)<=200:=by omega
  by_cases h6:ps.length=200
  · have e6:(ps.length:Int)=200:=by omega
    rw[e6] at hc;clear hlt2 e6
    gi_wp2
    refine⟨((KeepsOthers.setCell _ _ _).trans (KeepsOthers.setCell _ _ _)).from _,⟨rfl,by rw[ae,h6];simp,?_⟩,pK (pK hB oI _) oI _⟩;exact World.cell?_setCell_same' _ _ _ (by rw[Fg hr oI];rfl)
  · have l6:(ps.length:Int)+1<=200:=by omega
    gi_wp2
    refine⟨(KeepsOthers.setCell _ _ _).from _,Kp.set oI oI _,⟨⟨?_,by rw[World.frozen?_setCell];exact hf⟩,?_,?_,by rw[World.frozen?_setCell];exact hrf,by rw[ae];simp;omega⟩,pK hB oI _⟩
    · rw[World.cell?_setCell_same' _ _ _ (by rw[hc];rfl),ae]
      congr 2
    · exact Fg JM oI _
    · exact Fg hr oI _
 case done=>
  rintro D ys W hD hys ⟨⟨⟨hc,hf⟩,JM,hr,hrf,hle⟩,hB⟩ hK;have hl:=UM hys;have hv:decide (200<eZ sl)=false:=decide_eq_false oI;have HV:=V hv
  gi_wp2
  have hK':=(KeepsOthers.setCell W ⟨w.heap.size+1,0,U⟩ (.bool false)).same D _ hK rfl;refine⟨by simp,.inl ⟨_,_,rfl,run_takeDeferred hK',?_⟩⟩;have sD:=cell_kept (World.cell?_setCell_same' W ⟨w.heap.size+1,0,U⟩ (.bool false) (by rw[hr];rfl)) (grownBy_putObj' _ D (.deferred U)) (fun r e=>by cases e;exact⟨_,hK',rfl⟩);refine⟨.bool false,?_,by rw[HV.out],(pK hB oI _).trans (belowK_b (w:=w) (af _) _ D _ _ oI hK' rfl rfl)⟩;simp[results,Tryz.f42,go_sem,sD]
 case stop=>
  rintro D c ps W hD hps ⟨⟨rfl,h6,hr⟩,hB⟩ hK;have hl:=Va hps;have hv:decide (200<eZ sl)=true:=decide_eq_true oI;have HV:=V hv
  gi_wp2
  refine⟨by simp,.inl ⟨_,_,rfl,run_takeDeferred hK,?_⟩⟩;have sD:=cell_kept hr (grownBy_putObj' _ D (.deferred U)) (fun r e=>by cases e;exact⟨_,hK,rfl⟩);refine⟨.bool true,?_,by rw[HV.out],hB.trans (belowK_b (w:=w) (af _) W D _ _ oI hK rfl rfl)⟩;simp[results,Tryz.f42,go_sem,sD]
end Sm
namespace Sm
open Go.RowKit
open Ex (Gives)
attribute [local go_sem] cs0 cs1 cs2 wU wV wW wX wY wZ w_ wJ wK wL wM wN wO wP wQ wR wS wT
set_option maxHeartbeats 1000000
theorem anE {w':ah} {g:Nat} {x:St} {P:Pl} (h:dK w' g x P):w'.cell? ⟨g,19,U⟩=ai (.slice P.bp P.bm P.bc)/\w'.cell? ⟨g,20,U⟩=ai (.slice P.lp P.lm P.lc):=⟨h.c19,h.c20⟩
set_option maxRecDepth 100000 in
theorem SQ (sl:List St):∀(p:Option Addr) (m c:Nat) (w:ah),oK w sl p m->eZ sl<=4000000->Calls ak 43 #[.slice p m c] w (Gives (.int .i64 (gV sl:Nat)) w):=by
 induction sl using UK with
 | h sl ih=>
  intro p m c w h hc;have HH:=V h;have HI:=V ih;obtain⟨hl,hm⟩:=h.len;have HL:=V hl;have HC:=V hc;clear ih h hl hc;rcases Nat.eq_zero_or_pos m with h0|h0
  · have hz:sl=[]:=List.length_eq_zero_iff.1 (by rw[HL.out,h0]);subst h0;rw[show gV sl=0 by rw[hz,gV]];clear hz;go_enter Tryz.func43,Tryz.ntmps43;go_wp2_with fail;go_ret;exact⟨rfl,bl⟩
  have hd:=Ti (l:=sl) (by rw[HL.out];exact h0);rw[hd];clear hd;have t0:((m:Int)==0)=false:=beq_eq_false_iff_ne.2 (by omega);obtain⟨n21,oU⟩:∃n:Nat,21=n:=⟨_,rfl⟩
  have hsz:∀w,(sizeOf 60).run ak w=.ok n21 w:=fun w=>by rw[Tryz.sizeOf60,oU]
  have lV:=V oU;clear oU;go_enter Tryz.func43,Tryz.ntmps43;go_wp2_with fail;go_loopw [3,11] (fun d i wr=>∃k:Nat,k<=m/\d=.int .i64 (pW (sl.take k):Nat)/\i=.int .i64 (k:Nat)/\Hid (au w.heap.size w wr)) (fun d i _=>m-(intOf i).toNat)
  case atStart=>exact⟨0,Nat.zero_le _,rfl,rfl,V bl⟩
  case round=>
   obtain⟨k,hk,rfl,rfl,HW⟩:=hrel;have k0:(0:Int)<=(k:Int):=by omega
   rcases Nat.lt_or_ge k m with h|h
   · have k1:(k:Int)<(m:Int):=by omega
     obtain⟨b,o',rfl,-,hG,hcell⟩:=HH.out.rows (by omega);have hkl:k<sl.length:=by rw[HL.out];omega
     obtain⟨P,hc21,yo⟩:=hcell.out k hkl;have hmem:sl[k]∈sl:=List.getElem_mem hkl;have hgx:sl[k]?=ai sl[k]:=List.getElem?_eq_getElem hkl;obtain⟨x,hx⟩:∃x,sl[k]=x:=⟨_,rfl⟩
     rw[hx] at hc21 yo hmem hgx;have Ai:=V yo;have HX:=V hgx;have HM:=V hmem;have hcw:=(hc21.on HW.out hG).at lV.out;have hbr:b<wr.heap.size:=Nat.lt_of_lt_of_le hG HW.out.size;have hcsz:(cs x P).size=n21:=lV.out;have ld1:=(hcw).dW lV.out;have lI:=(hcw).loadVar;have nD:=(hcw).loadAt;have st1:=Le x P;have st2:=Lg x P;have rM:=Lf x P;have Ac:=V hcw;clear hcell hc21 yo hx hmem hgx hkl hcw;have d1:=acG sl k;have HK:=V (ana HX.out);obtain⟨i1,i2⟩:=HI.out x HM.out;have d2:=Gj HM.out;rw[Ar] at d2;have c1:=N_ x.bo;have c2:=N_ x.el;obtain⟨D,hD⟩:∃D,pW (sl.take k)=D:=⟨_,rfl⟩
     obtain⟨E,hE⟩:∃E,gV x.bo=E:=⟨_,rfl⟩
     obtain⟨F,hF⟩:∃F,gV x.el=F:=⟨_,rfl⟩
     have hcc:=HC.out;have F1:=V (fun W hi=>i1 P.bp P.bm P.bc W hi (by omega));have F2:=V (fun W hi=>i2 P.lp P.lm P.lc W hi (by omega));rw[hD] at d1 HK ⊢;rw[hE] at c1 HK F1;rw[hF] at c2 HK F2;have d3:D<=4000000:=by omega
     have d4:E<=4000000:=by omega
     have d5:F<=4000000:=by omega
     clear hD hE hF i1 i2 c1 c2 d1 d2 hcc;have HBX:Hid (∀W,au (wr.alloc (.cells (cs x P) 60)).heap.size (wr.alloc (.cells (cs x P) 60)) W->dK W wr.heap.size x P):=V fun W hb=>Ao.on hb;obtain⟨M,hM⟩:∃M,max D (max E F)=M:=⟨_,rfl⟩
     have hmx:∀(ts:Array TypeId) (t:TypeId) (W:ah),(Builtin.max_ ts t #[.int .i64 (D:Int),.int .i64 (E:Int),.int .i64 (F:Int)]).run ak W=.ok (.int .i64 (M:Int)) W:=fun ts t W=>by
      rw[run_max_int3]
      congr 2
      rw[← hM]
      split <;> split at * <;> omega
     rw[hM] at HK;have hM2:M<=4000000:=by omega
     clear hM d3 d4 d5;go_wp2_with fail;go_region_held3 (fun w'=>w'.cell? ⟨wr.heap.size,19,U⟩=ai (.slice P.bp P.bm P.bc)/\w'.cell? ⟨wr.heap.size,20,U⟩=ai (.slice P.lp P.lm P.lc)) (first|(refine anE (HBX.out _ ?_);exact bl;done)|(go_keep;done)) (first|(have t:=hb1;go_at_call 43;refine(F2.out _ (Ai.out.el.on (by have bU:=HW.out;exact bl))).mono ?_;rintro e w2 ⟨rfl,hb2⟩)|(go_at_call 43;refine(F1.out _ (Ai.out.bo.on (by have bU:=HW.out;exact bl))).mono ?_;rintro e w1 ⟨rfl,hb1⟩))
     all_goals
      have HWz:Hid (au w.heap.size w w2):=V (by have bU:=HW.out;exact bl);go_wp2_with fail;go_roundw
      case rel=>exact⟨k+1,by omega,by rw[HK.out],by go_num,HWz⟩
      case measure=>simp[intOf];omega
   · obtain rfl:m=k:=by omega
     have HT:Hid (sl.take m=sl):=V (List.take_of_length_le (by rw[HL.out];exact af _));have d1:=acG sl m;have d2:=HC.out;rw[HT.out] at d1 ⊢;have d9:=acH sl;have d8:=N_ sl;obtain⟨D,hD⟩:∃D,pW sl=D:=⟨_,rfl⟩
     rw[hD] at d1 d9 ⊢;have d3:D<=4000000:=by omega
     have HD:=V hD;clear hD d1 d2 d8 d9;go_wp2_with fail;go_ret;exact⟨by rw[HD.out];go_num,HW.out⟩
end Sm
end Go.Proofs.YtbgodajefaahdaaGreatDoor
