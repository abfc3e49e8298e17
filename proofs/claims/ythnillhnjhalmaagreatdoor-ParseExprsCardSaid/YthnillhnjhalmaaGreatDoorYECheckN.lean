/-
  Parts of this proof: The contract of checkNode. The contracts of check, Check and CheckCode. The contract of Expr.
-/
import Derived.Test.YthnillhnjhalmaaGreatDoorYLxAcc
open Go.Proofs.Tryz
open Option renaming none->ae
open Go.Proofs.Tryz renaming prog->af
open Go.Lib renaming hid->U
open Go renaming bodyPost_ret->ag,World->ai
open Nat renaming le_refl->ah
open Go.RowKit renaming Below->aj
set_option linter.unusedVariables false
set_option maxRecDepth 100000
set_option maxHeartbeats 4000000
open Go.Lib (hid)
namespace Go.Proofs.YthnillhnjhalmaaGreatDoor
namespace Ex
open Go.RowKit
open Na (bs fT)
theorem Nv {c:Bool} {o n:Int} {s:List UInt8} {m:Nat} (h:rA c o s n m=true):nd c o s n m=1:=by unfold nd;rw[if_pos h]
theorem alO {c:Bool} {o n:Int} {s:List UInt8} {m:Nat} (h:known c o=false):nd c o s n m=1:=Nv (by unfold rA;rw[h];simp)
theorem alQ {c:Bool} {o n:Int} {s:List UInt8} {m:Nat} (h:known c o=true) (g:¬(m:Int)=zR o):nd c o s n m=1:=Nv (by unfold rA;rw[abp h,decide_eq_false g];simp)
theorem alP {c:Bool} {o n:Int} {s:List UInt8} {m:Nat} (h:known c o=true) (g:wV c o=false) (g2:¬s=[]):nd c o s n m=1:=Nv (by unfold rA;rw[← UX h,g,decide_eq_false g2];simp)
theorem alN {c:Bool} {o n:Int} {s:List UInt8} {m:Nat} (h:known c o=true) (g:zQ c o=false) (g2:¬n=0):nd c o s n m=1:=Nv (by unfold rA;rw[← adq h,g,decide_eq_false g2];simp)
theorem alM {c:Bool} {o n:Int} {s:List UInt8} {m:Nat} (h:known c o=true) (h1:(m:Int)=zR o) (h2:wV c o=true∨s=[]) (h3:zQ c o=true∨n=0):nd c o s n m=if AZ o n=false then 2 else if wV c o=true then fT s else 0:=by
 have hf:rA c o s n m=false:=by
  unfold rA;rw[h,← UX h,← adq h,abp h,decide_eq_true h1];rcases h2 with h2|h2 <;> rcases h3 with h3|h3 <;> simp[h2,h3]
 unfold nd;rw[if_neg (by rw[hf];decide),anI hf,UX h]
 cases fG c o n <;> simp
theorem ajl {s:ByteArray} (h:¬bs s=[]):s.toList.isEmpty=false:=by
 exact afp
theorem Zl {s:ByteArray} (h:bs s=[]):s.toList.isEmpty=true:=by
 rw[Lib.toList_data]
 show(bs s).isEmpty=true
 rw[h];rfl
theorem ahJ {s:ByteArray} {x:Int} (h:fT (bs s)=x) (hs:s.size<=9223372036854775807) (w:ai):Calls af 50 #[.string s] w (Gives (.int .i64 x) w):=by rw[← h];exact Na.oC s w hs
theorem UZ {c:Bool} {o K:Int} {a b kn:Bool} (h1:zR o=K) (h2:wV c o=a) (h3:zQ c o=b) (h4:known c o=kn) (w:ai):Calls af 122 #[.int .i64 o,.bool c] w (Gives (.tuple #[.agg #[.int .i64 K,.bool a,.bool b],.bool kn]) w):=by
 rw[← h1,← h2,← h3,← h4];exact UY c o w
theorem ani {o n:Int} {v:Bool} (h:AZ o n=v) (s:ByteArray) (p:Option Addr) (m c:Nat) (w:ai):Calls af 123 #[.agg #[.int .i64 o,.string s,.int .i64 n,.slice p m c]] w (Gives (.bool v) w):=by
 rw[← h];exact anh o s n p m c w
theorem KH {p:Prop} (h:p:=by
 go_enter func71,ntmps71;go_wp2_with fail;refine(HU.out _).mono ?_;rintro e w1 ⟨rfl,hb1⟩;have q1:w.heap.size<w1.heap.size:=by have:=hb1.size;simp at this;omega
 have Mc:=(hb1.cell (p:=⟨w.heap.size,1,ae⟩) cz).trans gK.2.1;have Q4:=(hb1.cell (p:=⟨w.heap.size,0,ae⟩) cz).trans gK.1;have Q7:=(hb1.cell (p:=⟨w.heap.size,2,ae⟩) cz).trans gK.2.2.1;have Q8:=(hb1.cell (p:=⟨w.heap.size,3,ae⟩) cz).trans gK.2.2.2;exact dS
 ):p:=h
theorem ad8 {p:Prop} (h:p:=by
 go_enter func71,ntmps71;go_wp2_with fail;refine(HU.out _).mono ?_;rintro e w1 ⟨rfl,hb1⟩;have q1:w.heap.size<w1.heap.size:=by have:=hb1.size;simp at this;omega
 have Mc:=(hb1.cell (p:=⟨w.heap.size,1,ae⟩) cz).trans gK.2.1;have Q4:=(hb1.cell (p:=⟨w.heap.size,0,ae⟩) cz).trans gK.1;have Q7:=(hb1.cell (p:=⟨w.heap.size,2,ae⟩) cz).trans gK.2.2.1;have Q8:=(hb1.cell (p:=⟨w.heap.size,3,ae⟩) cz).trans gK.2.2.2;go_wp2_with fail;refine(HR.out _).mono ?_;exact CJ
 ):p:=h
theorem ad9 {p:Prop} (h:p:=by
 clear hK ha hb hk h3 h4 key hv hx
 cases v with
 | false=>
  exact ad8
 | true=>
  go_enter func71,ntmps71;go_wp2_with fail;refine(HU.out _).mono ?_;rintro e w1 ⟨rfl,hb1⟩;have q1:w.heap.size<w1.heap.size:=by have:=hb1.size;simp at this;omega
  have Mc:=(hb1.cell (p:=⟨w.heap.size,1,ae⟩) cz).trans gK.2.1;have Q4:=(hb1.cell (p:=⟨w.heap.size,0,ae⟩) cz).trans gK.1;have Q7:=(hb1.cell (p:=⟨w.heap.size,2,ae⟩) cz).trans gK.2.2.1;have Q8:=(hb1.cell (p:=⟨w.heap.size,3,ae⟩) cz).trans gK.2.2.2;go_wp2_with fail;refine(HR.out _).mono ?_;rintro e w2 ⟨rfl,hb2⟩;have q2:w1.heap.size<w2.heap.size:=by have:=hb2.size;simp at this;omega
  have dd1:w2.cell? ⟨w1.heap.size,1,ae⟩=some (.bool true):=(hb2.cell cz).trans cz;have dd2:w2.cell? ⟨w.heap.size,1,ae⟩=some (.string s):=(hb2.cell vD).trans ((((Below.refl _ w1).alloc (ah _) _).cell vD).trans Mc);go_wp2_with fail;refine(HC.out _).mono ?_;rintro e w3 ⟨rfl,hb3⟩;exact dS
 ):p:=h
theorem ad_ {p:Prop} (h:p:=by
 clear hK ha hb hk h3 h4 key hv hx
 cases v with
 | false=>
  exact ad8
 | true=>
  go_enter func71,ntmps71;go_wp2_with fail;refine(HU.out _).mono ?_;rintro e w1 ⟨rfl,hb1⟩;have q1:w.heap.size<w1.heap.size:=by have:=hb1.size;simp at this;omega
  have Mc:=(hb1.cell (p:=⟨w.heap.size,1,ae⟩) cz).trans gK.2.1;have Q4:=(hb1.cell (p:=⟨w.heap.size,0,ae⟩) cz).trans gK.1;have Q7:=(hb1.cell (p:=⟨w.heap.size,2,ae⟩) cz).trans gK.2.2.1;have Q8:=(hb1.cell (p:=⟨w.heap.size,3,ae⟩) cz).trans gK.2.2.2;go_wp2_with fail;refine(HR.out _).mono ?_;rintro e w2 ⟨rfl,hb2⟩;have q2:w1.heap.size<w2.heap.size:=by have:=hb2.size;simp at this;omega
  have dd1:w2.cell? ⟨w1.heap.size,1,ae⟩=some (.bool false):=(hb2.cell cz).trans cz;exact dS
 ):p:=h
theorem aib (c:Bool) (o:Int) (s:ByteArray) (n:Int) (p:Option Addr) (m c':Nat) (w:ai) (hs:s.size<=140737488355328):Calls af 71 #[.agg #[.int .i64 o,.string s,.int .i64 n,.slice p m c'],.bool c] w (Gives (.int .i64 (nd c o (bs s) n m)) w):=by
 obtain⟨K,hK⟩:∃K,zR o=K:=⟨_,rfl⟩
 obtain⟨a,ha⟩:∃a,wV c o=a:=⟨_,rfl⟩
 obtain⟨b,hb⟩:∃b,zQ c o=b:=⟨_,rfl⟩
 obtain⟨kn,hk⟩:∃kn,known c o=kn:=⟨_,rfl⟩
 have HU:=U (fun W=>UZ hK ha hb hk W)
 cases kn with
 | false=>
  rw[alO hk];clear hK ha hb hk;exact KH
 | true=>
  by_cases h1:(m:Int)=K
  · subst h1;have t1:((m:Int)==(m:Int))=true:=beq_self_eq_true _;have key:∀(aa:a=true∨bs s=[]) (bb:b=true∨n=0),nd c o (bs s) n m=if AZ o n=false then 2 else if wV c o=true then fT (bs s) else 0:=fun aa bb=>alM hk hK.symm (by rw[ha];exact aa) (by rw[hb];exact bb)
    by_cases h3:a=false/\¬bs s=[]
    · rw[alP hk (by rw[ha];exact h3.1) h3.2];obtain⟨rfl,h3⟩:=h3;have t3:=ajl h3;clear hK ha hb hk h3 key;exact KH
    · by_cases h4:b=false/\¬n=0
      · rw[alN hk (by rw[hb];exact h4.1) h4.2];obtain⟨rfl,h4⟩:=h4;have t4:(n==0)=false:=beq_eq_false_iff_ne.2 h4
        cases a with
        | true=>
         clear hK ha hb hk h3 h4 key;exact KH
        | false=>
         have t3:=Zl (s:=s) (Classical.byContradiction fun h=>h3 ⟨rfl,h⟩);clear hK ha hb hk h3 h4 key;exact KH
      · rw[key (by cases a with|true=>exact .inl rfl|false=>exact .inr (Classical.byContradiction fun h=>h3 ⟨rfl,h⟩)) (by cases b with|true=>exact .inl rfl|false=>exact .inr (Classical.byContradiction fun h=>h4 ⟨rfl,h⟩)),ha];obtain⟨v,hv⟩:∃v,AZ o n=v:=⟨_,rfl⟩
        have HR:=U (fun W=>ani hv s p m c' W);have HC:=U (fun W=>ahJ (s:=s) rfl bU W);obtain⟨x,hx⟩:∃x,fT (bs s)=x:=⟨_,rfl⟩
        rw[hx] at HC ⊢;rw[hv]
        cases a with
        | true=>
         cases b with
         | true=>
          exact ad9
         | false=>
          obtain rfl:n=0:=Classical.byContradiction fun h=>h4 ⟨rfl,h⟩;exact ad9
        | false=>
         have t3:=Zl (s:=s) (Classical.byContradiction fun h=>h3 ⟨rfl,h⟩)
         cases b with
         | true=>
          exact ad_
         | false=>
          obtain rfl:n=0:=Classical.byContradiction fun h=>h4 ⟨rfl,h⟩;exact ad_
  · rw[alQ hk (by rw[hK];exact h1)];have t1:((m:Int)==K)=false:=beq_eq_false_iff_ne.2 h1;have t2:((m:Int) != K)=true:=bne_iff_ne.2 h1;clear hK ha hb hk h1;exact KH
end Ex
namespace Ex
open Go.RowKit Go.Shelf
open Na (bs)
attribute [local go_sem] Oper.semAt_some
theorem Rj {e:Ex} {x:Nat} (h:dep e=x) (p:Option Addr) (m c:Nat) (w:ai) (hi:In w e p m) (hc:cnt e<=1000000):Calls af 69 #[.agg #[.int .i64 e.o,.string e.s,.int .i64 e.n,.slice p m c]] w (Gives (.int .i64 (x:Nat)) w):=by rw[← h];exact Ri e p m c w hi hc
theorem JJ {e:Ex} {b:Bool} (h:decide (60<cnt e)=b) (p:Option Addr) (m c:Nat) (w:ai) (hi:In w e p m) (hs:Sz e) (hc:cnt e<=1000000):Calls af 68 #[.agg #[.int .i64 e.o,.string e.s,.int .i64 e.n,.slice p m c],.int .i64 60] w (Gives (.bool b) w):=by rw[← h];exact TG e p m c w hi hs hc
theorem aic {c:Bool} {o n v:Int} {s:ByteArray} {m:Nat} (h:nd c o (bs s) n m=v) (p:Option Addr) (c':Nat) (w:ai) (hs:s.size<=140737488355328):Calls af 71 #[.agg #[.int .i64 o,.string s,.int .i64 n,.slice p m c'],.bool c] w (Gives (.int .i64 v) w):=by rw[← h];exact aib c o s n p m c' w hs
theorem dW.own {β:Type} (g:Nat) (o:Int) (s:ByteArray) (n:Int) (p:Option Addr) (m c:Nat):Own (fun(_:β) W=>dW W g o s n p m c):=fun _ A B row hs hg hr=>⟨cell_kept hs.1 hg hr,cell_kept hs.2.1 hg hr,cell_kept hs.2.2.1 hg hr,cell_kept hs.2.2.2 hg hr⟩
theorem F_ {B:Nat} {W W':ai} (h:aj W.heap.size W W'):KeepsFrom B W W':=⟨h.size,fun k o _ hk _=>(h.block k (Array.getElem?_eq_some_iff.1 hk).1).trans hk⟩
theorem ags {c:Bool} {l:List Ex} {x:Ex} (h:bad c l=0):bad c (l++[x])=xU c x:=by
 rw[QD h];by_cases g:xU c x=0
 · rw[Fq g,g];rfl
 · rw[LQ g]
def St (w wr:ai) (cc:Bool) (o:Int) (s:ByteArray) (nn:Int) (p:Option Addr) (m c:Nat):Prop:=
 dW wr w.heap.size o s nn p m c/\wr.cell? ⟨w.heap.size+1,0,ae⟩=some (.bool cc)/\(wr.cell? ⟨w.heap.size+1+1,0,ae⟩=some (.int .i64 0)/\wr.frozen? ⟨w.heap.size+1+1,0,ae⟩=false)/\Hid (aj w.heap.size w wr)/\w.heap.size+3<=wr.heap.size
section
variable {w wr w2:ai} {cc:Bool} {o:Int} {s:ByteArray} {nn:Int} {p:Option Addr} {m c:Nat}
theorem St.on (h:St w wr cc o s nn p m c) (hb:aj wr.heap.size wr w2):St w w2 cc o s nn p m c:=by
 obtain⟨h1,h2,⟨h3,h4⟩,h5,h6⟩:=h;exact⟨h1.on hb,(hb.cell (p:=⟨w.heap.size+1,0,ae⟩) (show w.heap.size+1<wr.heap.size by omega)).trans h2,⟨(hb.cell (p:=⟨w.heap.size+1+1,0,ae⟩) (show w.heap.size+1+1<wr.heap.size by omega)).trans h3,(hb.frozen (p:=⟨w.heap.size+1+1,0,ae⟩) (show w.heap.size+1+1<wr.heap.size by omega)).trans h4⟩,U (h5.out.trans (hb.mono bU)),Nat.le_trans h6 hb.size⟩
theorem St.new:St w (((w.alloc (.cells #[.int .i64 o,.string s,.int .i64 nn,.slice p m c] 26)).alloc (.cells #[.bool cc] 4)).alloc (.cells #[.int .i64 0] 27)) cc o s nn p m c:=by
 obtain⟨w1,hw1⟩:∃w1,w.alloc (.cells #[.int .i64 o,.string s,.int .i64 nn,.slice p m c] 26)=w1:=⟨_,rfl⟩
 have hz1:w1.heap.size=w.heap.size+1:=by rw[← hw1];simp
 have hb1:aj w.heap.size w w1:=by rw[← hw1];exact bl
 have h1:=gK (w:=w) (o:=o) (s:=s) (n:=nn) (p:=p) (m:=m) (c:=c) (t:=26);obtain⟨w2,hw2⟩:∃w2,w1.alloc (.cells #[.bool cc] 4)=w2:=⟨_,rfl⟩
 have hz2:w2.heap.size=w.heap.size+2:=by rw[← hw2];simp[hz1]
 have hb2:aj w1.heap.size w1 w2:=by rw[← hw2];exact bl
 have h2:=uq w1 (.bool cc) 4;rw[hw2] at h2;obtain⟨w3,hw3⟩:∃w3,w2.alloc (.cells #[.int .i64 0] 27)=w3:=⟨_,rfl⟩
 have hz3:w3.heap.size=w.heap.size+3:=by rw[← hw3];simp[hz2]
 have hb3:aj w2.heap.size w2 w3:=by rw[← hw3];exact bl
 have h3:=uq w2 (.int .i64 0) 27;rw[hw3] at h3;rw[hw1] at h1;rw[hw1,hw2,hw3];rw[hz1] at h2;rw[hz2] at h3;exact⟨(h1.on hb2).on hb3,(hb3.cell (p:=⟨w.heap.size+1,0,ae⟩) (show w.heap.size+1<w2.heap.size by omega)).trans h2.1,h3,U (hb1.trans ((hb2.mono bU).trans (hb3.mono bU))),by omega⟩
end
theorem ahR (cc:Bool) (e:Ex) (p:Option Addr) (m c:Nat) (w:ai) (h:In w e p m) (hs:Sz e) (hc:cnt e<=1000000):Calls af 33 #[.agg #[.int .i64 e.o,.string e.s,.int .i64 e.n,.slice p m c],.bool cc] w (Gives (.int .i64 (fU cc e)) w):=by
 by_cases h6:60<cnt e
 · have HM:=U (fun W hi=>JJ (decide_eq_true h6) p m c W hi hs hc);have HH:=U h;rw[show fU cc e=6 by unfold fU;rw[if_pos h6]];obtain⟨o,s,nn,kl⟩:=e;simp only[Ex.o,Ex.s,Ex.n] at HM ⊢;clear h hs hc h6;go_enter func33,ntmps33;go_wp2_with fail;refine(HM.out _ (HH.out.on bl)).mono ?_;rintro e w1 ⟨rfl,hb1⟩;have HST:=U (St.new.on hb1);have hr:=HST.out.2.2.1.1;have hf:=HST.out.2.2.1.2;clear hb1;go_wp2_with fail
   (try simp only[Exit.inBlock,Exit.then])
   have bZ:=HST.out.2.2.2.1.out;have e1:(w1.setCell ⟨w.heap.size+1+1,0,ae⟩ (.int .i64 6)).cell? ⟨w.heap.size+1+1,0,ae⟩=some (.int .i64 6):=World.cell?_setCell_same' _ _ _ (by rw[hr];rfl);exact ag (v:=.int .i64 6) (by simp[results,Tryz.f33,go_sem,e1]) rfl ⟨rfl,pq bZ bU _⟩
 have HM:=U (fun W hi=>JJ (decide_eq_false h6) p m c W hi hs hc);have HD:=U (fun W hi=>Rj (e:=e) rfl p m c W hi hc);by_cases h12:12<dep e
 · have HH:=U h;rw[show fU cc e=11 by unfold fU;rw[if_neg h6,if_pos h12]];obtain⟨D,hD⟩:∃D,dep e=D:=⟨_,rfl⟩
   rw[hD] at HD h12;have d1:(12:Int)<(D:Int):=by omega
   have d2:decide ((12:Int)<(D:Int))=true:=decide_eq_true d1;obtain⟨o,s,nn,kl⟩:=e;simp only[Ex.o,Ex.s,Ex.n] at HM HD ⊢;clear h hs hc h6 hD h12;go_enter func33,ntmps33;go_wp2_with fail;refine(HM.out _ (HH.out.on bl)).mono ?_;rintro e w1 ⟨rfl,hb1⟩;have HST:=U (St.new.on hb1);obtain⟨x0,x1,x2,x3⟩:=HST.out.1;clear hb1;go_wp2_with fail;refine(HD.out _ (HH.out.on HST.out.2.2.2.1.out)).mono ?_;rintro e w2 ⟨rfl,hb2⟩;have sM:=U (HST.out.on hb2);have hr:=sM.out.2.2.1.1;have hf:=sM.out.2.2.1.2;clear hb2;go_wp2_with fail
   (try simp only[Exit.inBlock,Exit.then])
   have bZ:=sM.out.2.2.2.1.out;have e1:(w2.setCell ⟨w.heap.size+1+1,0,ae⟩ (.int .i64 11)).cell? ⟨w.heap.size+1+1,0,ae⟩=some (.int .i64 11):=World.cell?_setCell_same' _ _ _ (by rw[hr];rfl);exact ag (v:=.int .i64 11) (by simp[results,Tryz.f33,go_sem,e1]) rfl ⟨rfl,pq bZ bU _⟩
 have HH:=U h;have HS:=U hs;have HC:=U hc;rw[show fU cc e=bad cc (pre e) by unfold fU;rw[if_neg h6,if_neg h12]];obtain⟨D,hD⟩:∃D,dep e=D:=⟨_,rfl⟩
 rw[hD] at HD h12;have d1:(D:Int)<=12:=by omega
 have d2:decide ((12:Int)<(D:Int))=false:=decide_eq_false bU;obtain⟨o,s,nn,kl⟩:=e;simp only[Ex.o,Ex.s,Ex.n] at HM HD ⊢;clear h hs hc h6 hD h12;refine(callsIn_wide (n:=3)).1 ?_;refine callsIn_of_wp_marks func33 rfl trivial ?_ rfl;simp only[ntmps33,List.size_toArray,List.length_cons,List.length_nil,Nat.reduceAdd,Nat.reduceSub,Array.replicate_succ,Array.replicate_zero,List.push_toArray,List.append_toArray,List.nil_append,List.cons_append]
 gi_wp2_with fail
 refine⟨trivial,?_⟩;refine(callsIn_wide.2 (HM.out _ (HH.out.on bl))).mono ?_;rintro e w1 ⟨rfl,hb1⟩;have HST:=U (St.new.on hb1);obtain⟨x0,x1,x2,x3⟩:=HST.out.1;clear hb1
 gi_wp2_with fail
 refine⟨trivial,?_⟩;refine(callsIn_wide.2 (HD.out _ (HH.out.on HST.out.2.2.2.1.out))).mono ?_;rintro e w2 ⟨rfl,hb2⟩;have sM:=U (HST.out.on hb2);obtain⟨y0,y1,y2,y3⟩:=sM.out.1;clear hb2 x0 x1 x2 x3
 gi_wp2_with fail
 refine⟨trivial,?_⟩;refine(abH Fence.wide _ trivial rfl _ _ _ _ _ _ _).mono ?_;rintro e w3 ⟨rfl,hw3⟩;have hb3:aj w2.heap.size w2 w3:=by rw[hw3];exact bl
 have hx3:dW w3 w2.heap.size o s nn p m c:=by rw[hw3];exact gK
 have hz3:w3.heap.size=w2.heap.size+1:=by rw[hw3];simp
 have Bo:=sM.out.on hb3;clear hw3
 gi_wp2
 have hs2:=sM.out.2.2.2.2;have bZ:=Bo.2.2.2.1;refine wpIn_rangeFunc_ownH rfl bU (gf:=120) (lb:=#[.pointer (some ⟨w2.heap.size,0,ae⟩)]) rfl trivial (enters_of func120 dA rfl)
  (abI Fence.wide rfl trivial trivial rfl _ w2.heap.size w.heap.size w3.heap.size (.mk o s nn kl) p m c w3 hx3 (HH.out.below bZ.out) HS.out bU (ah _)) (fun h k=>h.trans k) (Kp.put bU) (Below.refl _ _) (fun _=>rfl)
  (fun ps W=>(W.cell? ⟨w.heap.size+1,0,ae⟩=some (.bool cc)/\W.cell? ⟨w.heap.size+1+1,0,ae⟩=some (.int .i64 0)/\W.frozen? ⟨w.heap.size+1+1,0,ae⟩=false/\bad cc (ps.map Nd.x)=0/\w3.heap.size<=W.heap.size)/\aj w.heap.size w W)
  (fun c' ps W=>(c'=.ret/\∃v:Int,¬v=0/\bad cc (ps.map Nd.x)=v/\W.cell? ⟨w.heap.size+1+1,0,ae⟩=some (.int .i64 v))/\aj w.heap.size w W)
  (OwnFrom.and (Own.from (fun s A B row hs hg hr=>⟨cell_kept hs.1 hg hr,cell_kept hs.2.1 hg hr,(frozen_kept hs.2.1 hg hr).trans hs.2.2.1,hs.2.2.2.1,Nat.le_trans hs.2.2.2.2 hg.size⟩) _) (ownFrom_below (ah _) bU))
  (fun c'=>OwnFrom.and (Own.from (fun s A B row hs hg hr=>⟨hs.1,let ⟨v,h1,h2,h3⟩:=hs.2;⟨v,h1,h2,cell_kept h3 hg hr⟩⟩) _) (ownFrom_below (ah _) bU))
  ⟨⟨Bo.2.1,Bo.2.2.1.1,Bo.2.2.1.2,rfl,ah _⟩,bZ.out⟩
  (fun x a' W=>∃Bx,w3.heap.size<=Bx/\dW W Bx x.x.o x.x.s x.x.n x.p x.m x.c/\a'={ tmps:=#[.agg #[.int .i64 o,.string s,.int .i64 nn,.slice p m c],.bool cc,.pointer (some ⟨w.heap.size,0,ae⟩),.pointer (some ⟨w.heap.size+1,0,ae⟩),.pointer (some ⟨w.heap.size+1+1,0,ae⟩),.pointer (some ⟨Bx,0,ae⟩),undef,.agg #[.int .i64 o,.string s,.int .i64 nn,.slice p m c],.bool false,.agg #[.int .i64 o,.string s,.int .i64 nn,.slice p m c],.int .i64 (D:Nat),.bool false,.agg #[.int .i64 o,.string s,.int .i64 nn,.slice p m c],.func (.func 120) #[] #[.pointer (some ⟨w2.heap.size,0,ae⟩)],.agg #[.int .i64 x.x.o,.string x.x.s,.int .i64 x.x.n,.slice x.p x.m x.c],undef,undef,undef,undef,undef,undef],defers:=[] })
  (fun x a' _ A B row hs hg hr=>let ⟨Bx,h1,h2,h3⟩:=hs;⟨Bx,h1,dW.own (β:=Unit) _ _ _ _ _ _ _ () A B row h2 hg (fun r e=>(hr r e).2),h3⟩) ?assign ?body ?done ?stop
 case assign=>
  intro l ps x W K hi hK;simp only[uI]
  gi_wp2
  have hbW:aj W.heap.size W (W.alloc (.cells #[.int .i64 x.x.o,.string x.x.s,.int .i64 x.x.n,.slice x.p x.m x.c] 26)):=bl;have hle:=hi.2.size;refine hK _ _ (F_ hbW) (Kp.of_below hbW hle) ?_ ⟨W.heap.size,?_,gK,?_⟩
  · exact⟨⟨Me _ hi.1.1,Me _ hi.1.2.1,Si _ hi.1.2.1 hi.1.2.2.1,hi.1.2.2.2.1,Nat.le_trans hi.1.2.2.2.2 hbW.size⟩,hi.2.trans (hbW.mono hle)⟩
  · exact hi.1.2.2.2.2
  · simp[go_sem]
 case body=>
  rintro l ps x a' W hl ⟨r,hr⟩ ⟨⟨h1,h2,h3,h4,h5⟩,hB⟩ ⟨Bx,hBx,⟨b0,b1,b2,b3⟩,rfl⟩ hlt;obtain⟨v,hv⟩:∃v,nd cc x.x.o (bs x.x.s) x.x.n x.m=v:=⟨_,rfl⟩
  have HN:=U (aic hv x.p x.c W x.hs);have aau:xU cc x.x=v:=by unfold xU;rw[x.hl];exact hv
  have Lm:=U (show bad cc ((ps++[x]).map Nd.x)=v by rw[List.map_append];exact(ags h4).trans aau);have H4:=U h4;have H5:=U h5;have mg:=U hB;clear hv aau h4 h5 hB hlt hr
  gi_wp2_with fail
  refine⟨trivial,?_⟩;refine(CallsIn.inRound l (callsIn_wide.2 HN.out)).mono ?_;rintro e w4 ⟨rfl,hb4⟩;have g1:=(hb4.cell (p:=⟨w.heap.size+1,0,ae⟩) (block_lt h1)).trans h1;have g2:=(hb4.cell (p:=⟨w.heap.size+1+1,0,ae⟩) (block_lt h2)).trans h2;have g3:=(hb4.frozen (p:=⟨w.heap.size+1+1,0,ae⟩) (block_lt h2)).trans h3;have iH:=U hb4;clear hb4 h1 h2 h3 b0 b1 b2 b3;by_cases hv0:v=0
  · subst hv0
    gi_wp2
    exact⟨F_ iH.out,Kp.of_below iH.out mg.out.size,⟨g1,g2,g3,Lm.out,Nat.le_trans H5.out iH.out.size⟩,mg.out.trans (iH.out.mono mg.out.size)⟩
  · have t0:(v==0)=false:=beq_eq_false_iff_ne.2 hv0;exact zzp
 case done=>
  rintro D' ys W hD hys ⟨⟨h1,h2,h3,h4,h5⟩,hB⟩ hK;have HV:=U (show bad cc (pre (.mk o s nn kl))=0 by rw[← hys];exact h4)
  gi_wp2
  have hK':=(KeepsOthers.setCell W ⟨w.heap.size+1+1,0,ae⟩ (.int .i64 0)).same D' _ hK rfl;refine⟨by simp,.inl ⟨_,_,rfl,run_takeDeferred hK',?_⟩⟩;have rP:=cell_kept (World.cell?_setCell_same' W ⟨w.heap.size+1+1,0,ae⟩ (.int .i64 0) (by rw[h2];rfl)) (grownBy_putObj' _ D' (.deferred ae)) (fun r e=>by cases e;exact⟨_,hK',rfl⟩);refine⟨.int .i64 0,?_,by rw[HV.out],(pq hB bU _).trans (belowK_b (w:=w) (ah _) _ D' _ _ bU hK' rfl rfl)⟩;simp[results,Tryz.f33,go_sem,rP]
 case stop=>
  rintro D' c' ps W hD hps ⟨⟨rfl,v,hv0,hbv,hr⟩,hB⟩ hK;have HV:=U (show bad cc (pre (.mk o s nn kl))=v by
   obtain⟨r,hr⟩:=hps;rw[← hr,QC (by rw[hbv];exact hv0),hbv])
  gi_wp2
  refine⟨by simp,.inl ⟨_,_,rfl,run_takeDeferred hK,?_⟩⟩;have rP:=cell_kept hr (grownBy_putObj' _ D' (.deferred ae)) (fun r e=>by cases e;exact⟨_,hK,rfl⟩);refine⟨.int .i64 v,?_,by rw[HV.out],hB.trans (belowK_b (w:=w) (ah _) W D' _ _ bU hK rfl rfl)⟩;simp[results,Tryz.f33,go_sem,rP]
theorem oC (e:Ex) (p:Option Addr) (m c:Nat) (w:ai) (h:In w e p m) (hs:Sz e) (hc:cnt e<=1000000):Calls af 13 #[.agg #[.int .i64 e.o,.string e.s,.int .i64 e.n,.slice p m c]] w (Gives (.int .i64 (fU false e)) w):=by
 have H:=U (fun W hi=>ahR false e p m c W hi hs hc);have HH:=U h;obtain⟨v,hv⟩:∃v,fU false e=v:=⟨_,rfl⟩
 rw[hv] at H ⊢;obtain⟨o,s,nn,kl⟩:=e;simp only[Ex.o,Ex.s,Ex.n] at H ⊢;clear h hs hc hv;go_enter func13,ntmps13;go_wp2_with fail;refine(H.out _ (HH.out.on bl)).mono ?_;exact KY
end Ex
namespace Ps
open Go.RowKit
open Lx (Tk bs mt uk gu kL gF AU GG)
open Ex (Ex In bW fU)
open Md (bX)
def nX:Ex:=.mk 0 mt 0 []
def nD (s:List UInt8):Ex×Int×Int:=
 if gF s=0 then (match run rY (gu s) with
  | .ok x _=>if fU false x=0 then (x,0,0) else (nX,0,fU false x)
  | .no u=>(nX,(hd u).l,9))
 else (nX,kL s,gF s)
def XO (q:Ex×Int×Int) (w:ai) (e:Ending) (w':ai):Prop:=aj w.heap.size w w'/\∃p m c,e=.returned (.tuple #[.agg (b_ q.1 p m c),.int .i64 q.2.1,.int .i64 q.2.2])/\bW (fun b=>w.heap.size<=b) w' q.1 p m
theorem acf {s:List UInt8} (h:¬gF s=0):nD s=(nX,(kL s:Int),gF s):=by unfold nD;rw[if_neg h]
theorem acg {s:List UInt8} {u:List Tk} (h:gF s=0) (hr:run rY (gu s)=.no u):nD s=(nX,(hd u).l,9):=by unfold nD;rw[if_pos h,hr]
theorem ace {s:List UInt8} {x:Ex} {u:List Tk} (h:gF s=0) (hr:run rY (gu s)=.ok x u) (hc:¬fU false x=0):nD s=(nX,0,fU false x):=by unfold nD;rw[if_pos h,hr];simp only[if_neg hc]
theorem ach {s:List UInt8} {x:Ex} {u:List Tk} (h:gF s=0) (hr:run rY (gu s)=.ok x u) (hc:fU false x=0):nD s=(x,0,0):=by unfold nD;rw[if_pos h,hr];simp only[if_pos hc]
theorem XO.mk {q:Ex×Int×Int} {w w':ai} {x:Ex} {p:Option Addr} {m c:Nat} {a b:Int} (hq:q=(x,a,b)) (hb:aj w.heap.size w w') (hk:bW (fun b=>w.heap.size<=b) w' x p m):XO q w (.returned (.tuple #[.agg (b_ x p m c),.int .i64 a,.int .i64 b])) w':=by subst hq;exact⟨hb,p,m,c,rfl,hk⟩
theorem atx {p:Prop} (h:p:=by
 exact aco rfl _ _ w.heap.size 26 _ (0,0) _ rfl (mi Z.out rfl) underlying26 rfl dA rfl rfl
 ):p:=h
theorem aui {p:Prop} (h:p:=by have bZ:=HB.out;have q1:=hb2;have q:bT (fun k=>k<w.heap.size) _ w2:=bT.of q1;exact qe):p:=h
theorem auj {p:Prop} (h:p:=by have q1:=hb2;have q:bT (fun k=>k=w.heap.size+1) _ w2:=bT.of q1;exact qe):p:=h
theorem auk {p:Prop} (h:p:=by have q1:=hb2;have q:bT (fun k=>k=w.heap.size) _ w2:=bT.of q1;exact qe):p:=h
theorem aul {p:Prop} (h:p:=by have q1:=hb;have q:bT (fun k=>k=w.heap.size) _ w1:=bT.of q1;exact qe):p:=h
theorem aum {p:Prop} (h:p:=by have q1:=hb;have q:bT (fun k=>k<w.heap.size) _ w1:=bT.of q1;exact qe):p:=h
theorem anx (s:ByteArray) (w:ai) (hs:s.size<=9223372036854775807) (hE:Nu.Env w):Calls af 11 #[.string s,.func (.func 12) #[] #[],.func (.func 13) #[] #[]] w (XO (nD (bs s)) w):=by
 have HE:Hid (∀W,aj w.heap.size w W->Calls af 28 #[.string s] W (uk W (gu (bs s)) (kL (bs s)) (gF (bs s)))):=U fun W hW=>GG s W hs (hE.below hW);clear hE hs;have Z:=jR w;have n0:bX ((w.alloc (.cells #[.int .i64 0,.string ⟨#[]⟩,.int .i64 0,.slice ae 0 0] 26)).alloc (.cells #[.int .i64 0,.string ⟨#[]⟩,.int .i64 0,.slice ae 0 0] 26)) (w.heap.size+1) 26 #[.int .i64 0,.string ⟨#[]⟩,.int .i64 0,.slice ae 0 0]:=by
  have h:=bX.new (w:=w.alloc (.cells #[.int .i64 0,.string ⟨#[]⟩,.int .i64 0,.slice ae 0 0] 26)) (t:=26) (c:=#[.int .i64 0,.string ⟨#[]⟩,.int .i64 0,.slice ae 0 0]);exact VW
 have N:=U n0;clear n0;obtain⟨E,rM⟩:∃E,gF (bs s)=E:=⟨_,rfl⟩
 obtain⟨q,hq⟩:∃q,nD (bs s)=q:=⟨_,rfl⟩
 rw[rM] at HE;rw[hq];have gH:=U rM;have HQ:=U hq;clear rM hq;go_enter func11,ntmps11;go_wp2_with fail;refine(HE.out _ bl).mono ?_;rintro e w1 ⟨v1,rfl,ho,hb⟩;clear HE;replace Z:=U (cO (w2:=w1) Z.out aul);replace N:=U (cO (w2:=w1) N.out (by have q1:=hb;have q:bT (fun k=>k=w.heap.size+1) _ w1:=bT.of q1;exact qe));have HB:Hid (bT (fun k=>k<w.heap.size) w w1):=U aum;have HO:=U ho;have hz:=Z.out.lt;have hn:=N.out.lt;clear hb ho;by_cases h0:E=0
 · have b0:(E != 0)=false:=by simp[h0]
   subst h0;obtain⟨hgd,ku⟩:=MW gH.out;obtain⟨p,c,rfl,ht,hc,hp⟩:=AU HO.out;have hne:=hgd.ne;obtain⟨g,rfl,hg⟩:∃g,p=some ⟨g,0,ae⟩/\w.heap.size<=g:=by
    rcases hp with⟨-,h⟩|⟨g,h,h2⟩
    · omega
    · exact⟨g,h,by simp at h2;omega⟩
   have HT:=U ht;have HG:=U hgd;have HF:=U ku;clear ht hgd ku hc hp hg hne HO;go_wp2_with fail;refine(ajT 12 rY ⟨g,0,(gu (bs s)).length,c,gu (bs s)⟩ w1 (fun _ _=>rfl) HT.out HG.out HF.out (fun g W hR=>amm W hR)).mono ?_;rintro e w2 h2;obtain⟨hb2,⟨x2,u2,v2,r2,rfl,V2⟩|⟨u2,r2,rfl⟩⟩:=h2.cases
   · obtain⟨p2,m2,c2,rfl,k2⟩:=V2;obtain⟨hcnt,hsz⟩:=abK HG.out HF.out r2;have HX:Hid ((fU false x2=0->q=(x2,0,0))/\(¬fU false x2=0->q=(nX,0,fU false x2))):=U ⟨fun h=>HQ.out.symm.trans (ach gH.out r2 h),fun h=>HQ.out.symm.trans (ace gH.out r2 h)⟩;have HC:=U (fun W (hI:In W x2 p2 m2)=>Ex.oC x2 p2 m2 c2 W hI hsz bU);replace Z:=U (cO (w2:=w2) Z.out auk);replace N:=U (cO (w2:=w2) N.out auj);replace HB:Hid (bT (fun k=>k<w.heap.size) w w2):=U aui;have KX:Hid (bW (fun b=>w.heap.size+1<b) w2 x2 p2 m2):=U (k2.mono fun b hb hlt=>by
      have hb':w1.heap.size<=b:=hb;omega)
     have Y:=U (bX.new (w:=w2) (t:=26) (c:=b_ x2 p2 m2 c2));have hs2:w1.heap.size<=w2.heap.size:=hb2.size;clear h2 r2 hb2 hcnt hsz k2 HQ gH HT HG HF;obtain⟨V,hV⟩:∃V,fU false x2=V:=⟨_,rfl⟩
     rw[hV] at HX HC;clear hV;dsimp only [b_] at Y ⊢;obtain⟨l0,l1,l2,l3,-⟩:=df Y.out;go_wp2_with fail;refine(HC.out _ (bW.all (Ex.bW.map (G:=fun b=>w.heap.size+1<b) (w:=w2) cz (fun b hb hlt=>⟨hb,by show(w2.heap.push _)[b]?=_;rw[Array.getElem?_push,if_neg bU]⟩) _ KX.out))).mono ?_;rintro e w3 ⟨rfl,hb3⟩;clear l0 l1 l2 l3 HC;replace Z:=U (cO (w2:=w3) Z.out (by have q1:=hb3;have q:bT (fun k=>k=w.heap.size) _ w3:=bT.of q1;exact qe));replace N:=U (cO (w2:=w3) N.out (by have q1:=hb3;have q:bT (fun k=>k=w.heap.size+1) _ w3:=bT.of q1;exact qe));replace HB:Hid (bT (fun k=>k<w.heap.size) w w3):=U Wh;replace Y:=U (cO (w2:=w3) Y.out (by have q1:=hb3;have q:bT (fun k=>k=w2.heap.size) _ w3:=bT.of q1;exact qe));have KK:Hid (bW (fun b=>w.heap.size+1<b) w3 x2 p2 m2):=U (by
      have q1:=hb3;have q:bT (fun b=>w.heap.size+1<b) w2 w3:=by
       have q2:bT (fun b=>w.heap.size+1<b) _ w3:=bT.of q1;exact qe
      exact Ex.bW.map q.size (fun b hb hlt=>⟨hb,q.block b hlt hb⟩) _ KX.out)
     have hs3:=Y.out.lt;clear hb3 KX;by_cases h1:V=0
     · have b1:(V != 0)=false:=by simp[h1]
       have hx:=U (HX.out.1 h1);clear h1 HX;obtain⟨l0,l1,l2,l3,-⟩:=df Y.out;obtain⟨y0,y1,y2,y3,fz⟩:=df Z.out;go_wp2_with fail;have q:∀W,bT (fun b=>w.heap.size+1<b) w3 W->bW (fun b=>w.heap.size<=b) W x2 p2 m2:=fun W q=>Ex.bW.map q.size (fun b hb hlt=>⟨by show w.heap.size<=b;have hb':w.heap.size+1<b:=hb;omega,q.block b hlt hb⟩) _ KK.out;refine ag (v:=.tuple #[.agg (b_ x2 p2 m2 c2),.int .i64 0,.int .i64 0]) ?_ rfl (XO.mk hx.out (lU qh) (q _ qe));exact atx
     · have b1:(V != 0)=true:=by simp[h1]
       have hx:=U (HX.out.2 h1);clear h1 HX;obtain⟨l0,l1,l2,l3,-⟩:=df N.out;obtain⟨y0,y1,y2,y3,fz⟩:=df Z.out;go_wp2_with fail;refine ag (v:=.tuple #[.agg (b_ nX ae 0 0),.int .i64 0,.int .i64 V]) ?_ rfl (XO.mk hx.out (lU qh) (Ex.bW.zero));exact atx
   · have HX:=U (HQ.out.symm.trans (acg gH.out r2));replace Z:=U (cO (w2:=w2) Z.out auk);replace N:=U (cO (w2:=w2) N.out auj);replace HB:Hid (bT (fun k=>k<w.heap.size) w w2):=U aui;clear h2 r2 hb2 HQ gH HT HG HF;replace Z:=U (cO (w2:=w2.alloc (.cells #[.int .i64 0,.string ⟨#[]⟩,.int .i64 0,.slice ae 0 0] 26)) Z.out qe);replace N:=U (cO (w2:=w2.alloc (.cells #[.int .i64 0,.string ⟨#[]⟩,.int .i64 0,.slice ae 0 0] 26)) N.out qe);obtain⟨l0,l1,l2,l3,-⟩:=df N.out;obtain⟨y0,y1,y2,y3,fz⟩:=df Z.out;go_wp2_with fail;refine ag (v:=.tuple #[.agg (b_ nX ae 0 0),.int .i64 (hd u2).l,.int .i64 9]) ?_ rfl (XO.mk HX.out (lU qh) (Ex.bW.zero));exact atx
 · have b0:(E != 0)=true:=by simp[h0]
   have HX:=U (HQ.out.symm.trans (acf (by rw[gH.out];exact h0)));clear h0 HO;obtain⟨l0,l1,l2,l3,-⟩:=df N.out;obtain⟨y0,y1,y2,y3,fz⟩:=df Z.out;go_wp2_with fail;refine ag (v:=.tuple #[.agg (b_ nX ae 0 0),.int .i64 (kL (bs s):Int),.int .i64 E]) ?_ rfl (XO.mk (by rw[HX.out,gH.out]) (lU qh) (Ex.bW.zero));exact atx
def EO (q:Ex×Int×Int) (w:ai) (e:Ending) (w':ai):Prop:=aj w.heap.size w w'/\∃p m c,e=.returned (.tuple #[.agg (b_ q.1 p m c),.int .i64 q.2.2])/\bW (fun b=>w.heap.size<=b) w' q.1 p m
theorem Zv (s:ByteArray) (w:ai) (hs:s.size<=9223372036854775807) (hE:Nu.Env w):Calls af 5 #[.string s] w (EO (nD (bs s)) w):=by
 have HC:=U (fun W (hW:Nu.Env W)=>anx s W hs hW);have Z:=jR w;have HE:=U hE;obtain⟨⟨x,a,b⟩,hq⟩:∃q,nD (bs s)=q:=⟨_,rfl⟩
 rw[hq] at HC ⊢;clear hE hs hq;go_enter func5,ntmps5;go_wp2_with fail;refine(HC.out _ (HE.out.below bl)).mono ?_;rintro e w1 ⟨hb,p,m,c,rfl,hk⟩;replace Z:=U (cO (w2:=w1) Z.out aul);have HB:Hid (bT (fun k=>k<w.heap.size) w w1):=U aum;have hz:w.heap.size<w1.heap.size:=by have h:=hb.size;simp at h;omega
 have KX:Hid (bW (fun b=>w.heap.size<b) w1 x p m):=U (hk.mono fun b hb hlt=>by
  have hb':_<=b:=hb;simp at hb'
  omega)
 have Y:=U (bX.new (w:=w1) (t:=26) (c:=b_ x p m c));clear hb hk HC;dsimp only [b_] at Y ⊢;obtain⟨l0,l1,l2,l3,-⟩:=df Y.out;obtain⟨y0,y1,y2,y3,fz⟩:=df Z.out;go_wp2_with fail;have q:∀W,bT (fun b=>w.heap.size<b) w1 W->bW (fun b=>w.heap.size<=b) W x p m:=fun W q=>Ex.bW.map q.size (fun b hb hlt=>⟨by show w.heap.size<=b;have hb':w.heap.size<b:=hb;omega,q.block b hlt hb⟩) _ KX.out;refine ag (v:=.tuple #[.agg (b_ x p m c),.int .i64 b]) ?_ rfl ⟨lU qh,p,m,c,rfl,q _ qe⟩;have Z4:bX _ w.heap.size 26 #[.int .i64 x.o,.string x.s,.int .i64 x.n,.slice p m c]:=mi Z.out rfl;exact acn rfl _ _ w.heap.size 26 _ (0,0) _ rfl (cO (w2:=World.alloc _ (.cells #[.int .i64 x.o,.string x.s,.int .i64 x.n,.slice p m c] 26)) Z4 qe) underlying26 rfl dA rfl
end Ps
end Go.Proofs.YthnillhnjhalmaaGreatDoor
