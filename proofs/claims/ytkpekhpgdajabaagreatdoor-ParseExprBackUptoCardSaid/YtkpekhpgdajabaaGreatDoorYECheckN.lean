/-
  Parts of this proof: The contract of checkNode. The contracts of check, Check and CheckCode. The contracts of usage, of checkUsed at its four. The contract of Uses.
-/
import Derived.Test.YtkpekhpgdajabaaGreatDoorYNmCheck
import Derived.Test.YtkpekhpgdajabaaGreatDoorYESmall
import Derived.Test.YtkpekhpgdajabaaGreatDoorYPWalk
open Go.Proofs.Tryz
open Go.Proofs.Tryz renaming prog->ae
open Option renaming none->af,some->av
open Go renaming World->ag,Calls->ah
open Nat renaming le_refl->ai,le_trans->au
open Go.Lib renaming hid->aj
open Go.RowKit renaming Below->ak
set_option linter.unusedVariables false
set_option maxRecDepth 100000
set_option maxHeartbeats 8000000
open Go.Lib (hid)
namespace Go.Proofs.YtkpekhpgdajabaaGreatDoor
namespace Ex
open Go.RowKit
open Na (bs fB)
theorem L_ {c:Bool} {o n:Int} {s:List UInt8} {m:Nat} (h:nY c o s n m=true):nd c o s n m=1:=by unfold nd;rw[if_pos h]
theorem akm {c:Bool} {o n:Int} {s:List UInt8} {m:Nat} (h:known c o=false):nd c o s n m=1:=L_ (by unfold nY;rw[h];simp)
theorem ako {c:Bool} {o n:Int} {s:List UInt8} {m:Nat} (h:known c o=true) (g:¬(m:Int)=yX o):nd c o s n m=1:=L_ (by unfold nY;rw[aaq h,decide_eq_false g];simp)
theorem akn {c:Bool} {o n:Int} {s:List UInt8} {m:Nat} (h:known c o=true) (g:vP c o=false) (g2:¬s=[]):nd c o s n m=1:=L_ (by unfold nY;rw[← TD h,g,decide_eq_false g2];simp)
theorem akl {c:Bool} {o n:Int} {s:List UInt8} {m:Nat} (h:known c o=true) (g:yV c o=false) (g2:¬n=0):nd c o s n m=1:=L_ (by unfold nY;rw[← aca h,g,decide_eq_false g2];simp)
theorem akk {c:Bool} {o n:Int} {s:List UInt8} {m:Nat} (h:known c o=true) (h1:(m:Int)=yX o) (h2:vP c o=true∨s=[]) (h3:yV c o=true∨n=0):nd c o s n m=if zT o n=false then 2 else if vP c o=true then fB s else 0:=by
 have hf:nY c o s n m=false:=by
  unfold nY;rw[h,← TD h,← aca h,aaq h,decide_eq_true h1];rcases h2 with h2|h2 <;> rcases h3 with h3|h3 <;> simp[h2,h3]
 unfold nd;rw[if_neg (by rw[hf];decide),alX hf,TD h]
 cases eG c o n <;> simp
theorem ahT {s:ByteArray} (h:¬bs s=[]):s.toList.isEmpty=false:=by
 exact adQ
theorem XV {s:ByteArray} (h:bs s=[]):s.toList.isEmpty=true:=by
 rw[Lib.toList_data]
 show(bs s).isEmpty=true
 rw[h];rfl
theorem agh {s:ByteArray} {x:Int} (h:fB (bs s)=x) (hs:s.size<=9223372036854775807) (w:ag):ah ae 53 #[.string s] w (Gives (.int .i64 x) w):=by rw[← h];exact Na.nZ s w hs
theorem TF {c:Bool} {o K:Int} {a b kn:Bool} (h1:yX o=K) (h2:vP c o=a) (h3:yV c o=b) (h4:known c o=kn) (w:ag):ah ae 120 #[.int .i64 o,.bool c] w (Gives (.tuple #[.agg #[.int .i64 K,.bool a,.bool b],.bool kn]) w):=by
 rw[← h1,← h2,← h3,← h4];exact TE c o w
theorem alA {o n:Int} {v:Bool} (h:zT o n=v) (s:ByteArray) (p:Option Addr) (m c:Nat) (w:ag):ah ae 121 #[.agg #[.int .i64 o,.string s,.int .i64 n,.slice p m c]] w (Gives (.bool v) w):=by
 rw[← h];exact alz o s n p m c w
theorem Jm {p:Prop} (h:p:=by
 go_enter func75,ntmps75;go_wp2_with fail;refine(HU.out _).mono ?_;rintro e w1 ⟨rfl,hb1⟩;have q1:w.heap.size<w1.heap.size:=by have:=hb1.size;simp at this;omega
 have Ki:=(hb1.cell (p:=⟨w.heap.size,1,af⟩) cK).trans f_.2.1;have Py:=(hb1.cell (p:=⟨w.heap.size,0,af⟩) cK).trans f_.1;have Pz:=(hb1.cell (p:=⟨w.heap.size,2,af⟩) cK).trans f_.2.2.1;have PH:=(hb1.cell (p:=⟨w.heap.size,3,af⟩) cK).trans f_.2.2.2;exact dX
 ):p:=h
theorem acR {p:Prop} (h:p:=by
 go_enter func75,ntmps75;go_wp2_with fail;refine(HU.out _).mono ?_;rintro e w1 ⟨rfl,hb1⟩;have q1:w.heap.size<w1.heap.size:=by have:=hb1.size;simp at this;omega
 have Ki:=(hb1.cell (p:=⟨w.heap.size,1,af⟩) cK).trans f_.2.1;have Py:=(hb1.cell (p:=⟨w.heap.size,0,af⟩) cK).trans f_.1;have Pz:=(hb1.cell (p:=⟨w.heap.size,2,af⟩) cK).trans f_.2.2.1;have PH:=(hb1.cell (p:=⟨w.heap.size,3,af⟩) cK).trans f_.2.2.2;go_wp2_with fail;refine(HR.out _).mono ?_;exact D8
 ):p:=h
theorem acS {p:Prop} (h:p:=by
 clear hK ha hb hk h3 h4 key hv hx
 cases v with
 | false=>
  exact acR
 | true=>
  go_enter func75,ntmps75;go_wp2_with fail;refine(HU.out _).mono ?_;rintro e w1 ⟨rfl,hb1⟩;have q1:w.heap.size<w1.heap.size:=by have:=hb1.size;simp at this;omega
  have Ki:=(hb1.cell (p:=⟨w.heap.size,1,af⟩) cK).trans f_.2.1;have Py:=(hb1.cell (p:=⟨w.heap.size,0,af⟩) cK).trans f_.1;have Pz:=(hb1.cell (p:=⟨w.heap.size,2,af⟩) cK).trans f_.2.2.1;have PH:=(hb1.cell (p:=⟨w.heap.size,3,af⟩) cK).trans f_.2.2.2;go_wp2_with fail;refine(HR.out _).mono ?_;rintro e w2 ⟨rfl,hb2⟩;have q2:w1.heap.size<w2.heap.size:=by have:=hb2.size;simp at this;omega
  have dd1:w2.cell? ⟨w1.heap.size,1,af⟩=av (.bool true):=(hb2.cell cK).trans cK;have dd2:w2.cell? ⟨w.heap.size,1,af⟩=av (.string s):=(hb2.cell za).trans ((((Below.refl _ w1).alloc (ai _) _).cell za).trans Ki);go_wp2_with fail;refine(HC.out _).mono ?_;rintro e w3 ⟨rfl,hb3⟩;exact dX
 ):p:=h
theorem acT {p:Prop} (h:p:=by
 clear hK ha hb hk h3 h4 key hv hx
 cases v with
 | false=>
  exact acR
 | true=>
  go_enter func75,ntmps75;go_wp2_with fail;refine(HU.out _).mono ?_;rintro e w1 ⟨rfl,hb1⟩;have q1:w.heap.size<w1.heap.size:=by have:=hb1.size;simp at this;omega
  have Ki:=(hb1.cell (p:=⟨w.heap.size,1,af⟩) cK).trans f_.2.1;have Py:=(hb1.cell (p:=⟨w.heap.size,0,af⟩) cK).trans f_.1;have Pz:=(hb1.cell (p:=⟨w.heap.size,2,af⟩) cK).trans f_.2.2.1;have PH:=(hb1.cell (p:=⟨w.heap.size,3,af⟩) cK).trans f_.2.2.2;go_wp2_with fail;refine(HR.out _).mono ?_;rintro e w2 ⟨rfl,hb2⟩;have q2:w1.heap.size<w2.heap.size:=by have:=hb2.size;simp at this;omega
  have dd1:w2.cell? ⟨w1.heap.size,1,af⟩=av (.bool false):=(hb2.cell cK).trans cK;exact dX
 ):p:=h
theorem agJ (c:Bool) (o:Int) (s:ByteArray) (n:Int) (p:Option Addr) (m c':Nat) (w:ag) (hs:s.size<=140737488355328):ah ae 75 #[.agg #[.int .i64 o,.string s,.int .i64 n,.slice p m c'],.bool c] w (Gives (.int .i64 (nd c o (bs s) n m)) w):=by
 obtain⟨K,hK⟩:∃K,yX o=K:=⟨_,rfl⟩
 obtain⟨a,ha⟩:∃a,vP c o=a:=⟨_,rfl⟩
 obtain⟨b,hb⟩:∃b,yV c o=b:=⟨_,rfl⟩
 obtain⟨kn,hk⟩:∃kn,known c o=kn:=⟨_,rfl⟩
 have HU:=aj (fun W=>TF hK ha hb hk W)
 cases kn with
 | false=>
  rw[akm hk];clear hK ha hb hk;exact Jm
 | true=>
  by_cases h1:(m:Int)=K
  · subst h1;have t1:((m:Int)==(m:Int))=true:=beq_self_eq_true _;have key:∀(aa:a=true∨bs s=[]) (bb:b=true∨n=0),nd c o (bs s) n m=if zT o n=false then 2 else if vP c o=true then fB (bs s) else 0:=fun aa bb=>akk hk hK.symm (by rw[ha];exact aa) (by rw[hb];exact bb)
    by_cases h3:a=false/\¬bs s=[]
    · rw[akn hk (by rw[ha];exact h3.1) h3.2];obtain⟨rfl,h3⟩:=h3;have t3:=ahT h3;clear hK ha hb hk h3 key;exact Jm
    · by_cases h4:b=false/\¬n=0
      · rw[akl hk (by rw[hb];exact h4.1) h4.2];obtain⟨rfl,h4⟩:=h4;have t4:(n==0)=false:=beq_eq_false_iff_ne.2 h4
        cases a with
        | true=>
         clear hK ha hb hk h3 h4 key;exact Jm
        | false=>
         have t3:=XV (s:=s) (Classical.byContradiction fun h=>h3 ⟨rfl,h⟩);clear hK ha hb hk h3 h4 key;exact Jm
      · rw[key (by cases a with|true=>exact .inl rfl|false=>exact .inr (Classical.byContradiction fun h=>h3 ⟨rfl,h⟩)) (by cases b with|true=>exact .inl rfl|false=>exact .inr (Classical.byContradiction fun h=>h4 ⟨rfl,h⟩)),ha];obtain⟨v,hv⟩:∃v,zT o n=v:=⟨_,rfl⟩
        have HR:=aj (fun W=>alA hv s p m c' W);have HC:=aj (fun W=>agh (s:=s) rfl bT W);obtain⟨x,hx⟩:∃x,fB (bs s)=x:=⟨_,rfl⟩
        rw[hx] at HC ⊢;rw[hv]
        cases a with
        | true=>
         cases b with
         | true=>
          exact acS
         | false=>
          obtain rfl:n=0:=Classical.byContradiction fun h=>h4 ⟨rfl,h⟩;exact acS
        | false=>
         have t3:=XV (s:=s) (Classical.byContradiction fun h=>h3 ⟨rfl,h⟩)
         cases b with
         | true=>
          exact acT
         | false=>
          obtain rfl:n=0:=Classical.byContradiction fun h=>h4 ⟨rfl,h⟩;exact acT
  · rw[ako hk (by rw[hK];exact h1)];have t1:((m:Int)==K)=false:=beq_eq_false_iff_ne.2 h1;have t2:((m:Int) != K)=true:=bne_iff_ne.2 h1;clear hK ha hb hk h1;exact Jm
end Ex
namespace Ex
open Go.RowKit Go.Shelf
open Na (bs)
attribute [local go_sem] Oper.semAt_some
theorem PZ {e:Ex} {x:Nat} (h:dep e=x) (p:Option Addr) (m c:Nat) (w:ag) (hi:In w e p m) (hc:cnt e<=1000000):ah ae 73 #[.agg #[.int .i64 e.o,.string e.s,.int .i64 e.n,.slice p m c]] w (Gives (.int .i64 (x:Nat)) w):=by rw[← h];exact PY e p m c w hi hc
theorem Iw {e:Ex} {b:Bool} (h:decide (60<cnt e)=b) (p:Option Addr) (m c:Nat) (w:ag) (hi:In w e p m) (hs:Sz e) (hc:cnt e<=1000000):ah ae 72 #[.agg #[.int .i64 e.o,.string e.s,.int .i64 e.n,.slice p m c],.int .i64 60] w (Gives (.bool b) w):=by rw[← h];exact RD e p m c w hi hs hc
theorem agK {c:Bool} {o n v:Int} {s:ByteArray} {m:Nat} (h:nd c o (bs s) n m=v) (p:Option Addr) (c':Nat) (w:ag) (hs:s.size<=140737488355328):ah ae 75 #[.agg #[.int .i64 o,.string s,.int .i64 n,.slice p m c'],.bool c] w (Gives (.int .i64 v) w):=by rw[← h];exact agJ c o s n p m c' w hs
theorem dR.own {β:Type} (g:Nat) (o:Int) (s:ByteArray) (n:Int) (p:Option Addr) (m c:Nat):Own (fun(_:β) W=>dR W g o s n p m c):=fun _ A B row hs hg hr=>⟨cell_kept hs.1 hg hr,cell_kept hs.2.1 hg hr,cell_kept hs.2.2.1 hg hr,cell_kept hs.2.2.2 hg hr⟩
theorem EP {B:Nat} {W W':ag} (h:ak W.heap.size W W'):KeepsFrom B W W':=⟨h.size,fun k o _ hk _=>(h.block k (Array.getElem?_eq_some_iff.1 hk).1).trans hk⟩
theorem aeQ {c:Bool} {l:List Ex} {x:Ex} (h:bad c l=0):bad c (l++[x])=oW c x:=by
 rw[O7 h];by_cases g:oW c x=0
 · rw[En g,g];rfl
 · rw[JZ g]
def St (w wr:ag) (cc:Bool) (o:Int) (s:ByteArray) (nn:Int) (p:Option Addr) (m c:Nat):Prop:=
 dR wr w.heap.size o s nn p m c/\wr.cell? ⟨w.heap.size+1,0,af⟩=av (.bool cc)/\(wr.cell? ⟨w.heap.size+1+1,0,af⟩=av (.int .i64 0)/\wr.frozen? ⟨w.heap.size+1+1,0,af⟩=false)/\Hid (ak w.heap.size w wr)/\w.heap.size+3<=wr.heap.size
section
variable {w wr w2:ag} {cc:Bool} {o:Int} {s:ByteArray} {nn:Int} {p:Option Addr} {m c:Nat}
theorem St.on (h:St w wr cc o s nn p m c) (hb:ak wr.heap.size wr w2):St w w2 cc o s nn p m c:=by
 obtain⟨h1,h2,⟨h3,h4⟩,h5,h6⟩:=h;exact⟨h1.on hb,(hb.cell (p:=⟨w.heap.size+1,0,af⟩) (show w.heap.size+1<wr.heap.size by omega)).trans h2,⟨(hb.cell (p:=⟨w.heap.size+1+1,0,af⟩) (show w.heap.size+1+1<wr.heap.size by omega)).trans h3,(hb.frozen (p:=⟨w.heap.size+1+1,0,af⟩) (show w.heap.size+1+1<wr.heap.size by omega)).trans h4⟩,aj (h5.out.trans (hb.mono bT)),au h6 hb.size⟩
theorem St.new:St w (((w.alloc (.cells #[.int .i64 o,.string s,.int .i64 nn,.slice p m c] 25)).alloc (.cells #[.bool cc] 4)).alloc (.cells #[.int .i64 0] 27)) cc o s nn p m c:=by
 obtain⟨w1,hw1⟩:∃w1,w.alloc (.cells #[.int .i64 o,.string s,.int .i64 nn,.slice p m c] 25)=w1:=⟨_,rfl⟩
 have hz1:w1.heap.size=w.heap.size+1:=by rw[← hw1];simp
 have hb1:ak w.heap.size w w1:=by rw[← hw1];exact bl
 have h1:=f_ (w:=w) (o:=o) (s:=s) (n:=nn) (p:=p) (m:=m) (c:=c) (t:=25);obtain⟨w2,hw2⟩:∃w2,w1.alloc (.cells #[.bool cc] 4)=w2:=⟨_,rfl⟩
 have hz2:w2.heap.size=w.heap.size+2:=by rw[← hw2];simp[hz1]
 have hb2:ak w1.heap.size w1 w2:=by rw[← hw2];exact bl
 have h2:=sI w1 (.bool cc) 4;rw[hw2] at h2;obtain⟨w3,hw3⟩:∃w3,w2.alloc (.cells #[.int .i64 0] 27)=w3:=⟨_,rfl⟩
 have hz3:w3.heap.size=w.heap.size+3:=by rw[← hw3];simp[hz2]
 have hb3:ak w2.heap.size w2 w3:=by rw[← hw3];exact bl
 have h3:=sI w2 (.int .i64 0) 27;rw[hw3] at h3;rw[hw1] at h1;rw[hw1,hw2,hw3];rw[hz1] at h2;rw[hz2] at h3;exact⟨(h1.on hb2).on hb3,(hb3.cell (p:=⟨w.heap.size+1,0,af⟩) (show w.heap.size+1<w2.heap.size by omega)).trans h2.1,h3,aj (hb1.trans ((hb2.mono bT).trans (hb3.mono bT))),by omega⟩
end
theorem agq (cc:Bool) (e:Ex) (p:Option Addr) (m c:Nat) (w:ag) (h:In w e p m) (hs:Sz e) (hc:cnt e<=1000000):ah ae 42 #[.agg #[.int .i64 e.o,.string e.s,.int .i64 e.n,.slice p m c],.bool cc] w (Gives (.int .i64 (fI cc e)) w):=by
 by_cases h6:60<cnt e
 · have HM:=aj (fun W hi=>Iw (decide_eq_true h6) p m c W hi hs hc);have HH:=aj h;rw[show fI cc e=6 by unfold fI;rw[if_pos h6]];obtain⟨o,s,nn,kl⟩:=e;simp only[Ex.o,Ex.s,Ex.n] at HM ⊢;clear h hs hc h6;go_enter func42,ntmps42;go_wp2_with fail;refine(HM.out _ (HH.out.on bl)).mono ?_;rintro e w1 ⟨rfl,hb1⟩;have HST:=aj (St.new.on hb1);have hr:=HST.out.2.2.1.1;have hf:=HST.out.2.2.1.2;clear hb1;go_wp2_with fail
   (try simp only[Exit.inBlock,Exit.then])
   have bY:=HST.out.2.2.2.1.out;have e1:(w1.setCell ⟨w.heap.size+1+1,0,af⟩ (.int .i64 6)).cell? ⟨w.heap.size+1+1,0,af⟩=av (.int .i64 6):=World.cell?_setCell_same' _ _ _ (by rw[hr];rfl);exact bodyPost_ret (v:=.int .i64 6) (by simp[results,Tryz.f42,go_sem,e1]) rfl ⟨rfl,oN bY bT _⟩
 have HM:=aj (fun W hi=>Iw (decide_eq_false h6) p m c W hi hs hc);have HD:=aj (fun W hi=>PZ (e:=e) rfl p m c W hi hc);by_cases h12:12<dep e
 · have HH:=aj h;rw[show fI cc e=11 by unfold fI;rw[if_neg h6,if_pos h12]];obtain⟨D,hD⟩:∃D,dep e=D:=⟨_,rfl⟩
   rw[hD] at HD h12;have d1:(12:Int)<(D:Int):=by omega
   have d2:decide ((12:Int)<(D:Int))=true:=decide_eq_true d1;obtain⟨o,s,nn,kl⟩:=e;simp only[Ex.o,Ex.s,Ex.n] at HM HD ⊢;clear h hs hc h6 hD h12;go_enter func42,ntmps42;go_wp2_with fail;refine(HM.out _ (HH.out.on bl)).mono ?_;rintro e w1 ⟨rfl,hb1⟩;have HST:=aj (St.new.on hb1);obtain⟨x0,x1,x2,x3⟩:=HST.out.1;clear hb1;go_wp2_with fail;refine(HD.out _ (HH.out.on HST.out.2.2.2.1.out)).mono ?_;rintro e w2 ⟨rfl,hb2⟩;have rA:=aj (HST.out.on hb2);have hr:=rA.out.2.2.1.1;have hf:=rA.out.2.2.1.2;clear hb2;go_wp2_with fail
   (try simp only[Exit.inBlock,Exit.then])
   have bY:=rA.out.2.2.2.1.out;have e1:(w2.setCell ⟨w.heap.size+1+1,0,af⟩ (.int .i64 11)).cell? ⟨w.heap.size+1+1,0,af⟩=av (.int .i64 11):=World.cell?_setCell_same' _ _ _ (by rw[hr];rfl);exact bodyPost_ret (v:=.int .i64 11) (by simp[results,Tryz.f42,go_sem,e1]) rfl ⟨rfl,oN bY bT _⟩
 have HH:=aj h;have HS:=aj hs;have HC:=aj hc;rw[show fI cc e=bad cc (pre e) by unfold fI;rw[if_neg h6,if_neg h12]];obtain⟨D,hD⟩:∃D,dep e=D:=⟨_,rfl⟩
 rw[hD] at HD h12;have d1:(D:Int)<=12:=by omega
 have d2:decide ((12:Int)<(D:Int))=false:=decide_eq_false bT;obtain⟨o,s,nn,kl⟩:=e;simp only[Ex.o,Ex.s,Ex.n] at HM HD ⊢;clear h hs hc h6 hD h12;refine(callsIn_wide (n:=3)).1 ?_;refine callsIn_of_wp_marks func42 rfl trivial ?_ rfl;simp only[ntmps42,List.size_toArray,List.length_cons,List.length_nil,Nat.reduceAdd,Nat.reduceSub,Array.replicate_succ,Array.replicate_zero,List.push_toArray,List.append_toArray,List.nil_append,List.cons_append]
 gi_wp2_with fail
 refine⟨trivial,?_⟩;refine(callsIn_wide.2 (HM.out _ (HH.out.on bl))).mono ?_;rintro e w1 ⟨rfl,hb1⟩;have HST:=aj (St.new.on hb1);obtain⟨x0,x1,x2,x3⟩:=HST.out.1;clear hb1
 gi_wp2_with fail
 refine⟨trivial,?_⟩;refine(callsIn_wide.2 (HD.out _ (HH.out.on HST.out.2.2.2.1.out))).mono ?_;rintro e w2 ⟨rfl,hb2⟩;have rA:=aj (HST.out.on hb2);obtain⟨y0,y1,y2,y3⟩:=rA.out.1;clear hb2 x0 x1 x2 x3
 gi_wp2_with fail
 refine⟨trivial,?_⟩;refine(aaF Fence.wide _ trivial rfl _ _ _ _ _ _ _).mono ?_;rintro e w3 ⟨rfl,hw3⟩;have hb3:ak w2.heap.size w2 w3:=by rw[hw3];exact bl
 have hx3:dR w3 w2.heap.size o s nn p m c:=by rw[hw3];exact f_
 have hz3:w3.heap.size=w2.heap.size+1:=by rw[hw3];simp
 have Ap:=rA.out.on hb3;clear hw3
 gi_wp2
 have hs2:=rA.out.2.2.2.2;have bY:=Ap.2.2.2.1;refine wpIn_rangeFunc_ownH rfl bT (gf:=118) (lb:=#[.pointer (av ⟨w2.heap.size,0,af⟩)]) rfl trivial (enters_of func118 dx rfl)
  (aaG Fence.wide rfl trivial trivial rfl _ w2.heap.size w.heap.size w3.heap.size (.mk o s nn kl) p m c w3 hx3 (HH.out.below bY.out) HS.out bT (ai _)) (fun h k=>h.trans k) (Kp.put bT) (Below.refl _ _) (fun _=>rfl)
  (fun ps W=>(W.cell? ⟨w.heap.size+1,0,af⟩=av (.bool cc)/\W.cell? ⟨w.heap.size+1+1,0,af⟩=av (.int .i64 0)/\W.frozen? ⟨w.heap.size+1+1,0,af⟩=false/\bad cc (ps.map Nd.x)=0/\w3.heap.size<=W.heap.size)/\ak w.heap.size w W)
  (fun c' ps W=>(c'=.ret/\∃v:Int,¬v=0/\bad cc (ps.map Nd.x)=v/\W.cell? ⟨w.heap.size+1+1,0,af⟩=av (.int .i64 v))/\ak w.heap.size w W)
  (OwnFrom.and (Own.from (fun s A B row hs hg hr=>⟨cell_kept hs.1 hg hr,cell_kept hs.2.1 hg hr,(frozen_kept hs.2.1 hg hr).trans hs.2.2.1,hs.2.2.2.1,au hs.2.2.2.2 hg.size⟩) _) (ownFrom_below (ai _) bT))
  (fun c'=>OwnFrom.and (Own.from (fun s A B row hs hg hr=>⟨hs.1,let ⟨v,h1,h2,h3⟩:=hs.2;⟨v,h1,h2,cell_kept h3 hg hr⟩⟩) _) (ownFrom_below (ai _) bT))
  ⟨⟨Ap.2.1,Ap.2.2.1.1,Ap.2.2.1.2,rfl,ai _⟩,bY.out⟩
  (fun x a' W=>∃Bx,w3.heap.size<=Bx/\dR W Bx x.x.o x.x.s x.x.n x.p x.m x.c/\a'={ tmps:=#[.agg #[.int .i64 o,.string s,.int .i64 nn,.slice p m c],.bool cc,.pointer (av ⟨w.heap.size,0,af⟩),.pointer (av ⟨w.heap.size+1,0,af⟩),.pointer (av ⟨w.heap.size+1+1,0,af⟩),.pointer (av ⟨Bx,0,af⟩),undef,.agg #[.int .i64 o,.string s,.int .i64 nn,.slice p m c],.bool false,.agg #[.int .i64 o,.string s,.int .i64 nn,.slice p m c],.int .i64 (D:Nat),.bool false,.agg #[.int .i64 o,.string s,.int .i64 nn,.slice p m c],.func (.func 118) #[] #[.pointer (av ⟨w2.heap.size,0,af⟩)],.agg #[.int .i64 x.x.o,.string x.x.s,.int .i64 x.x.n,.slice x.p x.m x.c],undef,undef,undef,undef,undef,undef],defers:=[] })
  (fun x a' _ A B row hs hg hr=>let ⟨Bx,h1,h2,h3⟩:=hs;⟨Bx,h1,dR.own (β:=Unit) _ _ _ _ _ _ _ () A B row h2 hg (fun r e=>(hr r e).2),h3⟩) ?assign ?body ?done ?stop
 case assign=>
  intro l ps x W K hi hK;simp only[sQ]
  gi_wp2
  have hbW:ak W.heap.size W (W.alloc (.cells #[.int .i64 x.x.o,.string x.x.s,.int .i64 x.x.n,.slice x.p x.m x.c] 25)):=bl;have hle:=hi.2.size;refine hK _ _ (EP hbW) (Kp.of_below hbW hle) ?_ ⟨W.heap.size,?_,f_,?_⟩
  · exact⟨⟨Kk _ hi.1.1,Kk _ hi.1.2.1,QB _ hi.1.2.1 hi.1.2.2.1,hi.1.2.2.2.1,au hi.1.2.2.2.2 hbW.size⟩,hi.2.trans (hbW.mono hle)⟩
  · exact hi.1.2.2.2.2
  · simp[go_sem]
 case body=>
  rintro l ps x a' W hl ⟨r,hr⟩ ⟨⟨h1,h2,h3,h4,h5⟩,hB⟩ ⟨Bx,hBx,⟨b0,b1,b2,b3⟩,rfl⟩ hlt;obtain⟨v,hv⟩:∃v,nd cc x.x.o (bs x.x.s) x.x.n x.m=v:=⟨_,rfl⟩
  have HN:=aj (agK hv x.p x.c W x.hs);have Zj:oW cc x.x=v:=by unfold oW;rw[x.hl];exact hv
  have JK:=aj (show bad cc ((ps++[x]).map Nd.x)=v by rw[List.map_append];exact(aeQ h4).trans Zj);have H4:=aj h4;have H5:=aj h5;have lL:=aj hB;clear hv Zj h4 h5 hB hlt hr
  gi_wp2_with fail
  refine⟨trivial,?_⟩;refine(CallsIn.inRound l (callsIn_wide.2 HN.out)).mono ?_;rintro e w4 ⟨rfl,hb4⟩;have g1:=(hb4.cell (p:=⟨w.heap.size+1,0,af⟩) (block_lt h1)).trans h1;have g2:=(hb4.cell (p:=⟨w.heap.size+1+1,0,af⟩) (block_lt h2)).trans h2;have g3:=(hb4.frozen (p:=⟨w.heap.size+1+1,0,af⟩) (block_lt h2)).trans h3;have ig:=aj hb4;clear hb4 h1 h2 h3 b0 b1 b2 b3;by_cases hv0:v=0
  · subst hv0
    gi_wp2
    exact⟨EP ig.out,Kp.of_below ig.out lL.out.size,⟨g1,g2,g3,JK.out,au H5.out ig.out.size⟩,lL.out.trans (ig.out.mono lL.out.size)⟩
  · have t0:(v==0)=false:=beq_eq_false_iff_ne.2 hv0;exact zzl
 case done=>
  rintro D' ys W hD hys ⟨⟨h1,h2,h3,h4,h5⟩,hB⟩ hK;have HV:=aj (show bad cc (pre (.mk o s nn kl))=0 by rw[← hys];exact h4)
  gi_wp2
  have hK':=(KeepsOthers.setCell W ⟨w.heap.size+1+1,0,af⟩ (.int .i64 0)).same D' _ hK rfl;refine⟨by simp,.inl ⟨_,_,rfl,run_takeDeferred hK',?_⟩⟩;have qQ:=cell_kept (World.cell?_setCell_same' W ⟨w.heap.size+1+1,0,af⟩ (.int .i64 0) (by rw[h2];rfl)) (grownBy_putObj' _ D' (.deferred af)) (fun r e=>by cases e;exact⟨_,hK',rfl⟩);refine⟨.int .i64 0,?_,by rw[HV.out],(oN hB bT _).trans (belowK_b (w:=w) (ai _) _ D' _ _ bT hK' rfl rfl)⟩;simp[results,Tryz.f42,go_sem,qQ]
 case stop=>
  rintro D' c' ps W hD hps ⟨⟨rfl,v,hv0,hbv,hr⟩,hB⟩ hK;have HV:=aj (show bad cc (pre (.mk o s nn kl))=v by
   obtain⟨r,hr⟩:=hps;rw[← hr,O4 (by rw[hbv];exact hv0),hbv])
  gi_wp2
  refine⟨by simp,.inl ⟨_,_,rfl,run_takeDeferred hK,?_⟩⟩;have qQ:=cell_kept hr (grownBy_putObj' _ D' (.deferred af)) (fun r e=>by cases e;exact⟨_,hK,rfl⟩);refine⟨.int .i64 v,?_,by rw[HV.out],hB.trans (belowK_b (w:=w) (ai _) W D' _ _ bT hK rfl rfl)⟩;simp[results,Tryz.f42,go_sem,qQ]
theorem nZ (e:Ex) (p:Option Addr) (m c:Nat) (w:ag) (h:In w e p m) (hs:Sz e) (hc:cnt e<=1000000):ah ae 17 #[.agg #[.int .i64 e.o,.string e.s,.int .i64 e.n,.slice p m c]] w (Gives (.int .i64 (fI false e)) w):=by
 have H:=aj (fun W hi=>agq false e p m c W hi hs hc);have HH:=aj h;obtain⟨v,hv⟩:∃v,fI false e=v:=⟨_,rfl⟩
 rw[hv] at H ⊢;obtain⟨o,s,nn,kl⟩:=e;simp only[Ex.o,Ex.s,Ex.n] at H ⊢;clear h hs hc hv;go_enter func17,ntmps17;go_wp2_with fail;refine(H.out _ (HH.out.on bl)).mono ?_;exact F9
end Ex
namespace Sm
open Go.RowKit
open Ex (Ex In Sz Gives fI nN)
attribute [local go_sem] cs0 cs1 cs2 uW uX uY uZ u_ ve vg uI uJ uK uM uP uQ uR uS uT uU uV
abbrev xU (o:Int):Value:=.agg #[.bool (uN o),.bool (uO o),.bool (uE o),.bool (uF o),.bool (uA o),.bool (uD o),.bool (uG o),.bool (uB o),.bool (uL o)]
theorem akT (o:Int):(o=1∨o=2∨o=3∨o=4∨o=5∨o=6∨o=7∨o=8∨o=9∨o=10∨o=11∨o=12∨o=13∨o=14∨o=15∨o=16∨o=17∨o=18)∨(o<1∨18<o):=by omega
theorem jd {p:Prop} (h:p:=by omega):p:=h
theorem TE (o:Int) (w:ag):ah ae 104 #[.int .i64 o] w (Gives (.tuple #[xU o,.bool (kn o)]) w):=by
 rcases akT o with h|h
 · rcases h with rfl|rfl|rfl|rfl|rfl|rfl|rfl|rfl|rfl|rfl|rfl|rfl|rfl|rfl|rfl|rfl|rfl|rfl
   all_goals
    go_enter func104,ntmps104;go_wp2_with fail;exact bodyPost_ret (v:=.tuple #[xU _,.bool (kn _)]) (by simp[results,results104,go_sem,xU,uN,uO,uE,uF,uA,uD,uG,uB,uL,kn]) rfl ⟨rfl,bl⟩
 · have hk:kn o=false:=by unfold kn;rcases h with h|h <;> simp <;> omega
   have e0:xU o=.agg #[.bool false,.bool false,.bool false,.bool false,.bool false,.bool false,.bool false,.bool false,.bool false]:=by
    have a1:uN o=false:=by unfold uN;exact decide_eq_false jd
    have a2:uO o=false:=by unfold uO;exact decide_eq_false jd
    have a3:uE o=false:=by unfold uE;exact decide_eq_false jd
    have a4:uF o=false:=by unfold uF;exact decide_eq_false jd
    have a5:uA o=false:=by unfold uA;exact decide_eq_false jd
    have a6:uD o=false:=by unfold uD;exact decide_eq_false jd
    have a7:uG o=false:=by unfold uG;exact decide_eq_false jd
    have a8:uB o=false:=by unfold uB;exact decide_eq_false jd
    have a9:uL o=false:=by unfold uL;exact decide_eq_false jd
    show Value.agg _=_
    rw[a1,a2,a3,a4,a5,a6,a7,a8,a9]
   rw[hk,e0];have u1:(o==1)=false:=beq_eq_false_iff_ne.2 jd;have u2:(o==2)=false:=beq_eq_false_iff_ne.2 jd;have u3:(o==3)=false:=beq_eq_false_iff_ne.2 jd;have u4:(o==4)=false:=beq_eq_false_iff_ne.2 jd;have u5:(o==5)=false:=beq_eq_false_iff_ne.2 jd;have u6:(o==6)=false:=beq_eq_false_iff_ne.2 jd;have u7:(o==7)=false:=beq_eq_false_iff_ne.2 jd;have u8:(o==8)=false:=beq_eq_false_iff_ne.2 jd;have u9:(o==9)=false:=beq_eq_false_iff_ne.2 jd;have jc:(o==10)=false:=beq_eq_false_iff_ne.2 jd;have jV:(o==11)=false:=beq_eq_false_iff_ne.2 jd;have lJ:(o==12)=false:=beq_eq_false_iff_ne.2 jd;have kW:(o==13)=false:=beq_eq_false_iff_ne.2 jd;have mq:(o==14)=false:=beq_eq_false_iff_ne.2 jd;have mr:(o==15)=false:=beq_eq_false_iff_ne.2 jd;have u16:(o==16)=false:=beq_eq_false_iff_ne.2 jd;have mD:(o==17)=false:=beq_eq_false_iff_ne.2 jd;have mF:(o==18)=false:=beq_eq_false_iff_ne.2 jd;clear h hk e0;go_enter func104,ntmps104;go_wp2_with fail;exact bodyPost_ret (v:=.tuple #[.agg #[.bool false,.bool false,.bool false,.bool false,.bool false,.bool false,.bool false,.bool false,.bool false],.bool false]) (by simp[results,results104,go_sem]) rfl ⟨rfl,bl⟩
theorem NA {p:Prop} (h:p:=by
 go_wp2_with fail;refine((C).out _ bl).mono ?_;exact F9
 ):p:=h
theorem acd (u:Bool) (s:ByteArray) (v:Int) (w:ag) (C:Hid (u=true->∀W,ak w.heap.size w W->ah ae 53 #[.string s] W (Gives (.int .i64 v) W))):ah ae 106 #[.bool u,.func (.func 53) #[] #[],.string s] w (Gives (.int .i64 (onE u v)) w):=by
 cases u with
 | false=>
  clear C;go_enter func106,ntmps106;exact dX
 | true=>
  replace C:=aj ((C).out rfl);go_enter func106,ntmps106;exact NA
theorem acb (u:Bool) (e:Ex) (p:Option Addr) (m c:Nat) (v:Int) (w:ag) (C:Hid (u=true->∀W,ak w.heap.size w W->ah ae 17 #[.agg #[.int .i64 e.o,.string e.s,.int .i64 e.n,.slice p m c]] W (Gives (.int .i64 v) W))):ah ae 107 #[.bool u,.func (.func 17) #[] #[],.agg #[.int .i64 e.o,.string e.s,.int .i64 e.n,.slice p m c]] w (Gives (.int .i64 (onE u v)) w):=by
 cases u with
 | false=>
  clear C;go_enter func107,ntmps107;exact dX
 | true=>
  replace C:=aj ((C).out rfl);go_enter func107,ntmps107;exact NA
theorem aou (u:Bool) (p:Option Addr) (m c:Nat) (v:Int) (w:ag) (C:Hid (u=true->∀W,ak w.heap.size w W->ah ae 109 #[.slice p m c] W (Gives (.int .i64 v) W))):ah ae 108 #[.bool u,.func (.func 109) #[] #[],.slice p m c] w (Gives (.int .i64 (onE u v)) w):=by
 cases u with
 | false=>
  clear C;go_enter func108,ntmps108;exact dX
 | true=>
  replace C:=aj ((C).out rfl);go_enter func108,ntmps108;exact NA
theorem aov (u:Bool) (x:St) (P:Pl) (v:Int) (w:ag) (C:Hid (u=true->∀W,ak w.heap.size w W->ah ae 111 #[.agg #[.int .i64 x.di.op,.int .i64 x.di.a,.int .i64 x.di.b,.int .i64 x.di.n,.slice P.vp P.vm P.vc,.slice P.wp P.wm P.wc]] W (Gives (.int .i64 v) W))):ah ae 110 #[.bool u,.func (.func 111) #[] #[],.agg #[.int .i64 x.di.op,.int .i64 x.di.a,.int .i64 x.di.b,.int .i64 x.di.n,.slice P.vp P.vm P.vc,.slice P.wp P.wm P.wc]] w (Gives (.int .i64 (onE u v)) w):=by
 cases u with
 | false=>
  clear C;go_enter func110,ntmps110;exact dX
 | true=>
  replace C:=aj ((C).out rfl);go_enter func110,ntmps110;exact NA
def gP:List Int->Int
 | []=>0
 | x::t=>dN x (gP t)
theorem Mf:∀a b:List Int,gP (a++b)=dN (gP a) (gP b)
 | [],b=>kG.symm
 | x::t,b=>by rw[List.cons_append,gP,gP,Mf t b,A_]
theorem ow (l:List Int) (b n c:Nat) (w:ag) (hl:l.length=n) (hn:n<=1000000) (hc:Hid (∀i,(h:i<l.length)->w.cell? ⟨b,i,af⟩=av (.int .i64 l[i]))):ah ae 52 #[.slice (av ⟨b,0,af⟩) n c] w fun e w'=>e=.returned (.int .i64 (gP l))/\w=w':=by
 have HL:=aj hl;clear hl;go_enter func52,ntmps52;go_wp2_with fail;go_loop [8] (fun i=>∃k:Nat,k<=n/\i=.int .i64 k/\Hid (gP (l.take k)=0)) (fun i=>n-(intOf i).toNat)
 case atStart=>exact⟨0,Nat.zero_le _,rfl,aj rfl⟩
 case round=>
  obtain⟨k,hk,rfl,HA⟩:=hrel;rcases Nat.lt_or_ge k n with h|h
  · have hkl:k<l.length:=by rw[HL.out];exact h
    have e1:=hc.out k hkl;have e0:w.cell? ⟨b,0+k,af⟩=av (.int .i64 l[k]):=by rw[Nat.zero_add];exact e1
    have c1:(0:Int)<=(k:Int):=by omega
    have c2:(k:Int)<(n:Int):=by omega
    have hgx:l[k]?=av l[k]:=List.getElem?_eq_getElem hkl;obtain⟨x,hx⟩:∃x,l[k]=x:=⟨_,rfl⟩
    rw[hx] at e1 e0 hgx;by_cases hz:x=0
    · have H:Hid (gP (l.take (k+1))=0):=aj (by rw[Ex.take_one hgx,Mf,HA.out,kG,hz];rfl);subst hz;clear hgx hx hkl;go_wp2_with fail;go_round
      case rel=>exact⟨k+1,by omega,by go_num,H⟩
      case measure=>simp[intOf];omega
    · have hz2:(x != 0)=true:=by rw[bne_iff_ne];exact hz
      have H:Hid (gP l=x):=aj (by
       have h2:=Mf (l.take (k+1)) (l.drop (k+1));rw[List.take_append_drop,Ex.take_one hgx,Mf,HA.out,kG] at h2;rw[h2]
       show dN (dN x 0) _=x
       rw[rU,rT hz])
      clear hgx hx hkl hz;go_wp2_with fail;go_ret;exact⟨nN H.out.symm,rfl⟩
  · obtain rfl:n=k:=by omega
    have H:Hid (gP l=0):=aj (by have h1:=HA.out;rwa [List.take_of_length_le x_] at h1);go_wp2_with fail;go_ret;exact⟨nN H.out.symm,rfl⟩
theorem aoD {e:Ex} {v:Int} (h:fI false e=v) (p:Option Addr) (m c:Nat) (w:ag) (hi:In w e p m) (hs:Sz e) (hc:Ex.cnt e<=1000000):ah ae 17 #[.agg #[.int .i64 e.o,.string e.s,.int .i64 e.n,.slice p m c]] w (Gives (.int .i64 v) w):=by rw[← h];exact Ex.nZ e p m c w hi hs hc
theorem aeB (l:List Ex) (p:Option Addr) (m c:Nat) (w:ag) (h:In w (.mk 0 nE 0 l) p m) (hs:∀y∈l,Sz y/\Ex.cnt y<=1000000):ah ae 109 #[.slice p m c] w (Gives (.int .i64 (BU l)) w):=by
 have HH:=aj h;have HS:=aj hs;obtain⟨hl,hm⟩:=h.len;have HL:=aj hl;clear h hs hl;by_cases h6:6<m
 · rw[show BU l=6 by unfold BU;rw[HL.out,if_pos h6]];have t1:decide ((6:Int)<(m:Int))=true:=decide_eq_true jd;have t2:(6:Int)<(m:Int):=by omega
   go_enter func109,ntmps109;exact dX
 rw[show BU l=oK l by unfold BU;rw[HL.out,if_neg h6]];have t1:decide ((6:Int)<(m:Int))=false:=decide_eq_false jd;have t2:(m:Int)<=6:=by omega
 go_enter func109,ntmps109;go_wp2_with fail;go_loopw [11] (fun i wr=>∃k:Nat,k<=m/\Hid (oK (l.take k)=0)/\i=.int .i64 (k:Nat)/\Hid (ak w.heap.size w wr)) (fun i _=>m-(intOf i).toNat)
 case atStart=>exact⟨0,Nat.zero_le _,aj rfl,rfl,aj bl⟩
 case round=>
  obtain⟨k,hk,HT0,rfl,HW⟩:=hrel;have k0:(0:Int)<=(k:Int):=by omega
  rcases Nat.lt_or_ge k m with h|h
  · have k1:(k:Int)<(m:Int):=by omega
    obtain⟨b,o',rfl,-,hG,hcell⟩:=HH.out.kids jd;have hkl:k<l.length:=by rw[HL.out];omega
    obtain⟨q,j,c',hc4,eH⟩:=hcell.out k hkl;have hmem:l[k]∈l:=List.getElem_mem hkl;have hgx:l[k]?=av l[k]:=List.getElem?_eq_getElem hkl;obtain⟨x,hx⟩:∃x,l[k]=x:=⟨_,rfl⟩
    rw[hx] at hc4 eH hmem hgx;obtain⟨e0,e1,e2,e3⟩:=hc4.on HW.out hG;have hbr:b<wr.heap.size:=Nat.lt_of_lt_of_le hG HW.out.size;have mO:=aj eH;obtain⟨v,hv⟩:∃v,fI false x=v:=⟨_,rfl⟩
    have HC:=aj (fun W hi=>aoD hv q j c' W hi (HS.out x hmem).1 (HS.out x hmem).2);have HTK:=aj (Vo hgx);have HST:=aj (fun(h1:¬fI false x=0)=>aeO hgx HT0.out h1);have HV:=aj hv;clear hcell hc4 eH hx hmem hgx hkl hv;go_wp2_with fail;refine(HC.out _ (mO.out.on qG)).mono ?_;rintro e w2 ⟨rfl,hb2⟩;have HW2:Hid (ak w.heap.size w w2):=aj qG;clear hb2 HC;by_cases hz:v=0
    · have HR:Hid (oK (l.take (k+1))=0):=aj (by rw[HTK.out,HT0.out,kG,HV.out,hz]);subst hz;exact adM
    · have HR:Hid (oK l=v):=aj (by rw[HST.out (by rw[HV.out];exact hz),HV.out]);have z1:(v != 0)=true:=bne_iff_ne.2 hz;clear hz;go_wp2_with fail;go_ret;exact⟨by rw[HR.out];rfl,HW2.out⟩
  · obtain rfl:m=k:=by omega
    have HR:Hid (oK l=0):=aj (by have h1:=HT0.out;rwa [List.take_of_length_le x_] at h1);exact N_
end Sm
namespace Sm
open Go.RowKit Go.Shelf Go.Sort
open Ex (Nm Eg)
attribute [local go_sem] Oper.semAt_some
attribute [local go_sem] cs0 cs1 cs2 uW uX uY uZ u_ ve vg uI uJ uK uM uP uQ uR uS uT uU uV
theorem dB.own {β:Type} (g:Nat) (x:St) (P:Pl):Own (fun(_:β) W=>dB W g x P):=fun _ A B row hs hg hr=>by
 refine(hg.block g hs.lt (fun e=>?_)).trans hs;obtain⟨o,ho,hc⟩:=hr g e.symm;rw[show A.heap[g]?=_ from hs] at ho;cases ho
 cases hc
theorem Kp.app {n₀ T B:Nat} {W w1:ag} {v v':Value} {l:List Nm} {tmp:Obj} (hn:n₀<=W.heap.size) (hB:n₀<=B) (hT:B<T) (hrow:Eg n₀ W v l) (hgrow:(W.alloc tmp).grownBy w1 v.ownBlock) (hbel:ak n₀ W (w1.setCell ⟨B,0,af⟩ v')):Kp n₀ T W (w1.setCell ⟨B,0,af⟩ v'):=
 ⟨hbel, fun k c fr hk hc => by
   have hkl:=(Array.getElem?_eq_some_iff.1 hc).1;rw[(grownBy_setCell' w1 B v').block k (Nat.lt_of_lt_of_le hkl (au cK hgrow.size)) (fun e=>by cases e;omega)];rw[hgrow.block k za (fun e=>by
    rcases hrow.2 with⟨rfl,_⟩|⟨g',cap,cur,rfl,_,hgb,_⟩
    · simp[Value.ownBlock] at e
    · obtain rfl:g'=k:=by simpa [Value.ownBlock] using e.symm
      rw[hgb] at hc
      cases hc)]
   exact(Below.heap_alloc W tmp k hkl).trans hc⟩
end Sm
end Go.Proofs.YtkpekhpgdajabaaGreatDoor
