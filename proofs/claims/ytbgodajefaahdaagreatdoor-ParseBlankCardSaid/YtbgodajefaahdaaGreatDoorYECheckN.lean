/-
  Parts of this proof: The contract of checkNode. The contracts of check, Check and CheckCode. The contract of Uses. The contracts of usage, of checkUsed at its four.
-/
import Derived.Test.YtbgodajefaahdaaGreatDoorYQSml
import Derived.Test.YtbgodajefaahdaaGreatDoorYEDepth
import Derived.Test.YtbgodajefaahdaaGreatDoorYPWalk
open Go.Proofs.Tryz renaming prog->ae
open Option renaming none->af,some->av
open Nat renaming le_refl->ag,le_trans->au
open Go renaming World->ah,Calls->ai
open Go.Lib renaming hid->aj
open Go.RowKit renaming Below->ak
set_option linter.unusedVariables false
open Go.Lib (hid)
namespace Go.Proofs.YtbgodajefaahdaaGreatDoor
namespace Ex
open Go.RowKit
open Na (bs iK)
set_option maxHeartbeats 2000000
theorem O9 {c:Bool} {o n:Int} {s:List UInt8} {m:Nat} (h:y7 c o s n m=true):nd c o s n m=1:=by unfold nd;rw[if_pos h]
theorem aoI {c:Bool} {o n:Int} {s:List UInt8} {m:Nat} (h:known c o=false):nd c o s n m=1:=O9 (by unfold y7;rw[h];simp)
theorem aoK {c:Bool} {o n:Int} {s:List UInt8} {m:Nat} (h:known c o=true) (g:¬(m:Int)=zW o):nd c o s n m=1:=O9 (by unfold y7;rw[adO h,decide_eq_false g];simp)
theorem aoJ {c:Bool} {o n:Int} {s:List UInt8} {m:Nat} (h:known c o=true) (g:xF c o=false) (g2:¬s=[]):nd c o s n m=1:=O9 (by unfold y7;rw[← WW h,g,decide_eq_false g2];simp)
theorem aoH {c:Bool} {o n:Int} {s:List UInt8} {m:Nat} (h:known c o=true) (g:zV c o=false) (g2:¬n=0):nd c o s n m=1:=O9 (by unfold y7;rw[← afw h,g,decide_eq_false g2];simp)
theorem aoG {c:Bool} {o n:Int} {s:List UInt8} {m:Nat} (h:known c o=true) (h1:(m:Int)=zW o) (h2:xF c o=true∨s=[]) (h3:zV c o=true∨n=0):nd c o s n m=if Bh o n=false then 2 else if xF c o=true then iK s else 0:=by
 have hf:y7 c o s n m=false:=by
  unfold y7;rw[h,← WW h,← afw h,adO h,decide_eq_true h1];rcases h2 with h2|h2 <;> rcases h3 with h3|h3 <;> simp[h2,h3]
 unfold nd;rw[if_neg (by rw[hf];decide),ap_ hf,WW h]
 cases M_ c o n <;> simp
theorem alN {s:ByteArray} (h:¬bs s=[]):s.toList.isEmpty=false:=by
 rw[Lib.toList_data]
 show(bs s).isEmpty=false
 cases g:bs s with
 | nil=>exact absurd g h
 | cons x t=>rfl
theorem aa7 {s:ByteArray} (h:bs s=[]):s.toList.isEmpty=true:=by
 rw[Lib.toList_data]
 show(bs s).isEmpty=true
 rw[h];rfl
theorem aj7 {s:ByteArray} {x:Int} (h:iK (bs s)=x) (hs:s.size<=9223372036854775807) (w:ah):ai ae 35 #[.string s] w (Gives (.int .i64 x) w):=by rw[← h];exact Na.pO s w hs
theorem WY {c:Bool} {o K:Int} {a b kn:Bool} (h1:zW o=K) (h2:xF c o=a) (h3:zV c o=b) (h4:known c o=kn) (w:ah):ai ae 146 #[.int .i64 o,.bool c] w (Gives (.tuple #[.agg #[.int .i64 K,.bool a,.bool b],.bool kn]) w):=by
 rw[← h1,← h2,← h3,← h4];exact WX c o w
theorem apQ {o n:Int} {v:Bool} (h:Bh o n=v) (s:ByteArray) (p:Option Addr) (m c:Nat) (w:ah):ai ae 147 #[.agg #[.int .i64 o,.string s,.int .i64 n,.slice p m c]] w (Gives (.bool v) w):=by
 rw[← h];exact apP o s n p m c w
theorem L6 {p:Prop} (h:p:=by
 go_enter Tryz.func98,Tryz.ntmps98;go_wp2_with fail;refine(HU.out _).mono ?_;rintro e w1 ⟨rfl,hb1⟩;have q1:w.heap.size<w1.heap.size:=by have:=hb1.size;simp at this;omega
 have NJ:=(hb1.cell (p:=⟨w.heap.size,1,af⟩) (by simp)).trans ni.2.1;have SE:=(hb1.cell (p:=⟨w.heap.size,0,af⟩) (by simp)).trans ni.1;have SF:=(hb1.cell (p:=⟨w.heap.size,2,af⟩) (by simp)).trans ni.2.2.1;have SG:=(hb1.cell (p:=⟨w.heap.size,3,af⟩) (by simp)).trans ni.2.2.2;go_wp2_with fail;go_ret;exact⟨rfl,bl⟩
 ):p:=h
theorem agc {p:Prop} (h:p:=by
 go_enter Tryz.func98,Tryz.ntmps98;go_wp2_with fail;refine(HU.out _).mono ?_;rintro e w1 ⟨rfl,hb1⟩;have q1:w.heap.size<w1.heap.size:=by have:=hb1.size;simp at this;omega
 have NJ:=(hb1.cell (p:=⟨w.heap.size,1,af⟩) (by simp)).trans ni.2.1;have SE:=(hb1.cell (p:=⟨w.heap.size,0,af⟩) (by simp)).trans ni.1;have SF:=(hb1.cell (p:=⟨w.heap.size,2,af⟩) (by simp)).trans ni.2.2.1;have SG:=(hb1.cell (p:=⟨w.heap.size,3,af⟩) (by simp)).trans ni.2.2.2;go_wp2_with fail;refine(HR.out _).mono ?_;rintro e w2 ⟨rfl,hb2⟩;go_wp2_with fail;go_ret;exact⟨rfl,bl⟩
 ):p:=h
theorem agd {p:Prop} (h:p:=by
 clear hK ha hb hk h3 h4 key hv hx
 cases v with
 | false=>
  exact agc
 | true=>
  go_enter Tryz.func98,Tryz.ntmps98;go_wp2_with fail;refine(HU.out _).mono ?_;rintro e w1 ⟨rfl,hb1⟩;have q1:w.heap.size<w1.heap.size:=by have:=hb1.size;simp at this;omega
  have NJ:=(hb1.cell (p:=⟨w.heap.size,1,af⟩) (by simp)).trans ni.2.1;have SE:=(hb1.cell (p:=⟨w.heap.size,0,af⟩) (by simp)).trans ni.1;have SF:=(hb1.cell (p:=⟨w.heap.size,2,af⟩) (by simp)).trans ni.2.2.1;have SG:=(hb1.cell (p:=⟨w.heap.size,3,af⟩) (by simp)).trans ni.2.2.2;go_wp2_with fail;refine(HR.out _).mono ?_;rintro e w2 ⟨rfl,hb2⟩;have q2:w1.heap.size<w2.heap.size:=by have:=hb2.size;simp at this;omega
  have dd1:w2.cell? ⟨w1.heap.size,1,af⟩=av (.bool true):=(hb2.cell (by simp)).trans (by simp);have dd2:w2.cell? ⟨w.heap.size,1,af⟩=av (.string s):=(hb2.cell (by simp;omega)).trans ((((Below.refl _ w1).alloc (ag _) _).cell (by simp;omega)).trans NJ);go_wp2_with fail;refine(HC.out _).mono ?_;rintro e w3 ⟨rfl,hb3⟩;go_wp2_with fail;go_ret;exact⟨rfl,bl⟩
 ):p:=h
theorem age {p:Prop} (h:p:=by
 clear hK ha hb hk h3 h4 key hv hx
 cases v with
 | false=>
  exact agc
 | true=>
  go_enter Tryz.func98,Tryz.ntmps98;go_wp2_with fail;refine(HU.out _).mono ?_;rintro e w1 ⟨rfl,hb1⟩;have q1:w.heap.size<w1.heap.size:=by have:=hb1.size;simp at this;omega
  have NJ:=(hb1.cell (p:=⟨w.heap.size,1,af⟩) (by simp)).trans ni.2.1;have SE:=(hb1.cell (p:=⟨w.heap.size,0,af⟩) (by simp)).trans ni.1;have SF:=(hb1.cell (p:=⟨w.heap.size,2,af⟩) (by simp)).trans ni.2.2.1;have SG:=(hb1.cell (p:=⟨w.heap.size,3,af⟩) (by simp)).trans ni.2.2.2;go_wp2_with fail;refine(HR.out _).mono ?_;rintro e w2 ⟨rfl,hb2⟩;have q2:w1.heap.size<w2.heap.size:=by have:=hb2.size;simp at this;omega
  have dd1:w2.cell? ⟨w1.heap.size,1,af⟩=av (.bool false):=(hb2.cell (by simp)).trans (by simp);go_wp2_with fail;go_ret;exact⟨rfl,bl⟩
 ):p:=h
set_option maxRecDepth 100000 in
theorem akx (c:Bool) (o:Int) (s:ByteArray) (n:Int) (p:Option Addr) (m c':Nat) (w:ah) (hs:s.size<=140737488355328):ai ae 98 #[.agg #[.int .i64 o,.string s,.int .i64 n,.slice p m c'],.bool c] w (Gives (.int .i64 (nd c o (bs s) n m)) w):=by
 obtain⟨K,hK⟩:∃K,zW o=K:=⟨_,rfl⟩
 obtain⟨a,ha⟩:∃a,xF c o=a:=⟨_,rfl⟩
 obtain⟨b,hb⟩:∃b,zV c o=b:=⟨_,rfl⟩
 obtain⟨kn,hk⟩:∃kn,known c o=kn:=⟨_,rfl⟩
 have HU:=aj (fun W=>WY hK ha hb hk W)
 cases kn with
 | false=>
  rw[aoI hk];clear hK ha hb hk;exact L6
 | true=>
  by_cases h1:(m:Int)=K
  · subst h1;have t1:((m:Int)==(m:Int))=true:=beq_self_eq_true _;have key:∀(aa:a=true∨bs s=[]) (bb:b=true∨n=0),nd c o (bs s) n m=if Bh o n=false then 2 else if xF c o=true then iK (bs s) else 0:=fun aa bb=>aoG hk hK.symm (by rw[ha];exact aa) (by rw[hb];exact bb)
    by_cases h3:a=false/\¬bs s=[]
    · rw[aoJ hk (by rw[ha];exact h3.1) h3.2];obtain⟨rfl,h3⟩:=h3;have t3:=alN h3;clear hK ha hb hk h3 key;exact L6
    · by_cases h4:b=false/\¬n=0
      · rw[aoH hk (by rw[hb];exact h4.1) h4.2];obtain⟨rfl,h4⟩:=h4;have t4:(n==0)=false:=beq_eq_false_iff_ne.2 h4
        cases a with
        | true=>
         clear hK ha hb hk h3 h4 key;exact L6
        | false=>
         have t3:=aa7 (s:=s) (Classical.byContradiction fun h=>h3 ⟨rfl,h⟩);clear hK ha hb hk h3 h4 key;exact L6
      · rw[key (by cases a with|true=>exact .inl rfl|false=>exact .inr (Classical.byContradiction fun h=>h3 ⟨rfl,h⟩)) (by cases b with|true=>exact .inl rfl|false=>exact .inr (Classical.byContradiction fun h=>h4 ⟨rfl,h⟩)),ha];obtain⟨v,hv⟩:∃v,Bh o n=v:=⟨_,rfl⟩
        have HR:=aj (fun W=>apQ hv s p m c' W);have HC:=aj (fun W=>aj7 (s:=s) rfl (by omega) W);obtain⟨x,hx⟩:∃x,iK (bs s)=x:=⟨_,rfl⟩
        rw[hx] at HC ⊢;rw[hv]
        cases a with
        | true=>
         cases b with
         | true=>
          exact agd
         | false=>
          obtain rfl:n=0:=Classical.byContradiction fun h=>h4 ⟨rfl,h⟩;exact agd
        | false=>
         have t3:=aa7 (s:=s) (Classical.byContradiction fun h=>h3 ⟨rfl,h⟩)
         cases b with
         | true=>
          exact age
         | false=>
          obtain rfl:n=0:=Classical.byContradiction fun h=>h4 ⟨rfl,h⟩;exact age
  · rw[aoK hk (by rw[hK];exact h1)];have t1:((m:Int)==K)=false:=beq_eq_false_iff_ne.2 h1;have t2:((m:Int) != K)=true:=bne_iff_ne.2 h1;clear hK ha hb hk h1;exact L6
end Ex
namespace Ex
open Go.RowKit Go.Shelf
open Na (bs)
attribute [local go_sem] Oper.semAt_some
set_option maxHeartbeats 4000000
theorem SS {e:Ex} {x:Nat} (h:dep e=x) (p:Option Addr) (m c:Nat) (w:ah) (hi:In w e p m) (hc:cnt e<=1000000):ai ae 96 #[.agg #[.int .i64 e.o,.string e.s,.int .i64 e.n,.slice p m c]] w (Gives (.int .i64 (x:Nat)) w):=by rw[← h];exact SQ e p m c w hi hc
theorem Kq {e:Ex} {b:Bool} (h:decide (60<cnt e)=b) (p:Option Addr) (m c:Nat) (w:ah) (hi:In w e p m) (hs:Sz e) (hc:cnt e<=1000000):ai ae 95 #[.agg #[.int .i64 e.o,.string e.s,.int .i64 e.n,.slice p m c],.int .i64 60] w (Gives (.bool b) w):=by rw[← h];exact UQ e p m c w hi hs hc
theorem aky {c:Bool} {o n v:Int} {s:ByteArray} {m:Nat} (h:nd c o (bs s) n m=v) (p:Option Addr) (c':Nat) (w:ah) (hs:s.size<=140737488355328):ai ae 98 #[.agg #[.int .i64 o,.string s,.int .i64 n,.slice p m c'],.bool c] w (Gives (.int .i64 v) w):=by rw[← h];exact akx c o s n p m c' w hs
theorem jg.own {β:Type} (g:Nat) (o:Int) (s:ByteArray) (n:Int) (p:Option Addr) (m c:Nat):Own (fun(_:β) W=>jg W g o s n p m c):=fun _ A B row hs hg hr=>⟨cell_kept hs.1 hg hr,cell_kept hs.2.1 hg hr,cell_kept hs.2.2.1 hg hr,cell_kept hs.2.2.2 hg hr⟩
theorem EE {B:Nat} {W W':ah} (h:ak W.heap.size W W'):KeepsFrom B W W':=⟨h.size,fun k o _ hk _=>(h.block k (Array.getElem?_eq_some_iff.1 hk).1).trans hk⟩
theorem aiZ {c:Bool} {l:List Ex} {x:Ex} (h:bad c l=0):bad c (l++[x])=yA c x:=by
 rw[ZI h];by_cases g:yA c x=0
 · rw[F8 g,g];rfl
 · rw[Nb g]
def St (w wr:ah) (cc:Bool) (o:Int) (s:ByteArray) (nn:Int) (p:Option Addr) (m c:Nat):Prop:=
 jg wr w.heap.size o s nn p m c/\wr.cell? ⟨w.heap.size+1,0,af⟩=av (.bool cc)/\(wr.cell? ⟨w.heap.size+1+1,0,af⟩=av (.int .i64 0)/\wr.frozen? ⟨w.heap.size+1+1,0,af⟩=false)/\Hid (ak w.heap.size w wr)/\w.heap.size+3<=wr.heap.size
section
variable {w wr w2:ah} {cc:Bool} {o:Int} {s:ByteArray} {nn:Int} {p:Option Addr} {m c:Nat}
theorem St.on (h:St w wr cc o s nn p m c) (hb:ak wr.heap.size wr w2):St w w2 cc o s nn p m c:=by
 obtain⟨h1,h2,⟨h3,h4⟩,h5,h6⟩:=h;exact⟨h1.on hb,(hb.cell (p:=⟨w.heap.size+1,0,af⟩) (show w.heap.size+1<wr.heap.size by omega)).trans h2,⟨(hb.cell (p:=⟨w.heap.size+1+1,0,af⟩) (show w.heap.size+1+1<wr.heap.size by omega)).trans h3,(hb.frozen (p:=⟨w.heap.size+1+1,0,af⟩) (show w.heap.size+1+1<wr.heap.size by omega)).trans h4⟩,aj (h5.out.trans (hb.mono (by omega))),au h6 hb.size⟩
theorem St.new:St w (((w.alloc (.cells #[.int .i64 o,.string s,.int .i64 nn,.slice p m c] 41)).alloc (.cells #[.bool cc] 4)).alloc (.cells #[.int .i64 0] 28)) cc o s nn p m c:=by
 obtain⟨w1,hw1⟩:∃w1,w.alloc (.cells #[.int .i64 o,.string s,.int .i64 nn,.slice p m c] 41)=w1:=⟨_,rfl⟩
 have hz1:w1.heap.size=w.heap.size+1:=by rw[← hw1];simp
 have hb1:ak w.heap.size w w1:=by rw[← hw1];exact bl
 have h1:=ni (w:=w) (o:=o) (s:=s) (n:=nn) (p:=p) (m:=m) (c:=c) (t:=41);obtain⟨w2,hw2⟩:∃w2,w1.alloc (.cells #[.bool cc] 4)=w2:=⟨_,rfl⟩
 have hz2:w2.heap.size=w.heap.size+2:=by rw[← hw2];simp[hz1]
 have hb2:ak w1.heap.size w1 w2:=by rw[← hw2];exact bl
 have h2:=uW w1 (.bool cc) 4;rw[hw2] at h2;obtain⟨w3,hw3⟩:∃w3,w2.alloc (.cells #[.int .i64 0] 28)=w3:=⟨_,rfl⟩
 have hz3:w3.heap.size=w.heap.size+3:=by rw[← hw3];simp[hz2]
 have hb3:ak w2.heap.size w2 w3:=by rw[← hw3];exact bl
 have h3:=uW w2 (.int .i64 0) 28;rw[hw3] at h3;rw[hw1] at h1;rw[hw1,hw2,hw3];rw[hz1] at h2;rw[hz2] at h3;exact⟨(h1.on hb2).on hb3,(hb3.cell (p:=⟨w.heap.size+1,0,af⟩) (show w.heap.size+1<w2.heap.size by omega)).trans h2.1,h3,aj (hb1.trans ((hb2.mono (by omega)).trans (hb3.mono (by omega)))),by omega⟩
end
set_option maxRecDepth 100000 in
theorem ake (cc:Bool) (e:Ex) (p:Option Addr) (m c:Nat) (w:ah) (h:In w e p m) (hs:Sz e) (hc:cnt e<=1000000):ai ae 54 #[.agg #[.int .i64 e.o,.string e.s,.int .i64 e.n,.slice p m c],.bool cc] w (Gives (.int .i64 (iy cc e)) w):=by
 by_cases h6:60<cnt e
 · have HM:=aj (fun W hi=>Kq (decide_eq_true h6) p m c W hi hs hc);have HH:=aj h;rw[show iy cc e=6 by unfold iy;rw[if_pos h6]];obtain⟨o,s,nn,kl⟩:=e;simp only[Ex.o,Ex.s,Ex.n] at HM ⊢;clear h hs hc h6;go_enter Tryz.func54,Tryz.ntmps54;go_wp2_with fail;refine(HM.out _ (HH.out.on bl)).mono ?_;rintro e w1 ⟨rfl,hb1⟩;have HST:=aj (St.new.on hb1);have hr:=HST.out.2.2.1.1;have hf:=HST.out.2.2.1.2;clear hb1;go_wp2_with fail
   (try simp only[Exit.inBlock,Exit.then])
   have bU:=HST.out.2.2.2.1.out;have e1:(w1.setCell ⟨w.heap.size+1+1,0,af⟩ (.int .i64 6)).cell? ⟨w.heap.size+1+1,0,af⟩=av (.int .i64 6):=World.cell?_setCell_same' _ _ _ (by rw[hr];rfl);exact bodyPost_ret (v:=.int .i64 6) (by simp[results,Tryz.f54,go_sem,e1]) rfl ⟨rfl,pK bU (by omega) _⟩
 have HM:=aj (fun W hi=>Kq (decide_eq_false h6) p m c W hi hs hc);have HD:=aj (fun W hi=>SS (e:=e) rfl p m c W hi hc);by_cases h12:12<dep e
 · have HH:=aj h;rw[show iy cc e=11 by unfold iy;rw[if_neg h6,if_pos h12]];obtain⟨D,hD⟩:∃D,dep e=D:=⟨_,rfl⟩
   rw[hD] at HD h12;have d1:(12:Int)<(D:Int):=by omega
   have d2:decide ((12:Int)<(D:Int))=true:=decide_eq_true d1;obtain⟨o,s,nn,kl⟩:=e;simp only[Ex.o,Ex.s,Ex.n] at HM HD ⊢;clear h hs hc h6 hD h12;go_enter Tryz.func54,Tryz.ntmps54;go_wp2_with fail;refine(HM.out _ (HH.out.on bl)).mono ?_;rintro e w1 ⟨rfl,hb1⟩;have HST:=aj (St.new.on hb1);obtain⟨x0,x1,x2,x3⟩:=HST.out.1;clear hb1;go_wp2_with fail;refine(HD.out _ (HH.out.on HST.out.2.2.2.1.out)).mono ?_;rintro e w2 ⟨rfl,hb2⟩;have tO:=aj (HST.out.on hb2);have hr:=tO.out.2.2.1.1;have hf:=tO.out.2.2.1.2;clear hb2;go_wp2_with fail
   (try simp only[Exit.inBlock,Exit.then])
   have bU:=tO.out.2.2.2.1.out;have e1:(w2.setCell ⟨w.heap.size+1+1,0,af⟩ (.int .i64 11)).cell? ⟨w.heap.size+1+1,0,af⟩=av (.int .i64 11):=World.cell?_setCell_same' _ _ _ (by rw[hr];rfl);exact bodyPost_ret (v:=.int .i64 11) (by simp[results,Tryz.f54,go_sem,e1]) rfl ⟨rfl,pK bU (by omega) _⟩
 have HH:=aj h;have HS:=aj hs;have HC:=aj hc;rw[show iy cc e=bad cc (pre e) by unfold iy;rw[if_neg h6,if_neg h12]];obtain⟨D,hD⟩:∃D,dep e=D:=⟨_,rfl⟩
 rw[hD] at HD h12;have d1:(D:Int)<=12:=by omega
 have d2:decide ((12:Int)<(D:Int))=false:=decide_eq_false (by omega);obtain⟨o,s,nn,kl⟩:=e;simp only[Ex.o,Ex.s,Ex.n] at HM HD ⊢;clear h hs hc h6 hD h12;refine(callsIn_wide (n:=3)).1 ?_;refine callsIn_of_wp_marks Tryz.func54 rfl trivial ?_ rfl;simp only[Tryz.ntmps54,List.size_toArray,List.length_cons,List.length_nil,Nat.reduceAdd,Nat.reduceSub,Array.replicate_succ,Array.replicate_zero,List.push_toArray,List.append_toArray,List.nil_append,List.cons_append]
 gi_wp2_with fail
 refine⟨trivial,?_⟩;refine(callsIn_wide.2 (HM.out _ (HH.out.on bl))).mono ?_;rintro e w1 ⟨rfl,hb1⟩;have HST:=aj (St.new.on hb1);obtain⟨x0,x1,x2,x3⟩:=HST.out.1;clear hb1
 gi_wp2_with fail
 refine⟨trivial,?_⟩;refine(callsIn_wide.2 (HD.out _ (HH.out.on HST.out.2.2.2.1.out))).mono ?_;rintro e w2 ⟨rfl,hb2⟩;have tO:=aj (HST.out.on hb2);obtain⟨y0,y1,y2,y3⟩:=tO.out.1;clear hb2 x0 x1 x2 x3
 gi_wp2_with fail
 refine⟨trivial,?_⟩;refine(aea Fence.wide _ trivial rfl _ _ _ _ _ _ _).mono ?_;rintro e w3 ⟨rfl,hw3⟩;have hb3:ak w2.heap.size w2 w3:=by rw[hw3];exact bl
 have hx3:jg w3 w2.heap.size o s nn p m c:=by rw[hw3];exact ni
 have hz3:w3.heap.size=w2.heap.size+1:=by rw[hw3];simp
 have BQ:=tO.out.on hb3;clear hw3
 gi_wp2
 have hs2:=tO.out.2.2.2.2;have bU:=BQ.2.2.2.1;refine wpIn_rangeFunc_ownH rfl (by omega) (gf:=144) (lb:=#[.pointer (av ⟨w2.heap.size,0,af⟩)]) rfl trivial (enters_of Tryz.func144 (by kernel_rfl) rfl)
  (aeb Fence.wide rfl trivial trivial rfl _ w2.heap.size w.heap.size w3.heap.size (.mk o s nn kl) p m c w3 hx3 (HH.out.below bU.out) HS.out (by omega) (ag _)) (fun h k=>h.trans k) (Kp.put (by omega)) (Below.refl _ _) (fun _=>rfl)
  (fun ps W=>(W.cell? ⟨w.heap.size+1,0,af⟩=av (.bool cc)/\W.cell? ⟨w.heap.size+1+1,0,af⟩=av (.int .i64 0)/\W.frozen? ⟨w.heap.size+1+1,0,af⟩=false/\bad cc (ps.map Nd.x)=0/\w3.heap.size<=W.heap.size)/\ak w.heap.size w W)
  (fun c' ps W=>(c'=.ret/\∃v:Int,¬v=0/\bad cc (ps.map Nd.x)=v/\W.cell? ⟨w.heap.size+1+1,0,af⟩=av (.int .i64 v))/\ak w.heap.size w W)
  (OwnFrom.and (Own.from (fun s A B row hs hg hr=>⟨cell_kept hs.1 hg hr,cell_kept hs.2.1 hg hr,(frozen_kept hs.2.1 hg hr).trans hs.2.2.1,hs.2.2.2.1,au hs.2.2.2.2 hg.size⟩) _) (ownFrom_below (ag _) (by omega)))
  (fun c'=>OwnFrom.and (Own.from (fun s A B row hs hg hr=>⟨hs.1,let ⟨v,h1,h2,h3⟩:=hs.2;⟨v,h1,h2,cell_kept h3 hg hr⟩⟩) _) (ownFrom_below (ag _) (by omega)))
  ⟨⟨BQ.2.1,BQ.2.2.1.1,BQ.2.2.1.2,rfl,ag _⟩,bU.out⟩
  (fun x a' W=>∃Bx,w3.heap.size<=Bx/\jg W Bx x.x.o x.x.s x.x.n x.p x.m x.c/\a'={ tmps:=#[.agg #[.int .i64 o,.string s,.int .i64 nn,.slice p m c],.bool cc,.pointer (av ⟨w.heap.size,0,af⟩),.pointer (av ⟨w.heap.size+1,0,af⟩),.pointer (av ⟨w.heap.size+1+1,0,af⟩),.pointer (av ⟨Bx,0,af⟩),undef,.agg #[.int .i64 o,.string s,.int .i64 nn,.slice p m c],.bool false,.agg #[.int .i64 o,.string s,.int .i64 nn,.slice p m c],.int .i64 (D:Nat),.bool false,.agg #[.int .i64 o,.string s,.int .i64 nn,.slice p m c],.func (.func 144) #[] #[.pointer (av ⟨w2.heap.size,0,af⟩)],.agg #[.int .i64 x.x.o,.string x.x.s,.int .i64 x.x.n,.slice x.p x.m x.c],undef,undef,undef,undef,undef,undef],defers:=[] })
  (fun x a' _ A B row hs hg hr=>let ⟨Bx,h1,h2,h3⟩:=hs;⟨Bx,h1,jg.own (β:=Unit) _ _ _ _ _ _ _ () A B row h2 hg (fun r e=>(hr r e).2),h3⟩) ?assign ?body ?done ?stop
 case assign=>
  intro l ps x W K hi hK;simp only[vg]
  gi_wp2
  have hbW:ak W.heap.size W (W.alloc (.cells #[.int .i64 x.x.o,.string x.x.s,.int .i64 x.x.n,.slice x.p x.m x.c] 41)):=bl;have hle:=hi.2.size;refine hK _ _ (EE hbW) (Kp.of_below hbW hle) ?_ ⟨W.heap.size,?_,ni,?_⟩
  · exact⟨⟨NL _ hi.1.1,NL _ hi.1.2.1,TJ _ hi.1.2.1 hi.1.2.2.1,hi.1.2.2.2.1,au hi.1.2.2.2.2 hbW.size⟩,hi.2.trans (hbW.mono hle)⟩
  · exact hi.1.2.2.2.2
  · simp[go_sem]
 case body=>
  rintro l ps x a' W hl ⟨r,hr⟩ ⟨⟨h1,h2,h3,h4,h5⟩,hB⟩ ⟨Bx,hBx,⟨b0,b1,b2,b3⟩,rfl⟩ hlt;obtain⟨v,hv⟩:∃v,nd cc x.x.o (bs x.x.s) x.x.n x.m=v:=⟨_,rfl⟩
  have HN:=aj (aky hv x.p x.c W x.hs);have acx:yA cc x.x=v:=by unfold yA;rw[x.hl];exact hv
  have IC:=aj (show bad cc ((ps++[x]).map Nd.x)=v by rw[List.map_append];exact(aiZ h4).trans acx);have H4:=aj h4;have H5:=aj h5;have eY:=aj hB;clear hv acx h4 h5 hB hlt hr
  gi_wp2_with fail
  refine⟨trivial,?_⟩;refine(CallsIn.inRound l (callsIn_wide.2 HN.out)).mono ?_;rintro e w4 ⟨rfl,hb4⟩;have g1:=(hb4.cell (p:=⟨w.heap.size+1,0,af⟩) (block_lt h1)).trans h1;have g2:=(hb4.cell (p:=⟨w.heap.size+1+1,0,af⟩) (block_lt h2)).trans h2;have g3:=(hb4.frozen (p:=⟨w.heap.size+1+1,0,af⟩) (block_lt h2)).trans h3;have qU:=aj hb4;clear hb4 h1 h2 h3 b0 b1 b2 b3;by_cases hv0:v=0
  · subst hv0
    gi_wp2
    exact⟨EE qU.out,Kp.of_below qU.out eY.out.size,⟨g1,g2,g3,IC.out,au H5.out qU.out.size⟩,eY.out.trans (qU.out.mono eY.out.size)⟩
  · have t0:(v==0)=false:=beq_eq_false_iff_ne.2 hv0
    gi_wp2
    refine⟨(EE qU.out).trans ((KeepsOthers.setCell _ _ _).from _),⟨rfl,v,hv0,IC.out,?_⟩,pK (eY.out.trans (qU.out.mono eY.out.size)) (by omega) _⟩;exact World.cell?_setCell_same' _ _ _ (by rw[g2];rfl)
 case done=>
  rintro D' ys W hD hys ⟨⟨h1,h2,h3,h4,h5⟩,hB⟩ hK;have HV:=aj (show bad cc (pre (.mk o s nn kl))=0 by rw[← hys];exact h4)
  gi_wp2
  have hK':=(KeepsOthers.setCell W ⟨w.heap.size+1+1,0,af⟩ (.int .i64 0)).same D' _ hK rfl;refine⟨by simp,.inl ⟨_,_,rfl,run_takeDeferred hK',?_⟩⟩;have sD:=cell_kept (World.cell?_setCell_same' W ⟨w.heap.size+1+1,0,af⟩ (.int .i64 0) (by rw[h2];rfl)) (grownBy_putObj' _ D' (.deferred af)) (fun r e=>by cases e;exact⟨_,hK',rfl⟩);refine⟨.int .i64 0,?_,by rw[HV.out],(pK hB (by omega) _).trans (belowK_b (w:=w) (ag _) _ D' _ _ (by omega) hK' rfl rfl)⟩;simp[results,Tryz.f54,go_sem,sD]
 case stop=>
  rintro D' c' ps W hD hps ⟨⟨rfl,v,hv0,hbv,hr⟩,hB⟩ hK;have HV:=aj (show bad cc (pre (.mk o s nn kl))=v by
   obtain⟨r,hr⟩:=hps;rw[← hr,ZH (by rw[hbv];exact hv0),hbv])
  gi_wp2
  refine⟨by simp,.inl ⟨_,_,rfl,run_takeDeferred hK,?_⟩⟩;have sD:=cell_kept hr (grownBy_putObj' _ D' (.deferred af)) (fun r e=>by cases e;exact⟨_,hK,rfl⟩);refine⟨.int .i64 v,?_,by rw[HV.out],hB.trans (belowK_b (w:=w) (ag _) W D' _ _ (by omega) hK rfl rfl)⟩;simp[results,Tryz.f54,go_sem,sD]
theorem pO (e:Ex) (p:Option Addr) (m c:Nat) (w:ah) (h:In w e p m) (hs:Sz e) (hc:cnt e<=1000000):ai ae 25 #[.agg #[.int .i64 e.o,.string e.s,.int .i64 e.n,.slice p m c]] w (Gives (.int .i64 (iy false e)) w):=by
 have H:=aj (fun W hi=>ake false e p m c W hi hs hc);have HH:=aj h;obtain⟨v,hv⟩:∃v,iy false e=v:=⟨_,rfl⟩
 rw[hv] at H ⊢;obtain⟨o,s,nn,kl⟩:=e;simp only[Ex.o,Ex.s,Ex.n] at H ⊢;clear h hs hc hv;go_enter Tryz.func25,Tryz.ntmps25;go_wp2_with fail;refine(H.out _ (HH.out.on bl)).mono ?_;rintro e w1 ⟨rfl,hb1⟩;go_wp2_with fail;go_ret;exact⟨rfl,bl⟩
end Ex
namespace Sm
open Go.RowKit Go.Shelf Go.Sort
open Ex (Nm FT)
attribute [local go_sem] Oper.semAt_some
attribute [local go_sem] cs0 cs1 cs2 wU wV wW wX wY wZ w_ wJ wK wL wM wN wO wP wQ wR wS wT
set_option maxHeartbeats 8000000
theorem dK.own {β:Type} (g:Nat) (x:St) (P:Pl):Own (fun(_:β) W=>dK W g x P):=fun _ A B row hs hg hr=>by
 refine(hg.block g hs.lt (fun e=>?_)).trans hs;obtain⟨o,ho,hc⟩:=hr g e.symm;rw[show A.heap[g]?=_ from hs] at ho;cases ho
 cases hc
theorem Kp.app {n₀ T B:Nat} {W w1:ah} {v v':Value} {l:List Nm} {tmp:Obj} (hn:n₀<=W.heap.size) (hB:n₀<=B) (hT:B<T) (hrow:FT n₀ W v l) (hgrow:(W.alloc tmp).grownBy w1 v.ownBlock) (hbel:ak n₀ W (w1.setCell ⟨B,0,af⟩ v')):Kp n₀ T W (w1.setCell ⟨B,0,af⟩ v'):=
 ⟨hbel, fun k c fr hk hc => by
   have hkl:=(Array.getElem?_eq_some_iff.1 hc).1;rw[(grownBy_setCell' w1 B v').block k (Nat.lt_of_lt_of_le hkl (au (by simp) hgrow.size)) (fun e=>by cases e;omega)];rw[hgrow.block k (by simp;omega) (fun e=>by
    rcases hrow.2 with⟨rfl,_⟩|⟨g',cap,cur,rfl,_,hgb,_⟩
    · simp[Value.ownBlock] at e
    · obtain rfl:g'=k:=by simpa [Value.ownBlock] using e.symm
      rw[hgb] at hc
      cases hc)]
   exact(Below.heap_alloc W tmp k hkl).trans hc⟩
end Sm
namespace Sm
open Go.RowKit
open Ex (Ex In Sz Gives iy oG)
attribute [local go_sem] cs0 cs1 cs2 wU wV wW wX wY wZ w_ wJ wK wL wM wN wO wP wQ wR wS wT
set_option maxHeartbeats 2000000
abbrev yP (o:Int):Value:=.agg #[.bool (uN o),.bool (uO o),.bool (uE o),.bool (uF o),.bool (uA o),.bool (uD o),.bool (uG o),.bool (uB o),.bool (uL o)]
theorem ao9 (o:Int):(o=1∨o=2∨o=3∨o=4∨o=5∨o=6∨o=7∨o=8∨o=9∨o=10∨o=11∨o=12∨o=13∨o=14∨o=15∨o=16∨o=17∨o=18)∨(o<1∨18<o):=by omega
theorem jH {p:Prop} (h:p:=by omega):p:=h
set_option maxRecDepth 100000 in
theorem WX (o:Int) (w:ah):ai ae 84 #[.int .i64 o] w (Gives (.tuple #[yP o,.bool (kn o)]) w):=by
 rcases ao9 o with h|h
 · rcases h with rfl|rfl|rfl|rfl|rfl|rfl|rfl|rfl|rfl|rfl|rfl|rfl|rfl|rfl|rfl|rfl|rfl|rfl
   all_goals
    go_enter Tryz.func84,Tryz.ntmps84;go_wp2_with fail;exact bodyPost_ret (v:=.tuple #[yP _,.bool (kn _)]) (by simp[results,Tryz.results84,go_sem,yP,uN,uO,uE,uF,uA,uD,uG,uB,uL,kn]) rfl ⟨rfl,bl⟩
 · have hk:kn o=false:=by unfold kn;rcases h with h|h <;> simp <;> omega
   have e0:yP o=.agg #[.bool false,.bool false,.bool false,.bool false,.bool false,.bool false,.bool false,.bool false,.bool false]:=by
    have a1:uN o=false:=by unfold uN;exact decide_eq_false jH
    have a2:uO o=false:=by unfold uO;exact decide_eq_false jH
    have a3:uE o=false:=by unfold uE;exact decide_eq_false jH
    have a4:uF o=false:=by unfold uF;exact decide_eq_false jH
    have a5:uA o=false:=by unfold uA;exact decide_eq_false jH
    have a6:uD o=false:=by unfold uD;exact decide_eq_false jH
    have a7:uG o=false:=by unfold uG;exact decide_eq_false jH
    have a8:uB o=false:=by unfold uB;exact decide_eq_false jH
    have a9:uL o=false:=by unfold uL;exact decide_eq_false jH
    show Value.agg _=_
    rw[a1,a2,a3,a4,a5,a6,a7,a8,a9]
   rw[hk,e0];have u1:(o==1)=false:=beq_eq_false_iff_ne.2 jH;have u2:(o==2)=false:=beq_eq_false_iff_ne.2 jH;have u3:(o==3)=false:=beq_eq_false_iff_ne.2 jH;have u4:(o==4)=false:=beq_eq_false_iff_ne.2 jH;have u5:(o==5)=false:=beq_eq_false_iff_ne.2 jH;have u6:(o==6)=false:=beq_eq_false_iff_ne.2 jH;have u7:(o==7)=false:=beq_eq_false_iff_ne.2 jH;have u8:(o==8)=false:=beq_eq_false_iff_ne.2 jH;have u9:(o==9)=false:=beq_eq_false_iff_ne.2 jH;have iP:(o==10)=false:=beq_eq_false_iff_ne.2 jH;have jU:(o==11)=false:=beq_eq_false_iff_ne.2 jH;have mq:(o==12)=false:=beq_eq_false_iff_ne.2 jH;have lg:(o==13)=false:=beq_eq_false_iff_ne.2 jH;have nS:(o==14)=false:=beq_eq_false_iff_ne.2 jH;have nT:(o==15)=false:=beq_eq_false_iff_ne.2 jH;have u16:(o==16)=false:=beq_eq_false_iff_ne.2 jH;have nU:(o==17)=false:=beq_eq_false_iff_ne.2 jH;have nV:(o==18)=false:=beq_eq_false_iff_ne.2 jH;clear h hk e0;go_enter Tryz.func84,Tryz.ntmps84;go_wp2_with fail;exact bodyPost_ret (v:=.tuple #[.agg #[.bool false,.bool false,.bool false,.bool false,.bool false,.bool false,.bool false,.bool false,.bool false],.bool false]) (by simp[results,Tryz.results84,go_sem]) rfl ⟨rfl,bl⟩
theorem QO {p:Prop} (h:p:=by
 go_wp2_with fail;refine((C).out _ bl).mono ?_;rintro e w1 ⟨rfl,hb1⟩;go_wp2_with fail;go_ret;exact⟨rfl,bl⟩
 ):p:=h
set_option maxRecDepth 100000 in
theorem afy (u:Bool) (s:ByteArray) (v:Int) (w:ah) (C:Hid (u=true->∀W,ak w.heap.size w W->ai ae 35 #[.string s] W (Gives (.int .i64 v) W))):ai ae 86 #[.bool u,.func (.func 35) #[] #[],.string s] w (Gives (.int .i64 (onE u v)) w):=by
 cases u with
 | false=>
  clear C;go_enter Tryz.func86,Tryz.ntmps86;go_wp2_with fail;go_ret;exact⟨rfl,bl⟩
 | true=>
  replace C:=aj ((C).out rfl);go_enter Tryz.func86,Tryz.ntmps86;exact QO
set_option maxRecDepth 100000 in
theorem afx (u:Bool) (e:Ex) (p:Option Addr) (m c:Nat) (v:Int) (w:ah) (C:Hid (u=true->∀W,ak w.heap.size w W->ai ae 25 #[.agg #[.int .i64 e.o,.string e.s,.int .i64 e.n,.slice p m c]] W (Gives (.int .i64 v) W))):ai ae 87 #[.bool u,.func (.func 25) #[] #[],.agg #[.int .i64 e.o,.string e.s,.int .i64 e.n,.slice p m c]] w (Gives (.int .i64 (onE u v)) w):=by
 cases u with
 | false=>
  clear C;go_enter Tryz.func87,Tryz.ntmps87;go_wp2_with fail;go_ret;exact⟨rfl,bl⟩
 | true=>
  replace C:=aj ((C).out rfl);go_enter Tryz.func87,Tryz.ntmps87;exact QO
set_option maxRecDepth 100000 in
theorem asM (u:Bool) (p:Option Addr) (m c:Nat) (v:Int) (w:ah) (C:Hid (u=true->∀W,ak w.heap.size w W->ai ae 89 #[.slice p m c] W (Gives (.int .i64 v) W))):ai ae 88 #[.bool u,.func (.func 89) #[] #[],.slice p m c] w (Gives (.int .i64 (onE u v)) w):=by
 cases u with
 | false=>
  clear C;go_enter Tryz.func88,Tryz.ntmps88;go_wp2_with fail;go_ret;exact⟨rfl,bl⟩
 | true=>
  replace C:=aj ((C).out rfl);go_enter Tryz.func88,Tryz.ntmps88;exact QO
set_option maxRecDepth 100000 in
theorem asN (u:Bool) (x:St) (P:Pl) (v:Int) (w:ah) (C:Hid (u=true->∀W,ak w.heap.size w W->ai ae 91 #[.agg #[.int .i64 x.di.op,.int .i64 x.di.a,.int .i64 x.di.b,.int .i64 x.di.n,.slice P.vp P.vm P.vc,.slice P.wp P.wm P.wc]] W (Gives (.int .i64 v) W))):ai ae 90 #[.bool u,.func (.func 91) #[] #[],.agg #[.int .i64 x.di.op,.int .i64 x.di.a,.int .i64 x.di.b,.int .i64 x.di.n,.slice P.vp P.vm P.vc,.slice P.wp P.wm P.wc]] w (Gives (.int .i64 (onE u v)) w):=by
 cases u with
 | false=>
  clear C;go_enter Tryz.func90,Tryz.ntmps90;go_wp2_with fail;go_ret;exact⟨rfl,bl⟩
 | true=>
  replace C:=aj ((C).out rfl);go_enter Tryz.func90,Tryz.ntmps90;exact QO
def ic:List Int->Int
 | []=>0
 | x::t=>dR x (ic t)
theorem Pf:∀a b:List Int,ic (a++b)=dR (ic a) (ic b)
 | [],b=>lJ.symm
 | x::t,b=>by rw[List.cons_append,ic,ic,Pf t b,CY]
set_option maxRecDepth 100000 in
theorem p_ (l:List Int) (b n c:Nat) (w:ah) (hl:l.length=n) (hn:n<=1000000) (hc:Hid (∀i,(h:i<l.length)->w.cell? ⟨b,i,af⟩=av (.int .i64 l[i]))):ai ae 34 #[.slice (av ⟨b,0,af⟩) n c] w fun e w'=>e=.returned (.int .i64 (ic l))/\w=w':=by
 have HL:=aj hl;clear hl;go_enter Tryz.func34,Tryz.ntmps34;go_wp2_with fail;go_loop [8] (fun i=>∃k:Nat,k<=n/\i=.int .i64 k/\Hid (ic (l.take k)=0)) (fun i=>n-(intOf i).toNat)
 case atStart=>exact⟨0,Nat.zero_le _,rfl,aj rfl⟩
 case round=>
  obtain⟨k,hk,rfl,HA⟩:=hrel;rcases Nat.lt_or_ge k n with h|h
  · have hkl:k<l.length:=by rw[HL.out];exact h
    have e1:=hc.out k hkl;have e0:w.cell? ⟨b,0+k,af⟩=av (.int .i64 l[k]):=by rw[Nat.zero_add];exact e1
    have c1:(0:Int)<=(k:Int):=by omega
    have c2:(k:Int)<(n:Int):=by omega
    have hgx:l[k]?=av l[k]:=List.getElem?_eq_getElem hkl;obtain⟨x,hx⟩:∃x,l[k]=x:=⟨_,rfl⟩
    rw[hx] at e1 e0 hgx;by_cases hz:x=0
    · have H:Hid (ic (l.take (k+1))=0):=aj (by rw[Ex.take_one hgx,Pf,HA.out,lJ,hz];rfl);subst hz;clear hgx hx hkl;go_wp2_with fail;go_round
      case rel=>exact⟨k+1,by omega,by go_num,H⟩
      case measure=>simp[intOf];omega
    · have hz2:(x != 0)=true:=by rw[bne_iff_ne];exact hz
      have H:Hid (ic l=x):=aj (by
       have h2:=Pf (l.take (k+1)) (l.drop (k+1));rw[List.take_append_drop,Ex.take_one hgx,Pf,HA.out,lJ] at h2;rw[h2]
       show dR (dR x 0) _=x
       rw[um,uk hz])
      clear hgx hx hkl hz;go_wp2_with fail;go_ret;exact⟨oG H.out.symm,rfl⟩
  · obtain rfl:n=k:=by omega
    have H:Hid (ic l=0):=aj (by have h1:=HA.out;rwa [List.take_of_length_le (by rw[HL.out];exact ag _)] at h1);go_wp2_with fail;go_ret;exact⟨oG H.out.symm,rfl⟩
theorem asW {e:Ex} {v:Int} (h:iy false e=v) (p:Option Addr) (m c:Nat) (w:ah) (hi:In w e p m) (hs:Sz e) (hc:Ex.cnt e<=1000000):ai ae 25 #[.agg #[.int .i64 e.o,.string e.s,.int .i64 e.n,.slice p m c]] w (Gives (.int .i64 v) w):=by rw[← h];exact Ex.pO e p m c w hi hs hc
set_option maxRecDepth 100000 in
theorem aiK (l:List Ex) (p:Option Addr) (m c:Nat) (w:ah) (h:In w (.mk 0 nE 0 l) p m) (hs:∀y∈l,Sz y/\Ex.cnt y<=1000000):ai ae 89 #[.slice p m c] w (Gives (.int .i64 (Am l)) w):=by
 have HH:=aj h;have HS:=aj hs;obtain⟨hl,hm⟩:=h.len;have HL:=aj hl;clear h hs hl;by_cases h6:6<m
 · rw[show Am l=6 by unfold Am;rw[HL.out,if_pos h6]];have t1:decide ((6:Int)<(m:Int))=true:=decide_eq_true jH;have t2:(6:Int)<(m:Int):=by omega
   go_enter Tryz.func89,Tryz.ntmps89;go_wp2_with fail;go_ret;exact⟨rfl,bl⟩
 rw[show Am l=oh l by unfold Am;rw[HL.out,if_neg h6]];have t1:decide ((6:Int)<(m:Int))=false:=decide_eq_false jH;have t2:(m:Int)<=6:=by omega
 go_enter Tryz.func89,Tryz.ntmps89;go_wp2_with fail;go_loopw [11] (fun i wr=>∃k:Nat,k<=m/\Hid (oh (l.take k)=0)/\i=.int .i64 (k:Nat)/\Hid (ak w.heap.size w wr)) (fun i _=>m-(intOf i).toNat)
 case atStart=>exact⟨0,Nat.zero_le _,aj rfl,rfl,aj bl⟩
 case round=>
  obtain⟨k,hk,HT0,rfl,HW⟩:=hrel;have k0:(0:Int)<=(k:Int):=by omega
  rcases Nat.lt_or_ge k m with h|h
  · have k1:(k:Int)<(m:Int):=by omega
    obtain⟨b,o',rfl,-,hG,hcell⟩:=HH.out.kids jH;have hkl:k<l.length:=by rw[HL.out];omega
    obtain⟨q,j,c',hc4,kL⟩:=hcell.out k hkl;have hmem:l[k]∈l:=List.getElem_mem hkl;have hgx:l[k]?=av l[k]:=List.getElem?_eq_getElem hkl;obtain⟨x,hx⟩:∃x,l[k]=x:=⟨_,rfl⟩
    rw[hx] at hc4 kL hmem hgx;obtain⟨e0,e1,e2,e3⟩:=hc4.on HW.out hG;have hbr:b<wr.heap.size:=Nat.lt_of_lt_of_le hG HW.out.size;have Ad:=aj kL;obtain⟨v,hv⟩:∃v,iy false x=v:=⟨_,rfl⟩
    have HC:=aj (fun W hi=>asW hv q j c' W hi (HS.out x hmem).1 (HS.out x hmem).2);have HTK:=aj (ZG hgx);have HST:=aj (fun(h1:¬iy false x=0)=>aiS hgx HT0.out h1);have HV:=aj hv;clear hcell hc4 kL hx hmem hgx hkl hv;go_wp2_with fail;refine(HC.out _ (Ad.out.on (by have bU:=HW.out;exact bl))).mono ?_;rintro e w2 ⟨rfl,hb2⟩;have HW2:Hid (ak w.heap.size w w2):=aj (by have bU:=HW.out;exact bl);clear hb2 HC;by_cases hz:v=0
    · have HR:Hid (oh (l.take (k+1))=0):=aj (by rw[HTK.out,HT0.out,lJ,HV.out,hz]);subst hz;go_wp2_with fail;go_roundw
      case rel=>exact⟨k+1,by omega,HR,by go_num,HW2⟩
      case measure=>simp[intOf];omega
    · have HR:Hid (oh l=v):=aj (by rw[HST.out (by rw[HV.out];exact hz),HV.out]);have z1:(v != 0)=true:=bne_iff_ne.2 hz;clear hz;go_wp2_with fail;go_ret;exact⟨by rw[HR.out];rfl,HW2.out⟩
  · obtain rfl:m=k:=by omega
    have HR:Hid (oh l=0):=aj (by have h1:=HT0.out;rwa [List.take_of_length_le (by rw[HL.out];exact ag _)] at h1);go_wp2_with fail;go_ret;exact⟨by rw[HR.out];rfl,HW.out⟩
end Sm
end Go.Proofs.YtbgodajefaahdaaGreatDoor
