/-
  Parts of this proof: The contracts of the small functions. The contract of Keyword. The contract of Check. The scope of a check in memory, and the contract.
-/
import Derived.Test.YtbgodajefaahdaaGreatDoorYPBase
open Go.Proofs.Tryz renaming prog->ae
open Go renaming World->af,Calls->ag
set_option linter.unusedVariables false
open Go.Lib (hid)
namespace Go.Proofs.YtbgodajefaahdaaGreatDoor
namespace Md
open Go.RowKit
open Na (bs jO)
set_option maxHeartbeats 2000000
def qA (v:Value) (w:af) (e:Ending) (w':af):Prop:=e=.returned v/\w=w'
theorem rP {p:Prop} (h:p:=by
 go_wp2_with fail;go_ret;exact⟨rfl,rfl⟩
 ):p:=h
theorem Nh (lo n hi:Int) (w:af):ag ae 78 #[.int .i64 lo,.int .i64 n,.int .i64 hi] w (qA (.bool (iX lo n hi)) w):=by
 unfold iX;by_cases h1:lo<=n
 · by_cases h2:n<=hi
   · have d1:=decide_eq_true h1;have d2:=decide_eq_true h2;rw[d1,d2];go_enter Tryz.func78,Tryz.ntmps78;exact rP
   · have d1:=decide_eq_true h1;have d2:=decide_eq_false h2;rw[d1,d2];go_enter Tryz.func78,Tryz.ntmps78;exact rP
 · have d1:=decide_eq_false h1;rw[d1];go_enter Tryz.func78,Tryz.ntmps78;exact rP
theorem Eb {lo n hi:Int} {b:Bool} (h:iX lo n hi=b) (w:af):ag ae 78 #[.int .i64 lo,.int .i64 n,.int .i64 hi] w (qA (.bool b) w):=by rw[← h];exact Nh lo n hi w
theorem acL (n:Int) (w:af):ag ae 108 #[.int .i64 n] w (qA (.bool (uf n)) w):=by
 go_enter Tryz.func108,Tryz.ntmps108;go_wp2_with fail;refine(Nh 0 n 1000000000 w).mono ?_;rintro e w1 ⟨rfl,rfl⟩;exact rP
theorem acN (n:Int) (w:af):ag ae 158 #[.int .i64 n] w (qA (.bool (JX n)) w):=by
 go_enter Tryz.func158,Tryz.ntmps158;go_wp2_with fail;refine(Nh 0 n 1000 w).mono ?_;rintro e w1 ⟨rfl,rfl⟩;exact rP
theorem WO (t:Int):t=1∨t=2∨t=3∨((t==1)=false/\(t==2)=false/\(t==3)=false/\¬t=1/\¬t=2/\¬t=3):=by
 by_cases h1:t=1
 · exact .inl h1
 by_cases h2:t=2
 · exact .inr (.inl h2)
 by_cases h3:t=3
 · exact .inr (.inr (.inl h3))
 exact .inr (.inr (.inr ⟨beq_eq_false_iff_ne.2 h1,beq_eq_false_iff_ne.2 h2,beq_eq_false_iff_ne.2 h3,h1,h2,h3⟩))
theorem acM (t:Int) (w:af):ag ae 70 #[.int .i64 t] w (qA (.bool (typ t)) w):=by
 rcases WO t with rfl|rfl|rfl|⟨e1,e2,e3,h1,h2,h3⟩
 · go_enter Tryz.func70,Tryz.ntmps70;exact rP
 · go_enter Tryz.func70,Tryz.ntmps70;exact rP
 · go_enter Tryz.func70,Tryz.ntmps70;exact rP
 · have hz:typ t=false:=by unfold typ;rw[decide_eq_false h1,decide_eq_false h2,decide_eq_false h3];rfl
   rw[hz];clear hz h1 h2 h3;go_enter Tryz.func70,Tryz.ntmps70;exact rP
theorem EB (n:Int) (w:af):ag ae 107 #[.int .i64 n] w (qA (.bool (iX (-1000000000000) n 1000000000000)) w):=by
 unfold iX;by_cases h1:-1000000000000<=n
 · by_cases h2:n<=1000000000000
   · have d1:=decide_eq_true h1;have d2:=decide_eq_true h2;rw[d1,d2];go_enter Tryz.func107,Tryz.ntmps107;exact rP
   · have d1:=decide_eq_true h1;have d2:=decide_eq_false h2;rw[d1,d2];go_enter Tryz.func107,Tryz.ntmps107;exact rP
 · have d1:=decide_eq_false h1;rw[d1];go_enter Tryz.func107,Tryz.ntmps107;exact rP
theorem abn (t n:Int) (w:af):ag ae 71 #[.int .i64 t,.int .i64 n] w (qA (.bool (fits t n)) w):=by
 rcases WO t with rfl|rfl|rfl|⟨e1,e2,e3,h1,h2,h3⟩
 · go_enter Tryz.func71,Tryz.ntmps71;go_wp2_with fail;refine(EB n w).mono ?_;rintro e w1 ⟨rfl,rfl⟩;exact rP
 · go_enter Tryz.func71,Tryz.ntmps71;go_wp2_with fail;refine(Nh 0 n 1 w).mono ?_;rintro e w1 ⟨rfl,rfl⟩;exact rP
 · go_enter Tryz.func71,Tryz.ntmps71;go_wp2_with fail;refine(acL n w).mono ?_;rintro e w1 ⟨rfl,rfl⟩;exact rP
 · have hz:fits t n=false:=by unfold fits;rw[if_neg h1,if_neg h2,if_neg h3]
   rw[hz];clear hz h1 h2 h3;go_enter Tryz.func71,Tryz.ntmps71;exact rP
theorem clash {x:Bool} (h:x=true) (g:x=false):False:=by rw[h] at g;cases g
theorem ank {s:ByteArray} {c:List UInt8} (h:(s.toList==c)=true):s=⟨c.toArray⟩:=by
 have g:=eq_of_beq h;rw[Lib.toList_data] at g;exact jO (by show bs s=_;unfold bs;simpa using g)
theorem EK {s:ByteArray} {c:List UInt8} (h:(s.toList==c)=false):¬s=⟨c.toArray⟩:=by
 rintro rfl;rw[beq_eq_false_iff_ne] at h;exact h (by rw[Lib.toList_data])
theorem akA {s:ByteArray} (h1:¬s=Wy) (h2:¬s=WB) (h3:¬s=WE) (h4:¬s=WH) (h5:¬s=WC) (h6:¬s=WG) (h7:¬s=Wz):Gm s=Sm.nE:=by
 unfold Gm;rw[if_neg (by simp[h1,h2,h3]),if_neg (by simp[h4,h5,h6]),if_neg h7]
theorem zX {p:Prop} (h:p:=by assumption):p:=h
set_option maxRecDepth 100000 in
theorem akG (s:ByteArray) (w:af):ag ae 201 #[.string s] w (qA (.string (Gm s)) w):=by
 go_enter Tryz.func201,Tryz.ntmps201;go_wp2_with fail
 all_goals first
  | exact(clash zX zX).elim
  | (go_ret;refine⟨?_,rfl⟩;rw[ank (s:=s) zX];rfl)
  | (go_ret;refine⟨?_,rfl⟩;have n1:¬s=Wy:=EK zX;have n2:¬s=WB:=EK zX;have n3:¬s=WE:=EK zX;have n4:¬s=WH:=EK zX;have n5:¬s=WC:=EK zX;have n6:¬s=WG:=EK zX;have n7:¬s=Wz:=EK zX;rw[akA n1 n2 n3 n4 n5 n6 n7];rfl)
end Md
namespace Na
open Go.RowKit
set_option maxHeartbeats 4000000
theorem clash {x:Bool} (h:x=true) (g:x=false):False:=by rw[h] at g;cases g
theorem Kb {s:ByteArray} {c:List UInt8} (h:(s.toList==c)=true) (hc:OT.contains c=true):true=lH (bs s):=by
 have e:bs s=c:=by
  have g:=eq_of_beq h;rw[Lib.toList_data] at g;exact g
 unfold lH;rw[e,hc]
theorem anR (s:ByteArray):lH (bs s)=OT.any fun c=>s.toList==c:=by
 unfold lH;simp only[Lib.toList_data];rw[List.contains_eq_any_beq]
set_option maxRecDepth 100000 in
theorem UC (s:ByteArray) (w:af):ag ae 67 #[.string s] w fun e w'=>e=.returned (.bool (lH (bs s)))/\w'=w:=by
 go_enter Tryz.func67,Tryz.ntmps67;go_wp2_with fail
 all_goals first
  | exact(clash (by assumption) (by assumption)).elim
  | (go_ret;exact⟨iB (Kb (by assumption) (by decide)),rfl⟩)
  | (go_ret;exact⟨iB (by rw[anR];simp only[OT,List.any_cons,List.any_nil,Bool.or_false, *]),rfl⟩)
theorem adN {s:ByteArray} {b:Bool} (h:lH (bs s)=b) (w:af):ag ae 67 #[.string s] w fun e w'=>e=.returned (.bool b)/\w'=w:=by rw[← h];exact UC s w
end Na
namespace Na
open Go.RowKit
set_option maxHeartbeats 2000000
theorem Nj (s:ByteArray) (a b:Nat):bs (s.extract a b)=((bs s).drop a).take (b-a):=by
 show(s.extract a b).data.toList=_
 rw[ByteArray.data_extract,Array.toList_extract]
theorem akH (s:ByteArray) (h:1<=s.size):(s.extract 1 s.size).size+1=s.size:=by rw[ByteArray.size_extract];omega
theorem aja (s:ByteArray):bs (s.extract 1 s.size)=(bs s).drop 1:=by
 rw[Nj,List.take_of_length_le (by rw[List.length_drop,eG];exact Nat.le_refl _)]
def Good (l:List UInt8) (k:Nat):Prop:=∀j,j<k->(h:j<l.length)->Cs l[j]=true
theorem amT {l:List UInt8} (h0:0<l.length) (h:ko l[0]=true):Good l 1:=by
 intro j hj hl;obtain rfl:j=0:=by omega
 exact abT h
theorem good_step {l:List UInt8} {k:Nat} (hk:k<l.length) (h:Good l k) (e:Cs l[k]=true):Good l (k+1):=by
 intro j hj hl;rcases Nat.lt_or_ge j k with h1|h1
 · exact h j h1 hl
 · obtain rfl:j=k:=by omega
   exact e
theorem amQ {l:List UInt8} {k:Nat} (h:Good l k) (hk:l.length=k) (h1:1<=l.length) (h2:l.length<=24) (h3:ko (l[0])=true) (h4:lH l=false):iK l=0:=
 all_good h1 h2 h3 h4 fun j hj=>h j (by omega) hj
theorem XI {p:Prop} (h:p:=by
 rintro e w3 ⟨rfl,rfl⟩;go_wp2_with fail;go_round
 case rel=>exact⟨k+1,by omega,by go_num,BS⟩
 case measure=>simp[intOf];omega
 ):p:=h
theorem Qx {p:Prop} (h:p:=by
 go_wp2_with fail;go_ret;exact⟨oG HR.out.symm,Below.refl _ _⟩
 ):p:=h
set_option maxRecDepth 100000 in
theorem pO (s:ByteArray) (w:af) (hs:s.size<=9223372036854775807):ag ae 35 #[.string s] w (Gives (.int .i64 (iK (bs s))) w):=by
 have hs':(s.size:Int)<=9223372036854775807:=by omega
 by_cases h1:s.size<1
 · have t1:decide ((s.size:Int)<1)=true:=decide_eq_true (by omega);have HR:=hid (aiY (l:=bs s) (by rw[eG];exact h1));go_enter Tryz.func35,Tryz.ntmps35;exact Qx
 have t1:decide ((s.size:Int)<1)=false:=decide_eq_false (by omega);by_cases h2:24<s.size
 · have t2:decide (24<(s.size:Int))=true:=decide_eq_true (by omega);have HR:=hid (aiX (l:=bs s) (by rw[eG];exact h2));go_enter Tryz.func35,Tryz.ntmps35;exact Qx
 have t2:decide (24<(s.size:Int))=false:=decide_eq_false (by omega);have c0:(0:Int)<(s.size:Int):=by omega
 have hs0:0<s.size:=by omega
 by_cases h3:mO ((s[0]).toNat:Int)=true
 · by_cases h4:lH (bs s)=true
   · have HR:=hid (aiW h4);go_enter Tryz.func35,Tryz.ntmps35;go_wp2_with fail;refine(zw h3 w).mono ?_;rintro e w1 ⟨rfl,rfl⟩;go_wp2_with fail;refine(adN h4 w1).mono ?_;rintro e w1 ⟨rfl,rfl⟩;exact Qx
   · have h4':lH (bs s)=false:=by simpa using h4
     go_enter Tryz.func35,Tryz.ntmps35;go_wp2_with fail;refine(zw h3 w).mono ?_;rintro e w1 ⟨rfl,rfl⟩;go_wp2_with fail;refine(adN h4' w1).mono ?_;rintro e w1 ⟨rfl,rfl⟩;have c1:(1:Int)<=(s.size:Int):=by omega
     have HL:Hid (1<=(bs s).length/\(bs s).length<=24):=hid (by rw[eG];omega);have HC:=hid (show ko (bs s)[0]=true from h3);have HK:=hid h4';have HM:=akH s (by omega);have HT:=aja s;obtain⟨c,w2,q1,hq1,hb2⟩:=ajb (s.extract 1 s.size) (by omega) w1;obtain⟨S,hS⟩:∃S,s.extract 1 s.size=S:=⟨_,rfl⟩
     rw[hS] at HM HT hq1;rw[show(s.extract 1 s.size).size=S.size by rw[hS]] at q1;obtain⟨M,eM⟩:∃M,S.size=M:=⟨_,rfl⟩
     rw[eM] at HM hq1 q1;have hM:(M:Int)<=24:=by omega
     have HQ:=hid hq1;have HT':=hid HT;have MB:=hid HM;have YC:=hid (eG s);clear HT hq1 eM HM hS h3 h4 h4';go_wp2_with fail;go_loop [27] (fun i=>∃k:Nat,k<=M/\i=.int .i64 (k:Nat)/\Hid (Good (bs s) (k+1))) (fun i=>M-(intOf i).toNat)
     case atStart=>exact⟨0,Nat.zero_le _,rfl,hid (amT HL.out.1 HC.out)⟩
     case round=>
      obtain⟨k,hk,rfl,HG⟩:=hrel;have d1:(0:Int)<=(k:Int):=by omega
      rcases Nat.lt_or_ge k M with h|h
      · have hks:k+1<(bs s).length:=by rw[YC.out,← MB.out];omega
        obtain⟨hlen,-,h0|⟨b,o,hp,hb,hcell⟩⟩:=HQ.out
        · omega
        · cases hp
          have hkl:k<(bs S).length:=by omega
          have e1:=hcell.out k hkl;have e2:(bs S)[k]=(bs s)[k+1]:=by simp only[HT'.out,List.getElem_drop,Nat.add_comm]
          rw[e2,Nat.zero_add] at e1;have d2:(k:Int)<(M:Int):=by omega
          have HY:=hid (fun h=>good_step hks HG.out h);have HN:=hid (fun h=>aiU hks h);have HD:Hid (Cs (bs s)[k+1]=zt (((bs s)[k+1]).toNat:Int)):=hid rfl;obtain⟨x,hx⟩:∃x:Int,(((bs s)[k+1]).toNat:Int)=x:=⟨_,rfl⟩
          rw[hx] at e1 HD;rw[HD.out] at HY HN;clear hcell e2 hlen hkl hks hx HD;by_cases g1:mO x=true
          · have BS:=hid (HY.out (abT g1));clear HY HN;go_wp2_with fail;refine(zw g1 w2).mono ?_;exact XI
          have g1':mO x=false:=by simpa using g1
          by_cases g2:nk x=true
          · have BS:=hid (HY.out (amP g2));clear HY HN g1;go_wp2_with fail;refine(zw g1' w2).mono ?_;rintro e w3 ⟨rfl,rfl⟩;go_wp2_with fail;refine(Gq g2 w3).mono ?_;exact XI
          have g2':nk x=false:=by simpa using g2
          by_cases g3:x=95
          · have BS:=hid (HY.out (amR g3));subst g3;clear HY HN g1 g2;go_wp2_with fail;refine(zw g1' w2).mono ?_;rintro e w3 ⟨rfl,rfl⟩;go_wp2_with fail;refine(Gq g2' w3).mono ?_;exact XI
          · have HR:=hid (HN.out (amS g1' g2' g3));have q3:(x==95)=false:=beq_eq_false_iff_ne.2 g3;clear HY HN g1 g2;go_wp2_with fail;refine(zw g1' w2).mono ?_;rintro e w3 ⟨rfl,rfl⟩;go_wp2_with fail;refine(Gq g2' w3).mono ?_;rintro e w3 ⟨rfl,rfl⟩;go_wp2_with fail;go_ret;exact⟨oG HR.out.symm,hb2⟩
      · obtain rfl:M=k:=by omega
        have HR:=hid (amQ HG.out (by rw[YC.out,MB.out]) HL.out.1 HL.out.2 HC.out HK.out);go_wp2_with fail;go_ret;exact⟨oG HR.out.symm,hb2⟩
 · have h3':mO ((s[0]).toNat:Int)=false:=by simpa using h3
   have HR:=hid (aiV (l:=bs s) (by rw[eG];exact hs0) h3');go_enter Tryz.func35,Tryz.ntmps35;go_wp2_with fail;refine(zw h3' w).mono ?_;rintro e w1 ⟨rfl,rfl⟩;exact Qx
end Na
namespace Md
open Go.RowKit Go.Maps
open Na (bs jO iK)
open Sm (uk lJ)
open Ex (Gives ji wF qB)
set_option maxHeartbeats 2000000
set_option maxRecDepth 100000
structure But (b:Nat) (a w:af):Prop where
 os:w.os=a.os
 tape:w.tape=a.tape
 output:w.output=a.output
 size:a.heap.size<=w.heap.size
 block:∀k,k<a.heap.size->k≠b->w.heap[k]?=a.heap[k]?
theorem But.of {b:Nat} {a w:af} (h:Below a.heap.size a w):But b a w:=⟨h.os,h.tape,h.output,h.size,fun k hk _=>h.block k hk⟩
theorem But.trans {b:Nat} {u v w:af} (h:But b u v) (g:But b v w):But b u w:=⟨g.os.trans h.os,g.tape.trans h.tape,g.output.trans h.output,Nat.le_trans h.size g.size,fun k hk hb=>(g.block k (Nat.lt_of_lt_of_le hk h.size) hb).trans (h.block k hk hb)⟩
theorem But.below {b B:Nat} {w0 a w:af} (h0:Below B w0 a) (h:But b a w) (hB:B<=b) (hs:B<=a.heap.size):Below B w0 w:=⟨h.os.trans h0.os,h.tape.trans h0.tape,h.output.trans h0.output,Nat.le_trans h0.size h.size,fun k hk=>(h.block k (by omega) (by omega)).trans (h0.block k hk)⟩
theorem But.then {b:Nat} {u v w:af} (h:But b u v) (g:Below v.heap.size v w):But b u w:=h.trans (But.of g)
theorem But.refl (b:Nat) (w:af):But b w w:=But.of (Below.refl _ _)
theorem But.alloc {b:Nat} {a w:af} {o:Obj} (h:But b a w):But b a (w.alloc o):=h.then (ji (Below.refl _ _))
theorem But.drew {b:Nat} {a w:af} (h:But b a w):But b a w.drew:=h.then (qB (Below.refl _ _))
theorem But.drewN {b n:Nat} {a w:af} (h:But b a w):But b a (w.drewN n):=h.then (wF (Below.refl _ _))
theorem bT.but {b g:Nat} {w w2:af} {t:TypeId} {c:Array Value} (hb:But b w w2) (hg:g≠b) (h:bT w g t c):bT w2 g t c:=h.keep (hb.block g h.lt hg)
theorem law:Keyed ae 9:=string_keyed Tryz.underlying9
theorem ahr (w:af):(zeroValue 4).run ae w=.ok (.bool false) w:=by kernel_rfl
theorem aet {H:Type} {v:Value} {z:DataW H×List MemPlace} (h:plainElem ae 4 v=some z):∃c,v=.bool c/\z=(.lit (.bool c),[]):=by
 unfold plainElem at h;rw[Tryz.underlying4] at h
 cases v <;> simp at h
 exact⟨_,rfl,h.symm⟩
def yu (x:ByteArray):Lit:=.string (bs x)
theorem anH {x y:ByteArray} (h:yu x=yu y):x=y:=by unfold yu at h;exact jO (Lit.string.inj h)
theorem anL (x:ByteArray):WideAt.IsKeyLit (yu x):=by unfold yu;simp[WideAt.IsKeyLit]
theorem abD {u z:DataW Unit} {k:Lit}:∀{acc:List Lit} {m:DataW Unit},k ∉ acc->(acc.foldl (fun m x=>m.put x u) m).atKey k z=m.atKey k z:=by
 intro acc
 induction acc with
 | nil=>intro m _;rfl
 | cons y r ih=>intro m hn;rw[List.foldl_cons,ih (fun hh=>hn (by simp[hh])),atKey_put_other (fun e=>hn (by simp[e]))]
theorem abC {u z:DataW Unit} {k:Lit}:∀{acc:List Lit} {m:DataW Unit},IsMap m->(∀x∈acc,WideAt.IsKeyLit x)->k∈acc->(acc.foldl (fun m x=>m.put x u) m).atKey k z=u
 | [],m,_,_,h=>by simp at h
 | x::t,m,hm,ha,h=>by
  rw[List.foldl_cons];by_cases g:k∈t
  · exact abC (hm.put x u) (fun y hy=>ha y (by simp[hy])) g
  · obtain rfl:k=x:=by rcases List.mem_cons.1 h with h|h;exact h;exact absurd h g
    have hk:=ha k (by simp);rw[abD g,atKey_put_same hm hk]
def Da (acc:List Lit):DataW Unit:=setOf (.lit (.bool true)) acc
theorem Yq (acc:List Lit) (k:Lit):(Da acc).put k (.lit (.bool true))=Da (acc++[k]):=by unfold Da;rw[setOf_snoc]
theorem Yp {acc:List Lit} {k:Lit} (ha:∀x∈acc,WideAt.IsKeyLit x) {c:Bool} (h:(Da acc).atKey k (.lit (.bool false))=.lit (.bool c)):c=true↔k∈acc:=by
 by_cases g:k∈acc
 · unfold Da setOf at h;rw[abC isMap_empty ha g] at h;injection h with h;injection h with h;exact⟨fun _=>g,fun _=>h.symm⟩
 · unfold Da setOf at h;rw[abD g] at h;have:(DataW.lit (Lit.bool false):DataW Unit)=.lit (.bool c):=h;injection this with h;injection h with h;exact⟨fun e=>absurd (h.trans e) (by decide),fun e=>absurd e g⟩
def iW (b:Nat) (acc:List ByteArray) (w:af):Prop:=w.ownsMap ae 9 (plainElem ae 4) b acc.length (Da (acc.map yu))
theorem ael {kt:TypeId} {w w2:af} {b n:Nat} {D:DataW Unit} (h:w.ownsMap ae kt (plainElem ae 4) b n D) (hb:Below w.heap.size w w2):w2.ownsMap ae kt (plainElem ae 4) b n D:=
 h.kept (row:=none) ⟨hb.os,hb.tape,hb.output,hb.size,fun k hk _=>hb.block k hk⟩ (by simp)
theorem iW.on {b:Nat} {acc:List ByteArray} {w w2:af} (h:iW b acc w) (hb:Below w.heap.size w w2):iW b acc w2:=ael h hb
theorem anK {x:ByteArray} (h:x.size<=9223372036854775807):keyOf ae 9 (.string x)=some (yu x):=by
 refine Go.WideMaps.keyOf_string_mk Tryz.underlying9 ?_;unfold maxLen;omega
theorem aon {x:ByteArray} {acc:List ByteArray}:yu x∈acc.map yu↔x∈acc:=by
 rw[List.mem_map];constructor
 · rintro⟨y,hy,e⟩;rw[← anH e];exact hy
 · intro h;exact⟨x,h,rfl⟩
theorem anN (acc:List ByteArray):∀k∈acc.map yu,WideAt.IsKeyLit k:=fun k hk=>by obtain⟨y,-,rfl⟩:=List.mem_map.1 hk;exact anL y
theorem adW {w:af} {b:Nat} {acc:List ByteArray} {x:ByteArray} (h:iW b acc w) (hkey:keyOf ae 9 (.string x)=some (yu x)) :
 (Instr.lookup 96 (.map (some b)) (.string x) false).run ae w=.ok (.bool (decide (x∈acc))) w:=by
 obtain⟨v,ps,hrun,hv⟩:=World.ownsMap.lookup (t:=96) h law Tryz.underlying96 (ahr w) (plainElem_bool Tryz.underlying4 false) hkey;obtain⟨c,rfl,hc⟩:=aet hv;simp only[Prod.mk.injEq] at hc;have:=Yp (anN acc) hc.1;rw[aon] at this;rw[hrun];by_cases g:x∈acc
 · rw[decide_eq_true g,this.2 g]
 · rw[decide_eq_false g]
   cases c with
   | true=>exact absurd (this.1 rfl) g
   | false=>rfl
def jy (acc:List ByteArray) (x:ByteArray):List ByteArray:=if jA acc x=0 then acc++[x] else acc
def Decl (b:Nat) (acc:List ByteArray) (x:ByteArray) (w:af) (e:Ending) (w':af):Prop:=e=.returned (.int .i64 (jA acc x))/\iW b (jy acc x) w'/\But b w w'
theorem akc (l:List UInt8):iK l=0∨iK l=3:=by unfold iK;split <;> simp
theorem UY {s:ByteArray} {x:Int} (h:iK (bs s)=x) (hs:s.size<=9223372036854775807) (w:af):ag ae 35 #[.string s] w (Gives (.int .i64 x) w):=by rw[← h];exact Na.pO s w hs
theorem aaf (b:Nat) (acc:List ByteArray) (x:ByteArray) (w:af) (hS:iW b acc w) (hn:acc.length<=100000) (hx:x.size<=9223372036854775807):ag ae 69 #[.map (some b),.string x] w (Decl b acc x w):=by
 have HS:=hid hS;clear hS;rcases akc (bs x) with h1|h1
 · have hkey:=anK hx;by_cases hin:x∈acc
   · have HD:=hid (show jA acc x=4 by unfold jA;rw[h1,lJ,if_pos hin]);have HA:=hid (show jy acc x=acc by unfold jy;rw[HD.out];rfl);go_enter Tryz.func69,Tryz.ntmps69;go_wp2_with fail;refine(UY h1 hx w).mono ?_;rintro e w2 ⟨rfl,hb2⟩;have hl:=adW (HS.out.on hb2) hkey;rw[decide_eq_true hin] at hl;go_wp2_with fail;go_ret;exact⟨by rw[HD.out];rfl,by rw[HA.out];exact HS.out.on hb2,But.of hb2⟩
   · have HD:=hid (show jA acc x=0 by unfold jA;rw[h1,lJ,if_neg hin]);have HA:=hid (show jy acc x=acc++[x] by unfold jy;rw[HD.out];rfl);go_enter Tryz.func69,Tryz.ntmps69;go_wp2_with fail;refine(UY h1 hx w).mono ?_;rintro e w2 ⟨rfl,hb2⟩;have HS2:=hid (HS.out.on hb2);have hl:=adW HS2.out hkey;rw[decide_eq_false hin] at hl;go_wp2_with (at_mapUpdate;refine wpList_mapUpdate_own _ rfl _ _ _ 96 rfl 9 4 law Tryz.underlying96 _ b acc.length _ rfl HS2.out (by unfold maxLen;omega) _ _ _ rfl rfl hkey _ [] (plainElem_bool Tryz.underlying4 true) ?_)
     intro w3 hown3 hgrow3;have IA:=hid hown3;rw[Yq] at IA;have HG:=hid hgrow3;have HB:=hid hb2;clear hown3 hgrow3 hl hb2;go_wp2_with fail;go_ret;refine⟨by rw[HD.out];rfl,?_,(But.of HB.out).trans ⟨HG.out.os,HG.out.tape,HG.out.output,HG.out.size,fun k hk hne=>HG.out.block k hk (fun e=>hne (Option.some.inj e))⟩⟩;rw[HA.out];unfold iW;rw[List.map_append,List.length_append];exact IA.out
 · have HD:=hid (show jA acc x=3 by unfold jA;rw[h1];exact uk (by omega));have HA:=hid (show jy acc x=acc by unfold jy;rw[HD.out];rfl);go_enter Tryz.func69,Tryz.ntmps69;go_wp2_with fail;refine(UY h1 hx w).mono ?_;rintro e w2 ⟨rfl,hb2⟩;go_wp2_with fail;go_ret;exact⟨by rw[HD.out];rfl,by rw[HA.out];exact HS.out.on hb2,But.of hb2⟩
theorem Ci {b:Nat} {acc:List ByteArray} {x:ByteArray} {v:Int} {yZ:List ByteArray} (hv:jA acc x=v) (h2:jy acc x=yZ) (w:af) (hS:iW b acc w) (hn:acc.length<=100000) (hx:x.size<=9223372036854775807):ag ae 69 #[.map (some b),.string x] w fun e w'=>e=.returned (.int .i64 v)/\iW b yZ w'/\But b w w':=by
 subst hv h2;exact aaf b acc x w hS hn hx
end Md
end Go.Proofs.YtbgodajefaahdaaGreatDoor
