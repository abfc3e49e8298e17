/-
  Parts of this proof: The contracts of the reference's Routine, Kind a. The contract of the reference's Keyword. The contract of the reference's Check. The reference's lists of the names before. The contracts of the reference's Nodes and Depth. The contract of the reference's check of a node . The reference's check of a node, by forms.
-/
import Derived.Test.YtkpekhpgdajabaaGreatDoorYPChk1
open Go.Proofs.Tryz
open Go.Proofs.Tryz renaming prog->ae
open Go.Lib renaming hid->V
open Go renaming World->af,Calls->ag
open Nat renaming zero_le->ah
set_option linter.unusedVariables false
set_option maxRecDepth 100000
set_option maxHeartbeats 4000000
open Go.Lib (hid)
namespace Go.Proofs.YtkpekhpgdajabaaGreatDoor
namespace Md
open Go.RowKit
open Ex (block_lt)
theorem Rw.onB {B:Nat} {w w2:af} {l:List ByteArray} {p:Option Addr} {m:Nat} (hb:Below w.heap.size w w2) (h:Rw 1 dU (Bf B w.heap.size) w l p m):Rw 1 dU (Bf B w2.heap.size) w2 l p m:=h.map dU.map hb.size fun k g hk=>⟨⟨Nat.lt_of_lt_of_le g.1 hb.size,g.2⟩,hb.block k hk⟩
theorem OA.on {w w2:af} {B:Nat} {x:cz} (hb:Below w.heap.size w w2) (h:OA w B x):OA w2 B x:=fun j hj=>by
 obtain⟨p,m,c,e,hr⟩:=h j hj;exact⟨p,m,c,(hb.cell (p:=⟨B,j,none⟩) (block_lt e)).trans e,hr.onB hb⟩
end Md
namespace Na
open Go.RowKit
def sv (l:List ByteArray):List Value:=l.map Value.string
theorem an5 {l:List ByteArray} {i:Nat} (h:i<l.length):(sv l)[i]?=some (.string (l[i])):=by unfold sv;simp[h]
theorem an3 {w:af} {l:List ByteArray} {cs:Array Value} (h:(sv l).toArray=cs) (hl:l.length<=9223372036854775807):Strs (w.alloc (.cells cs 9)) (some ⟨w.heap.size,0,none⟩) l.length l:=by
 subst h;refine⟨rfl,hl,.inr ⟨_,_,rfl,by simp,V fun i hi=>?_⟩⟩;rw[World.cell?_alloc_mark,Nat.zero_add,List.getElem?_toArray];exact an5 hi
def mkS (l:List UInt8):ByteArray:=⟨l.toArray⟩
def Ig:List ByteArray:=ER.map mkS
theorem Yx (s:ByteArray):∀L:List (List UInt8),decide (0<=fst (L.map mkS) s)=L.contains (bs s)
 | []=>rfl
 | x::t=>by
  have ih:=Yx s t;have h0:(fst ((x::t).map mkS) s)=if x=bs s then 0 else if fst (t.map mkS) s = -1 then -1 else fst (t.map mkS) s+1:=rfl
  rw[h0,List.contains_cons,← ih];by_cases h:x=bs s
  · rw[if_pos h,h];simp
  · rw[if_neg h];have hb:(bs s==x)=false:=beq_eq_false_iff_ne.2 fun g=>h g.symm;rw[hb,Bool.false_or];have:=Ld s (t.map mkS);by_cases h2:fst (t.map mkS) s = -1
    · rw[if_pos h2,h2]
    · rw[if_neg h2];rw[decide_eq_decide];omega
theorem aiu (s:ByteArray):decide (0<=fst Ig s)=gX (bs s):=Yx s ER
theorem ajK (w:af):ag ae 123 #[] w fun e w'=>e=.returned (.slice (some ⟨w.heap.size,0,none⟩) 73 73)/\Strs w' (some ⟨w.heap.size,0,none⟩) 73 Ig/\Below w.heap.size w w':=by
 go_enter func123,ntmps123;go_wp2_with fail;go_ret;exact⟨rfl,an3 (l:=Ig) dx bR,iJ (Below.refl _ _)⟩
theorem al0 (s:ByteArray) (w:af):ag ae 77 #[.string s] w (Gives (.bool (gX (bs s))) w):=by
 have HR:=V (aiu s);go_enter func77,ntmps77;go_wp2_with fail;refine(ajK w).mono ?_;rintro e w1 ⟨rfl,hs,hb1⟩;have I1:=alW (some ⟨w.heap.size,0,none⟩) 73 73 Ig s w1 hs;obtain⟨x,hx⟩:∃x,fst Ig s=x:=⟨_,rfl⟩
 rw[hx] at I1 HR;clear hs hx;go_wp2_with fail;refine I1.mono ?_;rintro e w2 ⟨rfl,rfl⟩;clear I1;by_cases h:0<=x
 · have t:decide (0<=x)=true:=decide_eq_true h;rw[t] at HR;go_wp2_with fail;go_ret;exact⟨lC HR.out,hb1⟩
 · have t:decide (0<=x)=false:=decide_eq_false h;rw[t] at HR;go_wp2_with fail;go_ret;exact⟨lC HR.out,hb1⟩
end Na
namespace Na
open Go.RowKit
theorem abe {s:ByteArray} {b:Bool} (h:gX (bs s)=b) (w:af):ag ae 77 #[.string s] w (Gives (.bool b) w):=by rw[← h];exact al0 s w
theorem ag1 {x:Int} (h1:¬x<48) (h2:¬57<x):j_ x=true:=by unfold j_;simp;omega
theorem WQ {x:Int} (h:x<48∨57<x):j_ x=false:=by unfold j_;simp;omega
theorem Um {p:Prop} (h:p:=by
 exact adI
 ):p:=h
theorem NH {p:Prop} (h:p:=by
 exact UB
 ):p:=h
theorem Sg (s:ByteArray) (w:af) (hs:s.size<=9223372036854775807):ag ae 47 #[.string s] w (Gives (.int .i64 (fB (bs s))) w):=by
 have hs':(s.size:Int)<=9223372036854775807:=by omega
 by_cases h1:s.size<1
 · have t1:decide ((s.size:Int)<1)=true:=decide_eq_true bT;have HR:=V (Vt (l:=bs s) (by rw[fJ];exact h1));go_enter func47,ntmps47;exact Oa
 have t1:decide ((s.size:Int)<1)=false:=decide_eq_false bT;by_cases h2:24<s.size
 · have t2:decide (24<(s.size:Int))=true:=decide_eq_true bT;have HR:=V (Vs (l:=bs s) (by rw[fJ];exact h2));go_enter func47,ntmps47;exact Oa
 have t2:decide (24<(s.size:Int))=false:=decide_eq_false bT;have c0:(0:Int)<(s.size:Int):=by omega
 have hs0:0<s.size:=by omega
 by_cases h3:iT ((s[0]).toNat:Int)=true
 · by_cases h4:gX (bs s)=true
   · have HR:=V (Vr h4);go_enter func47,ntmps47;go_wp2_with fail;refine(Be h3 w).mono ?_;rintro e w1 ⟨rfl,rfl⟩;go_wp2_with fail;refine(abe h4 w1).mono ?_;rintro e w2 ⟨rfl,hb2⟩;exact NH
   · have h4':gX (bs s)=false:=by simpa using h4
     have HL:Hid (1<=(bs s).length/\(bs s).length<=24):=V (by rw[fJ];omega);have HC:=V (show gN (bs s)[0]=true from h3);have HK:=V h4';have Gl:=V (fJ s);go_enter func47,ntmps47;go_wp2_with fail;refine(Be h3 w).mono ?_;rintro e w1 ⟨rfl,rfl⟩;go_wp2_with fail;refine(abe h4' w1).mono ?_;rintro e w2 ⟨rfl,hb2⟩;go_wp2_with fail;go_loop [3] (fun i=>∃k:Nat,k<=s.size/\i=.int .i64 (k:Nat)/\Hid (Good (bs s) k)) (fun i=>s.size-(intOf i).toNat)
     case atStart=>exact⟨0,ah _,rfl,V aiQ⟩
     case round=>
      obtain⟨k,hk,rfl,HG⟩:=hrel;have d1:(0:Int)<=(k:Int):=by omega
      rcases Nat.lt_or_ge k s.size with h|h
      · have hks:k<(bs s).length:=by rw[Gl.out];exact h
        have d2:(k:Int)<(s.size:Int):=by omega
        have HY:Hid (vz ((s[k]).toNat:Int)=true->Good (bs s) (k+1)):=V (fun h=>good_step hks HG.out h);have HN:Hid (vz ((s[k]).toNat:Int)=false->fB (bs s)=3):=V (fun h=>Vp hks h);by_cases g1:iT ((s[k]).toNat:Int)=true
        · have vY:=V (HY.out (QM g1));clear HY HN;go_wp2_with fail;refine(Be g1 w2).mono ?_;exact Um
        have g1':iT ((s[k]).toNat:Int)=false:=by simpa using g1
        by_cases g3:((s[k]).toNat:Int)=95
        · have vY:=V (HY.out (YU g3));have q3:(((s[k]).toNat:Int)==95)=true:=beq_iff_eq.2 g3;have q3b:(((s[k]).toNat:Int) != 95)=false:=by simp[g3]
          clear HY HN g1;go_wp2_with fail;refine(Be (x:=95) (b:=false) bR w2).mono ?_;exact Um
        have q3:(((s[k]).toNat:Int)==95)=false:=beq_eq_false_iff_ne.2 g3;have q3b:(((s[k]).toNat:Int) != 95)=true:=by simp only[bne,q3];rfl
        by_cases g4:((s[k]).toNat:Int)<48
        · have HR:=V (HN.out (He g1' (WQ (.inl g4)) g3));have q4:decide (((s[k]).toNat:Int)<48)=true:=decide_eq_true g4;clear HY HN g1;go_wp2_with fail;refine(Be g1' w2).mono ?_;rintro e w3 ⟨rfl,rfl⟩;exact NH
        have q4:decide (((s[k]).toNat:Int)<48)=false:=decide_eq_false g4;by_cases g5:57<((s[k]).toNat:Int)
        · have HR:=V (HN.out (He g1' (WQ (.inr g5)) g3));have q5:decide (57<((s[k]).toNat:Int))=true:=decide_eq_true g5;clear HY HN g1;go_wp2_with fail;refine(Be g1' w2).mono ?_;rintro e w3 ⟨rfl,rfl⟩;exact NH
        · have vY:=V (HY.out (YS (ag1 g4 g5)));have q5:decide (57<((s[k]).toNat:Int))=false:=decide_eq_false g5;clear HY HN g1;go_wp2_with fail;refine(Be g1' w2).mono ?_;exact Um
      · have hk':k=s.size:=by omega
        have HR:=V (YT HG.out (by rw[Gl.out,hk']) HL.out.1 HL.out.2 HC.out HK.out);have q:decide ((k:Int)<(s.size:Int))=false:=decide_eq_false bT;clear hk';exact NH
 · have h3':iT ((s[0]).toNat:Int)=false:=by simpa using h3
   have HR:=V (Vq (l:=bs s) (by rw[fJ];exact hs0) h3');go_enter func47,ntmps47;go_wp2_with fail;refine(Be h3' w).mono ?_;rintro e w1 ⟨rfl,rfl⟩;exact Oa
end Na
namespace Md
open Go.RowKit
structure Gf (U:af) (v:Value) (acc:List ByteArray) (W:af):Prop where
 own:kZ 9 1 dU U.heap.size W v acc
 below:Below U.heap.size U W
theorem Gf.nil (U:af):Gf U (.slice none 0 0) [] U:=⟨kZ.nil,Below.refl _ _⟩
theorem Gf.on {U W W2:af} {v:Value} {acc:List ByteArray} (h:Gf U v acc W) (hb:Below W.heap.size W W2):Gf U v acc W2:=⟨h.own.on dU.map hb h.below.size,h.below.trans (hb.mono h.below.size)⟩
end Md
namespace Ex
open Go.RowKit
theorem Un {p:Prop} (h:p:=by
 go_wp2_with fail;go_roundw
 case rel=>exact⟨k+1,by omega,by rw[HK.out];go_num,by go_num,HW2,yf⟩
 case measure=>simp[intOf];omega
 ):p:=h
theorem amr (e:Ex):∀(p:Option Addr) (m c:Nat) (w:af),In w e p m->cnt e<=1000000->ag ae 20 #[.agg #[.int .i64 e.o,.string e.s,.int .i64 e.n,.slice p m c]] w (Gives (.int .i64 (cnt e:Nat)) w):=by
 induction e using Ex.ind with
 | h o s n l ih=>
  intro p m c w h hc;rw[yu] at hc;have HH:=V h;have HI:=V ih;obtain⟨hl,hm⟩:=h.len;have HL:=V hl;have HC:=V hc;simp only[Ex.o,Ex.s,Ex.n];clear ih h hl hc;rw[yu];go_enter func20,ntmps20;go_wp2_with fail;go_loopw [3,4] (fun d i wr=>∃k:Nat,k<=m/\d=.int .i64 ((gq (l.take k)+1:Nat))/\i=.int .i64 (k:Nat)/\Hid (Below w.heap.size w wr)/\Hid (dR wr w.heap.size o s n p m c)) (fun d i _=>m-(intOf i).toNat)
  case atStart=>exact⟨0,ah _,rfl,rfl,V bl,V f_⟩
  case round=>
   obtain⟨k,hk,rfl,rfl,HW,ig⟩:=hrel;obtain⟨b0,b1,b2,b3⟩:=ig.out;have k0:(0:Int)<=(k:Int):=by omega
   rcases Nat.lt_or_ge k m with h|h
   · have k1:(k:Int)<(m:Int):=by omega
     obtain⟨b,o',rfl,-,hG,hcell⟩:=HH.out.kids bT;have hkl:k<l.length:=by rw[HL.out];omega
     obtain⟨q,j,c',hc4,eH⟩:=hcell.out k hkl;have hmem:l[k]∈l:=List.getElem_mem hkl;have hgx:l[k]?=some l[k]:=List.getElem?_eq_getElem hkl;obtain⟨x,hx⟩:∃x,l[k]=x:=⟨_,rfl⟩
     rw[hx] at hc4 eH hmem hgx;obtain⟨e0,e1,e2,e3⟩:=hc4.on HW.out hG;have mO:=V eH;have HX:=V hgx;have HM:=V hmem;clear hcell hc4 eH hx hmem hgx hkl;obtain⟨d1,d2⟩:=PS k HX.out HC.out;have HK:=V (PQ HX.out);obtain⟨D,hD⟩:∃D,gq (l.take k)=D:=⟨_,rfl⟩
     obtain⟨E,hE⟩:∃E,cnt x=E:=⟨_,rfl⟩
     have HI1:=HI.out x HM.out q j c' wr (mO.out.on HW.out) d2;rw[hD] at d1 HK ⊢;rw[hE] at d1 HK HI1;clear d2 hD hE;go_wp2_with fail;refine HI1.mono ?_;rintro e w2 ⟨rfl,hb2⟩;have HW2:Hid (Below w.heap.size w w2):=V qG;have yf:=V (ig.out.on hb2);clear hb2 HI1;exact Un
   · obtain rfl:m=k:=by omega
     have HT:Hid (l.take m=l):=V (List.take_of_length_le x_);rw[HT.out];go_wp2_with fail;go_ret;exact⟨by go_num,HW.out⟩
theorem alM (e:Ex):∀(p:Option Addr) (m c:Nat) (w:af),In w e p m->cnt e<=1000000->ag ae 21 #[.agg #[.int .i64 e.o,.string e.s,.int .i64 e.n,.slice p m c]] w (Gives (.int .i64 (dep e:Nat)) w):=by
 induction e using Ex.ind with
 | h o s n l ih=>
  intro p m c w h hc;rw[yu] at hc;have HH:=V h;have HI:=V ih;obtain⟨hl,hm⟩:=h.len;have HL:=V hl;have HC:=V hc;simp only[Ex.o,Ex.s,Ex.n];clear ih h hl hc;rw[Kr];go_enter func21,ntmps21;go_wp2_with fail;go_loopw [3,4] (fun d i wr=>∃k:Nat,k<=m/\d=.int .i64 (jZ (l.take k):Nat)/\i=.int .i64 (k:Nat)/\Hid (Below w.heap.size w wr)/\Hid (dR wr w.heap.size o s n p m c)) (fun d i _=>m-(intOf i).toNat)
  case atStart=>exact⟨0,ah _,rfl,rfl,V bl,V f_⟩
  case round=>
   obtain⟨k,hk,rfl,rfl,HW,ig⟩:=hrel;obtain⟨b0,b1,b2,b3⟩:=ig.out;have k0:(0:Int)<=(k:Int):=by omega
   rcases Nat.lt_or_ge k m with h|h
   · have k1:(k:Int)<(m:Int):=by omega
     obtain⟨b,o',rfl,-,hG,hcell⟩:=HH.out.kids bT;have hkl:k<l.length:=by rw[HL.out];omega
     obtain⟨q,j,c',hc4,eH⟩:=hcell.out k hkl;have hmem:l[k]∈l:=List.getElem_mem hkl;have hgx:l[k]?=some l[k]:=List.getElem?_eq_getElem hkl;obtain⟨x,hx⟩:∃x,l[k]=x:=⟨_,rfl⟩
     rw[hx] at hc4 eH hmem hgx;obtain⟨e0,e1,e2,e3⟩:=hc4.on HW.out hG;have mO:=V eH;have HX:=V hgx;have HM:=V hmem;clear hcell hc4 eH hx hmem hgx hkl;obtain⟨d1,d2⟩:=WN k HM.out HC.out;have HK:=V (WM HX.out);obtain⟨D,hD⟩:∃D,jZ (l.take k)=D:=⟨_,rfl⟩
     obtain⟨E,hE⟩:∃E,dep x=E:=⟨_,rfl⟩
     have HI1:=HI.out x HM.out q j c' wr (mO.out.on HW.out) (PS k HX.out HC.out).2;rw[hD] at d1 HK ⊢;rw[hE] at d2 HK HI1;clear hD hE;go_wp2_with fail;refine HI1.mono ?_;rintro e w2 ⟨rfl,hb2⟩;have HW2:Hid (Below w.heap.size w w2):=V qG;have yf:=V (ig.out.on hb2);clear hb2 HI1;by_cases hDE:D<E
     · have m1:(D:Int)<(E:Int):=by omega
       exact Un
     · have m1:(E:Int)<=(D:Int):=by omega
       exact Un
   · exact zzf
end Ex
namespace Ex
open Go.RowKit
open Na (bs fB)
theorem oM {c:Bool} {o n:Int} {s:ByteArray} {l:List Ex}:bad c (pre (.mk o s n l))=if nd c o (bs s) n l.length=0 then bad c (eD l) else nd c o (bs s) n l.length:=by rw[Dj,bad];rfl
theorem Gy {c:Bool} {l:List Ex} {k:Nat} {x:Ex} (hx:l[k]?=some x) (h:bad c (eD (l.take k))=0):bad c (eD (l.take (k+1)))=bad c (pre x):=by rw[RZ hx,O7 h]
theorem JY {c:Bool} {l:List Ex} {k:Nat} {x:Ex} (hx:l[k]?=some x) (h:bad c (eD (l.take k))=0) (g:¬bad c (pre x)=0):bad c (eD l)=bad c (pre x):=by
 have h1:=Gy hx h;have h2:=Ml (l.take (k+1)) (l.drop (k+1));rw[List.take_append_drop] at h2;rw[h2,O4 (by rw[h1];exact g),h1]
theorem zt {s:ByteArray} (h:¬bs s=[]):s.toList.isEmpty=false:=by
 exact adQ
theorem zw {s:ByteArray} (h:bs s=[]):s.toList.isEmpty=true:=by
 rw[Lib.toList_data]
 show(bs s).isEmpty=true
 rw[h];rfl
theorem J7 {w:af} {g:Nat} {o:Int} {s:ByteArray} {n:Int} {p:Option Addr} {m c:Nat} (h:dR w g o s n p m c) (k:Nat):dR (w.drewN k) g o s n p m c:=h
theorem oJ {o x:Int} (h:fH o=x) (w:af):ag ae 43 #[.int .i64 o] w fun e w'=>e=.returned (.int .i64 x)/\w'=w:=by rw[← h];exact aeD o w
theorem oZ {o:Int} {x:Bool} (h:obj o=x) (w:af):ag ae 44 #[.int .i64 o] w fun e w'=>e=.returned (.bool x)/\w'=w:=by rw[← h];exact akJ o w
theorem aa5 {s:ByteArray} {x:Int} (h:fB (bs s)=x) (hs:s.size<=9223372036854775807) (w:af):ag ae 47 #[.string s] w (Gives (.int .i64 x) w):=by rw[← h];exact Na.Sg s w hs
theorem RF {o x:Int} (h:most o=x) (w:af):ag ae 46 #[.int .i64 o] w fun e w'=>e=.returned (.int .i64 x)/\w'=w:=by rw[← h];exact aki o w
theorem Mt {n:Int} {x:Bool} (h:wQ n=x) (w:af):ag ae 45 #[.int .i64 n] w fun e w'=>e=.returned (.bool x)/\w'=w:=by rw[← h];exact alZ n w
section
variable {c:Bool} {o n:Int} {s:List UInt8} {m:Nat}
theorem L8 (h:nY c o s n m=true):nd c o s n m=1:=by unfold nd;rw[if_pos h]
theorem Fa (h:known c o=false):nd c o s n m=1:=L8 (by unfold nY;rw[h];simp)
theorem Uo {p:Prop} (h:p:=by unfold nY;rw[h,decide_eq_false g];simp):p:=h
theorem zO (h:named c o=false) (g:¬s=[]):nd c o s n m=1:=L8 Uo
theorem L9 (h:numbered c o=false) (g:¬n=0):nd c o s n m=1:=L8 Uo
theorem w_ {A:Int} (h:fH o=A) (g:¬(m:Int)=A):nd c o s n m=1:=L8 Uo
theorem wZ {a b:Bool} {A:Int} (h:known c o=true) (hn:named c o=a) (hb:numbered c o=b) (hA:fH o=A) (h1:a=true∨s=[]) (h2:b=true∨n=0) (h3:(m:Int)=A):nd c o s n m=if eG c o n then 2 else if a then fB s else 0:=by
 have hf:nY c o s n m=false:=by
  unfold nY;rw[h,hn,hb,hA,decide_eq_true h3];rcases h1 with h1|h1 <;> rcases h2 with h2|h2 <;> simp[h1,h2]
 unfold nd;rw[if_neg (by rw[hf];decide),hn]
end
def nu (cc:Bool) (l:List Ex):Prop:=∀x∈l,∀(p:Option Addr) (m c:Nat) (w:af),In w x p m->Sz x->ag ae 22 #[.agg #[.int .i64 x.o,.string x.s,.int .i64 x.n,.slice p m c],.bool cc] w (Gives (.int .i64 (bad cc (pre x))) w)
end Ex
namespace Ex
open Go.RowKit
open Na (bs)
set_option linter.unusedSimpArgs false
theorem ade {p:Prop} (h:p:=by
 exact BK
 ):p:=h
theorem adf {p:Prop} (h:p:=by
 rw[hfair.trans (show _=(2:Int) by rw[hR];rfl),if_neg bR];clear hkn hnm hct hnb hA hB hfair hs0 hR hv;go_enter func22,ntmps22;go_wp2_with (first|(go_at_call 43;refine(HA.out _).mono ?_;rintro e w1 ⟨rfl,rfl⟩)|(go_at_call 44;refine(HB.out _).mono ?_;rintro e w1 ⟨rfl,rfl⟩))
 go_quiet ((go_at_call 45;exact Calls.quiet_of_same (Ec.out _)))
 exact dX
 ):p:=h
theorem NI {p:Prop} (h:p:=by
 rw[HV.out,if_neg bR];clear hkn hnm hct hnb hA hB hs0;exact ade
 ):p:=h
theorem al_ (l:List Ex) (ih:nu false l) (s:ByteArray) (n:Int) (p:Option Addr) (m c:Nat) (w:af) (h:In w (.mk (1) s n l) p m) (hs:Sz (.mk (1) s n l)):ag ae 22 #[.agg #[.int .i64 (1),.string s,.int .i64 n,.slice p m c],.bool false] w (Gives (.int .i64 (bad false (pre (.mk (1) s n l)))) w):=by
 have HH:=V h;have HI:=V ih;obtain⟨hl,hm⟩:=h.len;have HL:=V hl;have HS:=V hs;have hsz:=hs.self;rw[oM,hl];clear ih h hl hs;have hA:fH (1)=0:=rfl;have hB:obj (1)=false:=rfl;have HA:=V (fun W=>oJ hA W);have HB:=V (fun W=>oZ hB W);have hkn:known false (1)=true:=rfl;have hnm:named false (1)=false:=rfl;have hct:counted false (1)=false:=rfl;have hnb:numbered false (1)=true:=rfl;by_cases hs0:bs s=[]
 rotate_left
 · have e0:=zt hs0;have HV:=V (show nd false (1) (bs s) n m=1 from zO hnm hs0);exact NI
 have e0:=zw hs0;by_cases fq:(m:Int)=0;rotate_left
 · have g0:((m:Int)==0)=false:=beq_eq_false_iff_ne.2 fq;have g1:((m:Int) != 0)=true:=bne_iff_ne.2 fq;have HV:=V (show nd false (1) (bs s) n m=1 from w_ hA fq);exact NI
 obtain rfl:m=0:=by omega
 have hfair:=wZ (s:=bs s) (n:=n) (m:=0) hkn hnm hnb hA (.inr hs0) (.inl rfl) rfl
 cases hv:wQ n with
 | true=>
  have Ec:=V (fun W=>Mt hv W);have hR:eG false (1) n=false:=by unfold eG;rw[hct,hv];rfl
  rw[hfair.trans (show _=(0:Int) by rw[hR];rfl),if_pos rfl];clear hkn hnm hct hnb hA hB hfair hs0 hR hv;go_enter func22,ntmps22;go_wp2_with (first|(go_at_call 43;refine(HA.out _).mono ?_;rintro e w1 ⟨rfl,rfl⟩)|(go_at_call 44;refine(HB.out _).mono ?_;rintro e w1 ⟨rfl,rfl⟩))
  go_quiet ((go_at_call 45;exact Calls.quiet_of_same (Ec.out _)))
  go_wp2_with fail;go_loopw [10] (fun i wr=>∃k:Nat,k<=0/\Hid (bad false (eD (l.take k))=0)/\i=.int .i64 (k:Nat)/\Hid (Below w.heap.size w wr)/\Hid (dR wr w.heap.size (1) s n p 0 c)) (fun i _=>0-(intOf i).toNat)
  case atStart=>exact⟨0,ah _,V yc,rfl,V bl,V f_⟩
  case round=>
   exact UJ
 | false=>
  have Ec:=V (fun W=>Mt hv W);have hR:eG false (1) n=true:=by unfold eG;rw[hct,hv];rfl
  exact adf
theorem ama (l:List Ex) (ih:nu true l) (s:ByteArray) (n:Int) (p:Option Addr) (m c:Nat) (w:af) (h:In w (.mk (1) s n l) p m) (hs:Sz (.mk (1) s n l)):ag ae 22 #[.agg #[.int .i64 (1),.string s,.int .i64 n,.slice p m c],.bool true] w (Gives (.int .i64 (bad true (pre (.mk (1) s n l)))) w):=by
 have HH:=V h;have HI:=V ih;obtain⟨hl,hm⟩:=h.len;have HL:=V hl;have HS:=V hs;have hsz:=hs.self;rw[oM,hl];clear ih h hl hs;have hA:fH (1)=0:=rfl;have hB:obj (1)=false:=rfl;have HA:=V (fun W=>oJ hA W);have HB:=V (fun W=>oZ hB W);have hkn:known true (1)=true:=rfl;have hnm:named true (1)=false:=rfl;have hct:counted true (1)=false:=rfl;have hnb:numbered true (1)=true:=rfl;by_cases hs0:bs s=[]
 rotate_left
 · have e0:=zt hs0;have HV:=V (show nd true (1) (bs s) n m=1 from zO hnm hs0);exact NI
 have e0:=zw hs0;by_cases fq:(m:Int)=0;rotate_left
 · have g0:((m:Int)==0)=false:=beq_eq_false_iff_ne.2 fq;have g1:((m:Int) != 0)=true:=bne_iff_ne.2 fq;have HV:=V (show nd true (1) (bs s) n m=1 from w_ hA fq);exact NI
 obtain rfl:m=0:=by omega
 have hfair:=wZ (s:=bs s) (n:=n) (m:=0) hkn hnm hnb hA (.inr hs0) (.inl rfl) rfl
 cases hv:wQ n with
 | true=>
  have Ec:=V (fun W=>Mt hv W);have hR:eG true (1) n=false:=by unfold eG;rw[hct,hv];rfl
  rw[hfair.trans (show _=(0:Int) by rw[hR];rfl),if_pos rfl];clear hkn hnm hct hnb hA hB hfair hs0 hR hv;go_enter func22,ntmps22;go_wp2_with (first|(go_at_call 43;refine(HA.out _).mono ?_;rintro e w1 ⟨rfl,rfl⟩)|(go_at_call 44;refine(HB.out _).mono ?_;rintro e w1 ⟨rfl,rfl⟩))
  go_quiet ((go_at_call 45;exact Calls.quiet_of_same (Ec.out _)))
  go_wp2_with fail;go_loopw [10] (fun i wr=>∃k:Nat,k<=0/\Hid (bad true (eD (l.take k))=0)/\i=.int .i64 (k:Nat)/\Hid (Below w.heap.size w wr)/\Hid (dR wr w.heap.size (1) s n p 0 c)) (fun i _=>0-(intOf i).toNat)
  case atStart=>exact⟨0,ah _,V yc,rfl,V bl,V f_⟩
  case round=>
   exact UK
 | false=>
  have Ec:=V (fun W=>Mt hv W);have hR:eG true (1) n=true:=by unfold eG;rw[hct,hv];rfl
  exact adf
theorem adb {p:Prop} (h:p:=by
 have HH:=V h;have HI:=V ih;obtain⟨hl,hm⟩:=h.len;have HL:=V hl;have HS:=V hs;have hsz:=hs.self;rw[oM,hl];clear ih h hl hs;obtain⟨A,hA⟩:∃A,fH o=A:=⟨_,rfl⟩
 have hA1:A<0:=by unfold fH at hA;rw[if_pos bT] at hA;omega
 have hB:obj o=false:=by unfold obj;simp;omega
 have HA:=V (fun W=>oJ hA W);have HB:=V (fun W=>oZ hB W);have t1:(o==1)=false:=beq_eq_false_iff_ne.2 bT;have t2:(o==2)=false:=beq_eq_false_iff_ne.2 bT;have t3:(o==3)=false:=beq_eq_false_iff_ne.2 bT;have t25:(o==25)=false:=beq_eq_false_iff_ne.2 bT;have t26:(o==26)=false:=beq_eq_false_iff_ne.2 bT;have u3:(o != 3)=true:=bne_iff_ne.2 bT;have v3:¬o=3:=by omega
 have hkn:known false o=false:=by unfold known;rw[hA];rw[decide_eq_false bT];rfl
 have HV:=V (show nd false o (bs s) n m=1 from Fa hkn);rw[HV.out,if_neg bR];clear hkn hA hB;exact ade
 ):p:=h
theorem al4 (l:List Ex) (ih:nu false l) (o:Int) (h1:o<1) (s:ByteArray) (n:Int) (p:Option Addr) (m c:Nat) (w:af) (h:In w (.mk o s n l) p m) (hs:Sz (.mk o s n l)):ag ae 22 #[.agg #[.int .i64 (o),.string s,.int .i64 n,.slice p m c],.bool false] w (Gives (.int .i64 (bad false (pre (.mk o s n l)))) w):=by
 exact adb
theorem al2 (l:List Ex) (ih:nu false l) (o:Int) (Lg:26<o) (s:ByteArray) (n:Int) (p:Option Addr) (m c:Nat) (w:af) (h:In w (.mk o s n l) p m) (hs:Sz (.mk o s n l)):ag ae 22 #[.agg #[.int .i64 (o),.string s,.int .i64 n,.slice p m c],.bool false] w (Gives (.int .i64 (bad false (pre (.mk o s n l)))) w):=by
 exact adb
end Ex
namespace Ex
open Go.RowKit
open Na (bs)
set_option linter.unusedSimpArgs false
theorem adg {p:Prop} (h:p:=by
 go_enter func22,ntmps22;go_wp2_with (first|(go_at_call 43;refine(HA.out _).mono ?_;rintro e w1 ⟨rfl,rfl⟩)|(go_at_call 44;refine(HB.out _).mono ?_;rintro e w1 ⟨rfl,rfl⟩))
 go_quiet (fail)
 go_wp2_with fail;go_loopw [10] (fun i wr=>∃k:Nat,k<=0/\Hid (bad false (eD (l.take k))=0)/\i=.int .i64 (k:Nat)/\Hid (Below w.heap.size w wr)/\Hid (dR wr w.heap.size o s n p 0 c)) (fun i _=>0-(intOf i).toNat)
 case atStart=>exact⟨0,ah _,V yc,rfl,V bl,V f_⟩
 case round=>
  exact UJ
 ):p:=h
theorem adh {p:Prop} (h:p:=by
 rw[HV.out,if_neg bR];clear hkn hnm hct hnb hA hB hs0 h2;exact BK
 ):p:=h
theorem amf (l:List Ex) (ih:nu false l) (o:Int) (h2:o=2) (s:ByteArray) (n:Int) (p:Option Addr) (m c:Nat) (w:af) (h:In w (.mk o s n l) p m) (hs:Sz (.mk o s n l)):ag ae 22 #[.agg #[.int .i64 o,.string s,.int .i64 n,.slice p m c],.bool false] w (Gives (.int .i64 (bad false (pre (.mk o s n l)))) w):=by
 have HH:=V h;have HI:=V ih;obtain⟨hl,hm⟩:=h.len;have HL:=V hl;have HS:=V hs;have hsz:=hs.self;rw[oM,hl];clear ih h hl hs;have hA:fH o=0:=by rw[h2];rfl
 have hB:obj o=false:=by rw[h2];rfl
 have t1:(o==1)=false:=by rw[h2];rfl
 have t2:(o==2)=true:=by rw[h2];rfl
 have t3:(o==3)=false:=by rw[h2];rfl
 have t25:(o==25)=false:=by rw[h2];rfl
 have t26:(o==26)=false:=by rw[h2];rfl
 have u3:(o != 3)=true:=by rw[h2];rfl
 have v3:¬o=3:=by omega
 have Jb:o<=24:=by omega
 have HA:=V (fun W=>oJ hA W);have HB:=V (fun W=>oZ hB W);have hkn:known false o=true:=by rw[h2];rfl
 have hnm:named false o=false:=by rw[h2];rfl
 have hct:counted false o=false:=by rw[h2];rfl
 have hnb:numbered false o=true:=by rw[h2];rfl
 by_cases hs0:bs s=[]
 rotate_left
 · have e0:=zt hs0;have HV:=V (show nd false o (bs s) n m=1 from zO hnm hs0);exact adh
 have e0:=zw hs0;by_cases fq:(m:Int)=0;rotate_left
 · have g0:((m:Int)==0)=false:=beq_eq_false_iff_ne.2 fq;have g1:((m:Int) != 0)=true:=bne_iff_ne.2 fq;have HV:=V (show nd false o (bs s) n m=1 from w_ hA fq);exact adh
 obtain rfl:m=0:=by omega
 have hfair:=wZ (s:=bs s) (n:=n) (m:=0) hkn hnm hnb hA (.inr hs0) (.inl rfl) rfl;by_cases hn0:n=0
 · have f0:(n==0)=true:=beq_iff_eq.2 hn0;have f2:(n != 0)=false:=by simp[bne,f0]
   have hR:eG false o n=false:=by rw[h2,hn0];rfl
   rw[hfair.trans (show _=(0:Int) by rw[hR];rfl),if_pos rfl];clear hkn hnm hct hnb hA hB hfair hs0 hR h2 hn0;exact adg
 by_cases hn1:n=1
 · have f0:(n==0)=false:=beq_eq_false_iff_ne.2 hn0;have f1:(n==1)=true:=beq_iff_eq.2 hn1;have f2:(n != 0)=true:=by simp[bne,f0]
   have f3:(n != 1)=false:=by simp[bne,f1]
   have hR:eG false o n=false:=by rw[h2,hn1];rfl
   rw[hfair.trans (show _=(0:Int) by rw[hR];rfl),if_pos rfl];clear hkn hnm hct hnb hA hB hfair hs0 hR hn0 hn1 h2;exact adg
 have f0:(n==0)=false:=beq_eq_false_iff_ne.2 hn0;have f1:(n==1)=false:=beq_eq_false_iff_ne.2 hn1;have f2:(n != 0)=true:=by simp[bne,f0]
 have f3:(n != 1)=true:=by simp[bne,f1]
 have hR:eG false o n=true:=by rw[h2];unfold eG;simp[hn0,hn1]
 exact adU
end Ex
namespace Ex
open Go.RowKit
open Na (bs)
set_option linter.unusedSimpArgs false
theorem ado {p:Prop} (h:p:=by
 rw[HV.out,if_neg bR];clear hkn hA hB;exact BK
 ):p:=h
theorem amb (l:List Ex) (ih:nu false l) (s:ByteArray) (n:Int) (p:Option Addr) (m c:Nat) (w:af) (h:In w (.mk (25) s n l) p m) (hs:Sz (.mk (25) s n l)):ag ae 22 #[.agg #[.int .i64 (25),.string s,.int .i64 n,.slice p m c],.bool false] w (Gives (.int .i64 (bad false (pre (.mk (25) s n l)))) w):=by
 have HH:=V h;have HI:=V ih;obtain⟨hl,hm⟩:=h.len;have HL:=V hl;have HS:=V hs;have hsz:=hs.self;rw[oM,hl];clear ih h hl hs;have hA:fH (25)=0:=rfl;have hB:obj (25)=false:=rfl;have HA:=V (fun W=>oJ hA W);have HB:=V (fun W=>oZ hB W);have hkn:known false (25)=false:=rfl;have HV:=V (show nd false (25) (bs s) n m=1 from Fa hkn);exact ado
theorem amh (l:List Ex) (ih:nu false l) (s:ByteArray) (n:Int) (p:Option Addr) (m c:Nat) (w:af) (h:In w (.mk (26) s n l) p m) (hs:Sz (.mk (26) s n l)):ag ae 22 #[.agg #[.int .i64 (26),.string s,.int .i64 n,.slice p m c],.bool false] w (Gives (.int .i64 (bad false (pre (.mk (26) s n l)))) w):=by
 have HH:=V h;have HI:=V ih;obtain⟨hl,hm⟩:=h.len;have HL:=V hl;have HS:=V hs;have hsz:=hs.self;rw[oM,hl];clear ih h hl hs;have hA:fH (26)=0:=rfl;have hB:obj (26)=false:=rfl;have HA:=V (fun W=>oJ hA W);have HB:=V (fun W=>oZ hB W);have hkn:known false (26)=false:=rfl;have HV:=V (show nd false (26) (bs s) n m=1 from Fa hkn);exact ado
end Ex
end Go.Proofs.YtkpekhpgdajabaaGreatDoor
