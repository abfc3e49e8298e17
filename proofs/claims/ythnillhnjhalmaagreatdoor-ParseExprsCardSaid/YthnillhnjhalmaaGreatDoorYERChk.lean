/-
  Parts of this proof: The contracts of the reference's check of nodes,. The contract of the reference's Tokens. The contract of the reference's Tokens, walked. The contracts of the reference's ends and Expr. The contract of follow for models. The contracts of checkStore, checkBelt and of th.
-/
import Derived.Test.YthnillhnjhalmaaGreatDoorYERNo3
import Derived.Test.YthnillhnjhalmaaGreatDoorYERNo4
import Derived.Test.YthnillhnjhalmaaGreatDoorYERNo5
import Derived.Test.YthnillhnjhalmaaGreatDoorYERNo7
import Derived.Test.YthnillhnjhalmaaGreatDoorYRpR
open Go.Proofs.Tryz
open Go.Proofs.Tryz renaming prog->ae
open Option renaming none->af,some->aj
open Go.Lib renaming hid->U
open Go renaming World->ag,bodyPost_ret->ah,Calls->ai
set_option linter.unusedVariables false
set_option maxRecDepth 100000
set_option maxHeartbeats 4000000
open Go.Lib (hid)
namespace Go.Proofs.YthnillhnjhalmaaGreatDoor
namespace Ex
open Go.RowKit
theorem aoa (cc:Bool) (e:Ex):∀(p:Option Addr) (m c:Nat) (w:ag),In w e p m->Sz e->ai ae 79 #[.agg #[.int .i64 e.o,.string e.s,.int .i64 e.n,.slice p m c],.bool cc] w (Gives (.int .i64 (bad cc (pre e))) w):=by
 induction e using Ex.ind with
 | h o s n l ih=>
  intro p m c w h hs;have ih:nL cc l:=ih;simp only[Ex.o,Ex.s,Ex.n];by_cases h1:o<1
  · cases cc
    · exact anP l ih o h1 s n p m c w h hs
    · exact anQ l ih o h1 s n p m c w h hs
  by_cases MX:26<o
  · cases cc
    · exact anN l ih o MX s n p m c w h hs
    · exact anO l ih o MX s n p m c w h hs
  by_cases e1:o=1
  · subst e1;cases cc
    · exact anV l ih s n p m c w h hs
    · exact anW l ih s n p m c w h hs
  by_cases e2:o=2
  · cases cc
    · exact an1 l ih o e2 s n p m c w h hs
    · exact an2 l ih o e2 s n p m c w h hs
  by_cases e3:o=3
  · subst e3;cases cc
    · exact anZ l ih s n p m c w h hs
    · exact an0 l ih s n p m c w h hs
  by_cases e21:o<=21
  · cases cc
    · exact anR l ih o bU e21 s n p m c w h hs
    · exact anS l ih o bU e21 s n p m c w h hs
  by_cases e24:o<=24
  · cases cc
    · exact anT l ih o bU e24 s n p m c w h hs
    · exact anU l ih o bU e24 s n p m c w h hs
  by_cases e25:o=25
  · subst e25;cases cc
    · exact anX l ih s n p m c w h hs
    · exact anY l ih s n p m c w h hs
  · obtain rfl:o=26:=by omega
    cases cc
    · exact an3 l ih s n p m c w h hs
    · exact an4 l ih s n p m c w h hs
theorem anj (cc:Bool) (e:Ex) (p:Option Addr) (m c:Nat) (w:ag) (h:In w e p m) (hs:Sz e) (hc:cnt e<=1000000):ai ae 44 #[.agg #[.int .i64 e.o,.string e.s,.int .i64 e.n,.slice p m c],.bool cc] w (Gives (.int .i64 (fU cc e)) w):=by
 have HN:=U (fun W hi=>aob e p m c W hi hc);have HD:=U (fun W hi=>anr e p m c W hi hc);have HE:=U (fun W hi=>aoa cc e p m c W hi hs);have HH:=U h;have I_:=Rh e;obtain⟨N,hN⟩:∃N,cnt e=N:=⟨_,rfl⟩
 obtain⟨D,hD⟩:∃D,dep e=D:=⟨_,rfl⟩
 obtain⟨V,hV⟩:∃V,bad cc (pre e)=V:=⟨_,rfl⟩
 have HV:=U (show fU cc e=if 60<N then 6 else if 12<D then 11 else V by unfold fU;rw[hN,hD,hV]);rw[HV.out];rw[hN] at HN hc I_;rw[hD] at HD I_;rw[hV] at HE;obtain⟨o,s,nn,kl⟩:=e;simp only[Ex.o,Ex.s,Ex.n] at HN HD HE ⊢;clear h hs hN hD hV;by_cases h6:60<N
 · rw[if_pos h6];have t1:decide ((60:Int)<(N:Int))=true:=decide_eq_true bU;have t2:(60:Int)<(N:Int):=by omega
   clear h6 hc I_;go_enter func44,ntmps44;go_wp2_with fail;refine(HN.out _ (HH.out.on bl)).mono ?_;exact KY
 rw[if_neg h6];have t1:decide ((60:Int)<(N:Int))=false:=decide_eq_false bU;have t2:(N:Int)<=60:=by omega
 by_cases h12:12<D
 · rw[if_pos h12];have t3:decide ((12:Int)<(D:Int))=true:=decide_eq_true bU;have t4:(12:Int)<(D:Int):=by omega
   clear h6 h12 hc I_;go_enter func44,ntmps44;go_wp2_with fail;refine(HN.out _ (HH.out.on bl)).mono ?_;rintro e w1 ⟨rfl,hb1⟩;obtain⟨x0,x1,x2,x3⟩:dW w1 w.heap.size o s nn p m c:=gK.on hb1;have HW1:Hid (Below w.heap.size w w1):=U bl;clear hb1;go_wp2_with fail;refine(HD.out _ (HH.out.on HW1.out)).mono ?_;rintro e w2 ⟨rfl,hb2⟩;go_wp2_with fail;go_ret;exact⟨rfl,by have bZ:=HW1.out;exact bl⟩
 rw[if_neg h12];have t3:decide ((12:Int)<(D:Int))=false:=decide_eq_false bU;have t4:(D:Int)<=12:=by omega
 clear h6 h12 hc I_;go_enter func44,ntmps44;go_wp2_with fail;refine(HN.out _ (HH.out.on bl)).mono ?_;rintro e w1 ⟨rfl,hb1⟩;have hx1:dW w1 w.heap.size o s nn p m c:=gK.on hb1;have Ib:=U hx1;obtain⟨x0,x1,x2,x3⟩:=hx1;have HW1:Hid (Below w.heap.size w w1):=U bl;clear hb1;go_wp2_with fail;refine(HD.out _ (HH.out.on HW1.out)).mono ?_;rintro e w2 ⟨rfl,hb2⟩;obtain⟨y0,y1,y2,y3⟩:=Ib.out.on hb2;have HW2:Hid (Below w.heap.size w w2):=U (by have bZ:=HW1.out;exact bl);clear hb2 x0 x1 x2 x3;go_wp2_with fail;refine(HE.out _ (HH.out.on HW2.out)).mono ?_;rintro e w3 ⟨rfl,hb3⟩;go_wp2_with fail;go_ret;exact⟨rfl,by have bZ:=HW2.out;exact bl⟩
theorem NM (e:Ex) (p:Option Addr) (m c:Nat) (w:ag) (h:In w e p m) (hs:Sz e) (hc:cnt e<=1000000):ai ae 18 #[.agg #[.int .i64 e.o,.string e.s,.int .i64 e.n,.slice p m c]] w (Gives (.int .i64 (fU false e)) w):=by
 have H:=U (fun W hi=>anj false e p m c W hi hs hc);have HH:=U h;obtain⟨v,hv⟩:∃v,fU false e=v:=⟨_,rfl⟩
 rw[hv] at H ⊢;obtain⟨o,s,nn,kl⟩:=e;simp only[Ex.o,Ex.s,Ex.n] at H ⊢;clear h hs hc hv;go_enter func18,ntmps18;go_wp2_with fail;refine(H.out _ (HH.out.on bl)).mono ?_;exact KY
end Ex
namespace Lx
open Nu
open Go.RowKit
inductive Ahead (l:List UInt8) (N:Nat):Prop where
 | word (h0:0<N) (hw:jG (l.take N)=true) (hd:nU (l.take N)=false) (hf:iN l=aj (⟨1,mkS (l.take N),0,0⟩,N))
 | num (v:Int) (h0:0<N) (hw:jG (l.take N)=false) (hd:nU (l.take N)=true) (hn:jL (l.take N)=aj v) (hf:iN l=aj (⟨2,mt,v,0⟩,N))
 | bad (h0:0<N) (hw:jG (l.take N)=false) (hd:nU (l.take N)=true) (hn:jL (l.take N)=af) (hf:iN l=af)
 | sign (h0:0<N) (hw:jG (l.take N)=false) (hd:nU (l.take N)=false) (hf:iN l=aj (⟨3,mkS (l.take N),0,0⟩,N))
 | none (h0:N=0) (hw:jG (l.take N)=false) (hd:nU (l.take N)=false) (hf:iN l=af)
theorem Ov {l:List UInt8} (h:dm gq l=0) (n:Nat):jG (l.take n)=false:=by
 rw[← Bool.not_eq_true,Ou,n_,h];rintro⟨g,-⟩;omega
theorem Rl {l:List UInt8} (h:dm dY l=0) {n:Nat} (hn:n<=l.length):nU (l.take n)=false:=by
 rw[← Bool.not_eq_true,Rk,n_,h,take_len hn];rintro⟨g,g2⟩;omega
theorem Ut (l:List UInt8):qV l<=l.length:=by
 exact VY
theorem apT (l:List UInt8):sw l<=l.length:=by
 unfold sw
 split
 · unfold mY
   split
   · omega
   · exact qY _ _
 · split
   · exact qY _ _
   · exact Ut l
theorem ahead (l:List UInt8):Ahead l (sw l):=by
 by_cases h:dm gq l=0
 · have hw:mY l=0:=by unfold mY;rw[if_pos h]
   by_cases h2:dm dY l=0
   · have e:sw l=qV l:=by unfold sw;rw[if_neg bU,if_neg bU]
     rw[e];have hf:=Z8 hw h2 rfl;by_cases h3:qV l=0
     · rw[if_pos h3] at hf;exact .none h3 (Ov h _) (Rl h2 (Ut l)) hf
     · rw[if_neg h3] at hf;exact .sign bU (Ov h _) (Rl h2 (Ut l)) hf
   · have e:sw l=dm dY l:=by unfold sw;rw[if_neg bU,if_pos h2]
     rw[e];have hd:nU (l.take (dm dY l))=true:=by
      rw[Rk,n_,take_len (qY _ _)];exact⟨h2,by omega⟩
     cases hn:jL (l.take (dm dY l)) with
     | none=>exact .bad bU (Ov h _) hd hn (Z7 hw rfl bU hn)
     | some v=>exact .num v bU (Ov h _) hd hn (Z6 hw rfl bU hn)
 · obtain⟨e1,e2⟩:=adv h;have e:sw l=dm iU l:=by unfold sw;rw[e1,if_pos e2]
   rw[e];refine .word bU ?_ (Rl (abD h) (qY _ _)) (Z9 e1 bU);rw[Ou,n_,n_,take_len (qY _ _)];exact⟨by omega,by omega⟩
structure ui (s:ByteArray) (R:dx) (q n:Nat) (a:List Tk):Prop where
 hq:q<=s.size
 rest:eG ((bs s).drop q) a n=R
 len:a.length<=q
 line:n<=q+1
theorem ane {s:ByteArray} {R:dx} {q n:Nat} {a:List Tk} (h:ui s R q n a) (hp:¬q<s.size):R=⟨a,n,false⟩:=by
 rw[← h.rest,List.drop_eq_nil_of_le (by rw[eF];omega)];rfl
theorem ab8 {s:ByteArray} {R:dx} {q n:Nat} {a:List Tk} (h:ui s R q n a) (hp:q<s.size) (h2:s[q]=32∨s[q]=9):ui s R (q+1) n a:=by
 refine⟨by omega,?_,by have:=h.len;omega,by have:=h.line;omega⟩;rw[← h.rest,drop_at hp,abv h2]
theorem ang {s:ByteArray} {R:dx} {q n:Nat} {a:List Tk} (h:ui s R q n a) (hp:q<s.size) (h2:s[q]=35):ui s R (q+dm gL ((bs s).drop q)) n a:=by
 have h3:=qY gL ((bs s).drop q);rw[List.length_drop,eF] at h3;refine⟨by omega,?_,by have:=h.len;omega,by have:=h.line;omega⟩;rw[← h.rest];have hd:=drop_at hp;rw[h2] at hd;exact afa
theorem anf {s:ByteArray} {R:dx} {q n:Nat} {a:List Tk} (h:ui s R q n a) (hp:q<s.size) (h2:s[q]=10):ui s R (q+1) (n+1) (iD a n):=by
 refine⟨by omega,?_,by have:=h.len;have:=FQ a n;omega,by have:=h.line;omega⟩;rw[← h.rest,drop_at hp,h2,abw]
theorem Ua {s:ByteArray} {R:dx} {q n:Nat} {a:List Tk} (h:ui s R q n a) (hp:q<s.size) (ht:Cm s[q]) {x:Tk} {k:Nat} (e:iN ((bs s).drop q)=aj (x,k)):q+k<=s.size/\ui s R (q+k) n (a++[su x n]):=by
 obtain⟨k1,k2⟩:=DJ e;rw[List.length_drop,eF] at k2;refine⟨by omega,by omega,?_,by rw[List.length_append];have:=h.len;simp;omega,by have:=h.line;omega⟩;rw[← h.rest];have hd:=drop_at hp;rw[hd] at e ⊢;rw[abx ht e,← hd,List.drop_drop]
theorem ab7 {s:ByteArray} {R:dx} {q n:Nat} {a:List Tk} (h:ui s R q n a) (hp:q<s.size) (ht:Cm s[q]) (e:iN ((bs s).drop q)=af):R=⟨a,n,true⟩:=by
 rw[← h.rest];rw[drop_at hp] at e ⊢;exact abu ht e
theorem ama {s:ByteArray} {q j:Nat} (h:j<dm gL ((bs s).drop q)):∃g:q+j<s.size,¬(((s[q+j]'g).toNat:Nat):Int)=10:=by
 have h3:=qY gL ((bs s).drop q);rw[List.length_drop,eF] at h3;have g:q+j<s.size:=by omega
 refine⟨g,fun e=>?_⟩;have h4:=Kb (p:=gL) (l:=(bs s).drop q) (j:=j) h (by rw[List.length_drop,eF];omega);rw[List.getElem_drop] at h4;have h5:gL (s[q+j]'g)=true:=h4;unfold gL BL at h5;rw[decide_eq_true e] at h5;cases h5
theorem al_ {s:ByteArray} {q:Nat} (g:q+dm gL ((bs s).drop q)<s.size):(((s[q+dm gL ((bs s).drop q)]'g).toNat:Nat):Int)=10:=by
 have h4:=Ux (p:=gL) (l:=(bs s).drop q) (by rw[List.length_drop,eF];omega);rw[List.getElem_drop] at h4;have h5:gL (s[q+dm gL ((bs s).drop q)]'g)=false:=h4;have:=aaD h5;omega
theorem RN {a:List Tk} {n:Nat} (h:opn a=true):iD a n=a++[⟨4,mt,0,(n:Int)⟩]:=if_pos h
theorem RL {a:List Tk} {n:Nat} (h:opn a=false):iD a n=a:=if_neg (by simp[h])
theorem amq {a:List Tk} {n:Nat}:opn (iD a n)=false:=by
 cases h:opn a with
 | true=>rw[RN h,Eh];rfl
 | false=>rw[RL h];exact h
structure RW (w:ag) (v:Value) (a:List Tk) (wr:ag):Prop where
 own:Own w.heap.size wr v a
 below:Below w.heap.size w wr
theorem RW.grew {w wr w2:ag} {v v2:Value} {a a2:List Tk} (h:RW w v a wr) (ho:Own w.heap.size w2 v2 a2) (hg:wr.grownBy w2 v.ownBlock):RW w v2 a2 w2:=⟨ho,below_grown h.below h.below.size h.own hg⟩
theorem Qs {w wr:ag} {v:Value} {a:List Tk} (h:RW w v a wr) (x:Tk) (t:TypeId) (hn:a.length<=1000000) :
 ∃v' w',(Builtin.append_ #[65,65] 65 #[v,.slice (aj ⟨wr.heap.size+1,0,af⟩) 1 1]).run ae ((wr.alloc (.cells #[.int .i64 x.k,.string x.t,.int .i64 x.n,.int .i64 x.l] t)).alloc (.cells #[.int .i64 x.k,.string x.t,.int .i64 x.n,.int .i64 x.l] 87))=.ok v' w'/\RW w v' (a++[x]) w':=by
 have hB:Below wr.heap.size wr ((wr.alloc (.cells #[.int .i64 x.k,.string x.t,.int .i64 x.n,.int .i64 x.l] t)).alloc (.cells #[.int .i64 x.k,.string x.t,.int .i64 x.n,.int .i64 x.l] 87)):=iw (iw (Below.refl _ _));have mF:=xV (w:=wr.alloc (.cells #[.int .i64 x.k,.string x.t,.int .i64 x.n,.int .i64 x.l] t)) (x:=x) (t:=87);rw[show(wr.alloc (.cells #[.int .i64 x.k,.string x.t,.int .i64 x.n,.int .i64 x.l] t)).heap.size=wr.heap.size+1 by simp] at mF;obtain⟨v4,w4,hrun,F5,hg4⟩:=Ih (own_below h.own hB) cz mF hn (by have:=hB.size;have:=h.below.size;omega);exact⟨v4,w4,hrun,h.grew F5 (DK (DK hg4))⟩
theorem app1 {w wr:ag} {v:Value} {a:List Tk} (h:RW w v a wr) (x:Tk) (hn:a.length<=1000000) :
 ∃v' w',(Builtin.append_ #[65,65] 65 #[v,.slice (aj ⟨wr.heap.size,0,af⟩) 1 1]).run ae (wr.alloc (.cells #[.int .i64 x.k,.string x.t,.int .i64 x.n,.int .i64 x.l] 87))=.ok v' w'/\RW w v' (a++[x]) w':=by
 have hB:Below wr.heap.size wr (wr.alloc (.cells #[.int .i64 x.k,.string x.t,.int .i64 x.n,.int .i64 x.l] 87)):=iw (Below.refl _ _);obtain⟨v4,w4,hrun,F5,hg4⟩:=Ih (own_below h.own hB) cz (xV (w:=wr) (x:=x) (t:=87)) hn (by have:=hB.size;have:=h.below.size;omega);exact⟨v4,w4,hrun,h.grew F5 (DK hg4)⟩
theorem acy {w wr:ag} {s:ByteArray} {R:dx} {v:Value} {a:List Tk} {n:Nat} (h:R=⟨a,n,false⟩) (hs:¬20000<s.size) (hR:eG (bs s) [] 1=R) (h2:RW w v (fin ⟨a,n,false⟩) wr) {e:Ending} (he:e=.returned (.tuple #[v,.int .i64 0,.int .i64 0])):uk w (gu (bs s)) (kL (bs s)) (gF (bs s)) e wr:=by
 subst h;have hg:=Kl (l:=bs s) (by rw[eF];exact hs) (by rw[hR]);rw[hR] at hg;exact GD hg (by rw[he];rfl) h2.own h2.below
theorem aoo {w wr:ag} {s:ByteArray} {R:dx} {a:List Tk} {n:Nat} (h:R=⟨a,n,true⟩) (hs:¬20000<s.size) (hR:eG (bs s) [] 1=R) (hb:Below w.heap.size w wr) {e:Ending} (he:e=.returned (.tuple #[.slice af 0 0,.int .i64 (n:Int),.int .i64 8])):uk w (gu (bs s)) (kL (bs s)) (gF (bs s)) e wr:=by
 subst h;have hg:=Kk (l:=bs s) (by rw[eF];exact hs) (by rw[hR]);rw[hR] at hg;exact GD hg he (World.ownsRow_nil _ _ _ _) hb
end Lx
namespace Lx
open Nu
open Go.RowKit
theorem acu {s:ByteArray} {o:Option Int} (h:jL (bs s)=o) (hs:s.size<=9223372036854775807) (w:ag):ai ae 37 #[.string s] w fun e w'=>e=.returned (TJ o)/\w'=w:=by rw[← h];exact aoc s w hs
theorem JY {s:ByteArray} {b:Bool} (h:jG (bs s)=b) (hs:s.size<=9223372036854775807) (w:ag):ai ae 35 #[.string s] w fun e w'=>e=.returned (.bool b)/\w'=w:=by rw[← h];exact acA s w hs
theorem JU {s:ByteArray} {b:Bool} (h:nU (bs s)=b) (hs:s.size<=9223372036854775807) (w:ag):ai ae 36 #[.string s] w fun e w'=>e=.returned (.bool b)/\w'=w:=by rw[← h];exact aci s w hs
theorem anM {s:ByteArray} {n:Nat} (h:sw (bs s)=n) (hs:s.size<=140737488355328) (w:ag):ai ae 34 #[.string s] w fun e w'=>e=.returned (.int .i64 (n:Int))/\w'=w:=by rw[← h];exact anL s w hs
theorem aeu {p:Prop} (h:p:=by
 rintro e w1 ⟨rfl,rfl⟩;go_wp2_with (at_builtin;refine Lib.wpList_append_run _ rfl _ _ _ _ rfl _ _ rfl rfl _ _ hrun ?_)
 go_roundw
 case rel=>exact⟨M,n,_,hMs,rfl,by rw[HO.out],by go_num,ug,HW2⟩
 case measure=>simp[intOf];omega
 ):p:=h
theorem aes {p:Prop} (h:p:=by
 have HMM:=U hM;have h0':(0:Int)<(N:Int):=by omega
 clear hw hd hf HS2 DN hXb2 qK hw2 ht FW hal hM;go_wp2_with fail;refine(I1 _).mono ?_;rintro e w1 ⟨rfl,rfl⟩;go_wp2_with fail;refine(I2 _).mono ?_;rintro e w1 ⟨rfl,rfl⟩;go_wp2_with fail;refine(I3 _).mono ?_;exact aeu
 ):p:=h
theorem aet {p:Prop} (h:p:=by
 rintro e w1 ⟨rfl,rfl⟩;go_wp2_with fail;go_ret3
 exact aoo HE.out Db.out HRR.out afw rfl
 ):p:=h
theorem aev {p:Prop} (h:p:=by
 go_wp2_with fail;go_roundw
 case rel=>exact⟨q+1,n,a,by omega,rfl,rfl,by go_num,HS2,HW⟩
 case measure=>simp[intOf];omega
 ):p:=h
theorem aew {p:Prop} (h:p:=by
 go_wp2_with fail;go_roundw
 case rel=>exact⟨M,n,a,hMs,rfl,rfl,rfl,HF,HW⟩
 case measure=>have:=HQ.out;simp[intOf];omega
 ):p:=h
theorem acz (s:ByteArray) (w:ag) (hs:s.size<=9223372036854775807):ai ae 14 #[.string s] w (uk w (gu (bs s)) (kL (bs s)) (gF (bs s))):=by
 by_cases h:20000<s.size
 · have HV:=U (Km (l:=bs s) Hr);have c1:decide ((20000:Int)<(s.size:Int))=true:=decide_eq_true bU;go_enter func14,ntmps14;go_wp2_with fail;go_ret3
   exact GD HV.out rfl (World.ownsRow_nil _ _ _ _) (Below.refl _ _)
 · have c1:decide ((20000:Int)<(s.size:Int))=false:=decide_eq_false bU;have hs':(s.size:Int)<=20000:=by omega
   have H_:Hid (ui s (eG (bs s) [] 1) 0 1 []):=U ⟨Nat.zero_le _,by rw[List.drop_zero],Nat.le_refl _,Nat.le_refl _⟩;obtain⟨R,hR⟩:∃R,eG (bs s) [] 1=R:=⟨_,rfl⟩
   rw[hR] at H_;have HRR:=U hR;have Db:=U h;clear hR;go_enter func14,ntmps14;go_wp2_with fail;go_loopw [5,6,7,8] (fun o ln op i wr=>∃q n:Nat,∃a:List Tk,q<=s.size/\ln=.int .i64 (n:Nat)/\op=.bool (opn a)/\i=.int .i64 (q:Nat)/\Hid (ui s R q n a)/\Hid (RW w o a wr)) (fun o ln op i wr=>s.size-(intOf i).toNat)
   case atStart=>exact⟨0,1,[],Nat.zero_le _,rfl,rfl,rfl,H_,U ⟨World.ownsRow_nil _ _ _ _,Below.refl _ _⟩⟩
   case round=>
    obtain⟨q,n,a,hq,rfl,rfl,rfl,HS,HW⟩:=hrel;have hal:a.length<=20000/\n<=20001:=by have:=HS.out.len;have:=HS.out.line;omega
    have n0:(0:Int)<=(n:Int):=by omega
    have n1:(n:Int)<=20001:=by omega
    have q0:(0:Int)<=(q:Int):=by omega
    by_cases hp:q<s.size
    · have q1:(q:Int)<(s.size:Int):=by omega
      have q2:(q:Int)<=(s.size:Int):=by omega
      by_cases h32:(((s[q]).toNat:Nat):Int)=32
      · have b32:(((s[q]).toNat:Int)==32)=true:=by rw[beq_iff_eq];exact h32
        have HS2:=U (ab8 HS.out hp (.inl ((xx (n:=32) bS).2 h32)));clear h32 hal;exact aev
      have b32:(((s[q]).toNat:Int)==32)=false:=by rw[beq_eq_false_iff_ne];exact h32
      by_cases h9:(((s[q]).toNat:Nat):Int)=9
      · have b9:(((s[q]).toNat:Int)==9)=true:=by rw[beq_iff_eq];exact h9
        have HS2:=U (ab8 HS.out hp (.inr ((xx (n:=9) bS).2 h9)));clear h32 h9 hal;exact aev
      have b9:(((s[q]).toNat:Int)==9)=false:=by rw[beq_eq_false_iff_ne];exact h9
      by_cases Az:(((s[q]).toNat:Nat):Int)=35
      · have b35:(((s[q]).toNat:Int)==35)=true:=by rw[beq_iff_eq];exact Az
        have HS2:=U (ang HS.out hp ((xx (n:=35) bS).2 Az));obtain⟨K,hK⟩:∃K,dm gL ((bs s).drop q)=K:=⟨_,rfl⟩
        have HI:Hid (∀j,j<K->∃g:q+j<s.size,¬(((s[q+j]'g).toNat:Nat):Int)=10):=U (by subst hK;exact fun j hj=>ama hj);have HE:Hid (∀g:q+K<s.size,(((s[q+K]'g).toNat:Nat):Int)=10):=U (by subst hK;exact fun g=>al_ g);rw[hK] at HS2;have hKs:q+K<=s.size:=HS2.out.hq;have HK1:Hid (1<=K):=U (by
         rw[← hK];have hd:=drop_at hp;rw[(xx (n:=35) bS).2 Az] at hd;rw[hd];exact yw F8)
        clear h32 h9 Az hal hK;go_wp2_with fail;go_loop [8] (fun i=>∃j M:Nat,Hid (M=q+j)/\j<=K/\i=.int .i64 (M:Nat)) (fun i=>s.size+1-(intOf i).toNat)
        case atStart=>exact⟨0,q,U rfl,Nat.zero_le _,rfl⟩
        case round=>
         obtain⟨j,M,HM,hj,rfl⟩:=hrel;have m0:(0:Int)<=(M:Int):=by omega
         have m2:(M:Int)<=20000:=by have:=HM.out;omega
         rcases Nat.lt_or_ge j K with g|g
         · obtain⟨g1,g2⟩:∃g:M<s.size,¬(((s[M]'g).toNat:Nat):Int)=10:=by
            have:=HI.out j g;rw[← HM.out] at this;exact this
           have m1:(M:Int)<(s.size:Int):=by omega
           have b10:(((s[M]).toNat:Int)==10)=false:=by rw[beq_eq_false_iff_ne];exact g2
           have b11:(((s[M]).toNat:Int) != 10)=true:=by simp only[bne,b10];rfl
           clear g2;go_wp2_with fail;go_round
           case rel=>exact⟨j+1,M+1,U (by rw[HM.out];omega),by omega,by go_num⟩
           case measure=>simp[intOf];omega
         · have CX:Hid (M=q+K):=U (by rw[HM.out];omega);have HF:Hid (ui s R M n a):=U (by rw[CX.out];exact HS2.out);have hMs:M<=s.size:=by rw[CX.out];exact hKs
           have HQ:Hid (q<M):=U (by rw[CX.out];have:=HK1.out;omega);by_cases g1:M<s.size
           · have g2:(((s[M]).toNat:Nat):Int)=10:=by
              have:=HE.out;rw[← CX.out] at this;exact this g1
             have m1:(M:Int)<(s.size:Int):=by omega
             have b10:(((s[M]).toNat:Int)==10)=true:=by rw[beq_iff_eq];exact g2
             have b11:(((s[M]).toNat:Int) != 10)=false:=by simp only[bne,b10];rfl
             clear g2;exact aew
           · have m1:¬(M:Int)<(s.size:Int):=by omega
             have m3:decide ((M:Int)<(s.size:Int))=false:=decide_eq_false m1;exact aew
      have b35:(((s[q]).toNat:Int)==35)=false:=by rw[beq_eq_false_iff_ne];exact Az
      by_cases h10:(((s[q]).toNat:Nat):Int)=10
      · have b10:(((s[q]).toNat:Int)==10)=true:=by rw[beq_iff_eq];exact h10
        have HS2:=U (anf HS.out hp ((xx (n:=10) bS).2 h10));have HO:Hid (opn (iD a n)=false):=U amq
        cases ho:opn a with
        | true=>
         rw[RN ho] at HS2 HO;obtain⟨v2,w2,hrun,hw2⟩:=app1 HW.out ⟨4,mt,0,(n:Int)⟩ bU;have HW2:=U hw2;clear h32 h9 Az h10 hal ho hw2;go_wp2_with (at_builtin;refine Lib.wpList_append_run _ rfl _ _ _ _ rfl _ _ rfl rfl _ _ hrun ?_)
         go_roundw
         case rel=>exact⟨q+1,n+1,_,by omega,by go_num,by rw[HO.out],by go_num,HS2,HW2⟩
         case measure=>simp[intOf];omega
        | false=>
         rw[RL ho] at HS2 HO;clear h32 h9 Az h10 hal ho;go_wp2_with fail;go_roundw
         case rel=>exact⟨q+1,n+1,a,by omega,by go_num,by rw[HO.out],by go_num,HS2,HW⟩
         case measure=>simp[intOf];omega
      have b10:(((s[q]).toNat:Int)==10)=false:=by rw[beq_eq_false_iff_ne];exact h10
      have ht:Cm s[q]:=⟨fun g=>g.elim (fun e=>h32 ((xx (n:=32) bS).1 e)) (fun e=>h9 ((xx (n:=9) bS).1 e)),fun e=>Az ((xx (n:=35) bS).1 e),fun e=>h10 ((xx (n:=10) bS).1 e)⟩
      have hA:=ahead ((bs s).drop q);have zm:bs (s.extract q s.size)=(bs s).drop q:=by rw[adh,rD]
      have FW:=apT ((bs s).drop q);rw[List.length_drop,eF] at FW;obtain⟨N,hN⟩:∃N,sw ((bs s).drop q)=N:=⟨_,rfl⟩
      rw[hN] at hA FW;have I1:=anM (s:=s.extract q s.size) (n:=N) (by rw[zm];exact hN) (by rw[ByteArray.size_extract];omega);obtain⟨M,hM⟩:∃M:Nat,q+N=M:=⟨_,rfl⟩
      have hMs:M<=s.size:=by omega
      have m0:(q:Int)+(N:Int)=(M:Int):=by omega
      have m1:(q:Int)<=(M:Int):=by omega
      have m2:(M:Int)<=(s.size:Int):=by omega
      have m3:(0:Int)<=(N:Int):=by omega
      have DN:mkS (((bs s).drop q).take N)=s.extract q M:=by rw[← hM];exact(ail s q N).symm
      have qK:(s.extract q M).size<=9223372036854775807:=by rw[ByteArray.size_extract];omega
      have hXb2:bs (s.extract q M)=((bs s).drop q).take N:=by rw[← DN,rD]
      clear hN zm h32 h9 Az h10;obtain⟨h0,hw,hd,hf⟩|⟨v,h0,hw,hd,hn,hf⟩|⟨h0,hw,hd,hn,hf⟩|⟨h0,hw,hd,hf⟩|⟨h0,hw,hd,hf⟩:=hA
      · have I2:=JY (s:=s.extract q M) (b:=true) (by rw[hXb2];exact hw) qK;have I3:=JU (s:=s.extract q M) (b:=false) (by rw[hXb2];exact hd) qK;have HS2:=(Ua HS.out hp ht hf).2;rw[DN,hM] at HS2;have ug:=U HS2;have z:((N:Int)==0)=false:=by rw[beq_eq_false_iff_ne];omega
        obtain⟨v2,w2,hrun,hw2⟩:=Qs HW.out (su ⟨1,s.extract q M,0,0⟩ n) 87 bU;have HW2:=U hw2;have HO:Hid (opn (a++[su ⟨1,s.extract q M,0,0⟩ n])=true):=U (by rw[Eh];rfl);exact aes
      · have I2:=JY (s:=s.extract q M) (b:=false) (by rw[hXb2];exact hw) qK;have I3:=JU (s:=s.extract q M) (b:=true) (by rw[hXb2];exact hd) qK;have I4:∀w1,ai ae 37 #[.string (s.extract q M)] w1 fun e w'=>e=.returned (.tuple #[.int .i64 v,.bool true])/\w'=w1:=fun w1=>acu (o:=aj v) (by rw[hXb2];exact hn) qK w1;have HS2:=(Ua HS.out hp ht hf).2;rw[hM] at HS2;have ug:=U HS2;have z:((N:Int)==0)=false:=by rw[beq_eq_false_iff_ne];omega
        obtain⟨v2,w2,hrun,hw2⟩:=Qs HW.out (su ⟨2,mt,v,0⟩ n) 87 bU;have HW2:=U hw2;have HO:Hid (opn (a++[su ⟨2,mt,v,0⟩ n])=true):=U (by rw[Eh];rfl);have HMM:=U hM;have h0':(0:Int)<(N:Int):=by omega
        clear hw hd hf HS2 DN hXb2 qK hw2 ht FW hal hM hn;go_wp2_with fail;refine(I1 _).mono ?_;rintro e w1 ⟨rfl,rfl⟩;go_wp2_with fail;refine(I2 _).mono ?_;rintro e w1 ⟨rfl,rfl⟩;go_wp2_with fail;refine(I3 _).mono ?_;rintro e w1 ⟨rfl,rfl⟩;go_wp2_with fail;refine(I4 _).mono ?_;exact aeu
      · have I2:=JY (s:=s.extract q M) (b:=false) (by rw[hXb2];exact hw) qK;have I3:=JU (s:=s.extract q M) (b:=true) (by rw[hXb2];exact hd) qK;have I4:∀w1,ai ae 37 #[.string (s.extract q M)] w1 fun e w'=>e=.returned (.tuple #[.int .i64 0,.bool false])/\w'=w1:=fun w1=>acu (o:=Option.none) (by rw[hXb2];exact hn) qK w1;have HE:=U (ab7 HS.out hp ht hf);have hBW:=HW.out.below;clear hw hd hf DN hXb2 qK ht FW hal hM hn;go_wp2_with fail;refine(I1 _).mono ?_;rintro e w1 ⟨rfl,rfl⟩;go_wp2_with fail;refine(I2 _).mono ?_;rintro e w1 ⟨rfl,rfl⟩;go_wp2_with fail;refine(I3 _).mono ?_;rintro e w1 ⟨rfl,rfl⟩;go_wp2_with fail;refine(I4 _).mono ?_;exact aet
      · have I2:=JY (s:=s.extract q M) (b:=false) (by rw[hXb2];exact hw) qK;have I3:=JU (s:=s.extract q M) (b:=false) (by rw[hXb2];exact hd) qK;have HS2:=(Ua HS.out hp ht hf).2;rw[DN,hM] at HS2;have ug:=U HS2;have z:((N:Int)==0)=false:=by rw[beq_eq_false_iff_ne];omega
        obtain⟨v2,w2,hrun,hw2⟩:=Qs HW.out (su ⟨3,s.extract q M,0,0⟩ n) 87 bU;have HW2:=U hw2;have HO:Hid (opn (a++[su ⟨3,s.extract q M,0,0⟩ n])=true):=U (by rw[Eh];rfl);exact aes
      · have I2:=JY (s:=s.extract q M) (b:=false) (by rw[hXb2];exact hw) qK;have I3:=JU (s:=s.extract q M) (b:=false) (by rw[hXb2];exact hd) qK;have HE:=U (ab7 HS.out hp ht hf);have hBW:=HW.out.below;have z:((N:Int)==0)=true:=by rw[beq_iff_eq];omega
        clear hw hd hf DN hXb2 qK ht FW hal hM h0;go_wp2_with fail;refine(I1 _).mono ?_;rintro e w1 ⟨rfl,rfl⟩;go_wp2_with fail;refine(I2 _).mono ?_;rintro e w1 ⟨rfl,rfl⟩;go_wp2_with fail;refine(I3 _).mono ?_;exact aet
    · have hq2:q=s.size:=by omega
      have HE:=U (ane HS.out hp)
      cases ho:opn a with
      | true=>
       obtain⟨v2,w2,hrun,hw2⟩:=app1 HW.out ⟨4,mt,0,(n:Int)⟩ bU;obtain⟨v3,w3,SN,hw3⟩:=app1 hw2 ⟨0,mt,0,(n:Int)⟩ (by rw[List.length_append];simp;omega);have HW3:Hid (RW w v3 (fin ⟨a,n,false⟩) w3):=U (by unfold fin;rw[RN ho];exact hw3);clear hal ho hw2 hw3;go_wp2_with (at_builtin;first|(refine Lib.wpList_append_run _ rfl _ _ _ _ rfl _ _ rfl rfl _ _ hrun ?_)|(refine Lib.wpList_append_run _ rfl _ _ _ _ rfl _ _ rfl rfl _ _ SN ?_))
       go_ret3
       exact acy HE.out Db.out HRR.out HW3.out rfl
      | false=>
       obtain⟨v3,w3,SN,hw3⟩:=app1 HW.out ⟨0,mt,0,(n:Int)⟩ bU;have HW3:Hid (RW w v3 (fin ⟨a,n,false⟩) w3):=U (by unfold fin;rw[RL ho];exact hw3);clear hal ho hw3;go_wp2_with (at_builtin;(refine Lib.wpList_append_run _ rfl _ _ _ _ rfl _ _ rfl rfl _ _ SN ?_))
       go_ret3
       exact acy HE.out Db.out HRR.out HW3.out rfl
end Lx
namespace Ps
open Ps.P (rt bd)
open Go.RowKit
open Lx (Tk bs uk gu kL gF AU acz)
open Ex (Ex Gives In bW fU NM)
open Md (bX)
section
variable {L:Lk} {g:Nat} {b:Bool} {t:List Tk}
theorem ajo (w:ag) (hR:Rp L g b t w):ai ae 17 #[.pointer (aj ⟨g,0,af⟩)] w (fun e w'=>e=.returned (.tuple #[.int .i64 (hd t).l,.bool (b || !decide ((hd t).k=0))])/\Bt g w w'):=by
 have q:=zl (hd t).k (hd t).n (hd t).l (hd t).t;have q2:=ZE (hd t).k (hd t).n (hd t).l (hd t).t;have C1:Hid (∀W c,Rp L g c t W->ai ae 43 #[.pointer (aj ⟨g,0,af⟩)] W (Gives (tv (hd t)) W)):=U fun W c h=>BV W h;unfold tv at C1;have c2:=hR.c2;have f2:=hR.ny (i:=2);have hg:=hR.blk;have HR:=U hR
 cases b with
 | true=>
  show ai _ _ _ _ (fun e w'=>e=.returned (.tuple #[.int .i64 (hd t).l,.bool true])/\Bt g w w')
  clear q hR;go_enter func17,ntmps17;go_wp2_with fail;go_region_with (refine(C1.out _ _ (HR.out.low qe)).mono ?_;rintro e w1 ⟨rfl,hb1⟩;have q1:Bt g _ w1:=bT.of hb1;have d2:World.cell? w1 ⟨g,2,af⟩=aj (.bool true):=(HR.out.low (w2:=w1) (oJ hb1)).c2)
  all_goals
   go_wp2_with fail;refine ah (v:=.tuple #[.int .i64 (hd t).l,.bool true]) (by simp[results,results17,go_sem]) rfl ⟨rfl,by exact qe⟩
 | false=>
  by_cases h:(hd t).k=0
  · have e1:((hd t).k != 0)=false:=by simp[h]
    have e2:(false || !decide ((hd t).k=0))=false:=by simp[h]
    rw[e2];clear e2 h hR;go_enter func17,ntmps17;go_wp2_with fail;refine(C1.out _ _ (HR.out.low qe)).mono ?_;rintro e w1 ⟨rfl,hb1⟩;have q1:Bt g w w1:=bT.of hb1;have HR1:=U (HR.out.low (w2:=w1) (bT.of hb1));have dz:=HR1.out.c2;clear hb1 c2 f2;go_wp2_with fail;go_region_with (refine(C1.out _ _ (HR1.out.low qe)).mono ?_;rintro e w2 ⟨rfl,hb2⟩;have q3:Bt g _ w2:=bT.of hb2;have d2:World.cell? w2 ⟨g,2,af⟩=aj (.bool false):=(HR1.out.low (w2:=w2) (oJ hb2)).c2)
    all_goals
     go_wp2_with fail;refine ah (v:=.tuple #[.int .i64 (hd t).l,.bool false]) (by simp[results,results17,go_sem]) rfl ⟨rfl,by exact qe⟩
  · have e1:((hd t).k != 0)=true:=by simp[h]
    have e2:(false || !decide ((hd t).k=0))=true:=by simp[h]
    rw[e2];clear e2 h hR;go_enter func17,ntmps17;go_wp2_with fail;refine(C1.out _ _ (HR.out.low qe)).mono ?_;rintro e w1 ⟨rfl,hb1⟩;have q1:Bt g w w1:=bT.of hb1;have R1:=HR.out.low (w2:=w1) (bT.of hb1);have d2:=R1.c2;have f2':=R1.ny (i:=2);have HR1:=U R1.wrong;clear hb1 c2 f2 R1;go_wp2_with fail;have HB1:Hid (Bt g w (w1.setCell ⟨g,2,af⟩ (.bool true))):=U qe
    generalize (w1.setCell ⟨g,2,af⟩ (.bool true))=wz at *
    have hb1:=HB1.out;have dz:=HR1.out.c2;clear d2 f2' q1;go_region_with (refine(C1.out _ _ (HR1.out.low qe)).mono ?_;rintro e w2 ⟨rfl,hb2⟩;have q3:Bt g _ w2:=bT.of hb2;have d3:World.cell? w2 ⟨g,2,af⟩=aj (.bool true):=(HR1.out.low (w2:=w2) (oJ hb2)).c2)
    all_goals
     go_wp2_with fail;refine ah (v:=.tuple #[.int .i64 (hd t).l,.bool true]) (by simp[results,results17,go_sem]) rfl ⟨rfl,by exact qe⟩
end
theorem anC {t u:List Tk} {x:Ex} {c:Bool} (h:Rel (bd jO fun x=>bd fM fun _=>rt x) false t x c u):((c || !decide ((hd u).k=0))=false->run rY t=.ok x u.tail)/\((c || !decide ((hd u).k=0))=true->∃v,run rY t=.no v):=by
 have e:∀(z:R Ex),run (bd jO fun x=>bd fM fun _=>rt x) t=z->(∀y v,z=.ok y v->run rY t=run (bd pz fun _=>rt y) v)/\(∀v,z=.no v->run rY t=.no v):=by
  intro z hz;refine⟨fun y v hv=>?_,fun v hv=>?_⟩
  · rw[hv] at hz;unfold rY
    cases h1:run jO t with
    | no v1=>rw[eU h1] at hz;cases hz
    | ok y1 v1=>
     rw[dN h1] at hz ⊢
     cases h2:run fM v1 with
     | no v2=>rw[eU h2] at hz;cases hz
     | ok y2 v2=>rw[dN h2,jX] at hz;cases hz;rw[dN h2]
  · rw[hv] at hz;unfold rY
    cases h1:run jO t with
    | no v1=>rw[eU h1] at hz ⊢; cases hz;rfl
    | ok y1 v1=>
     rw[dN h1] at hz ⊢
     cases h2:run fM v1 with
     | no v2=>rw[eU h2] at hz ⊢; cases hz;rfl
     | ok y2 v2=>rw[dN h2,jX] at hz;cases hz
 rcases h.2 rfl with⟨h1,rfl⟩|⟨h1,rfl⟩
 · have h2:=(e _ h1).1 x u rfl;rw[h2];refine⟨fun h3=>?_,fun h3=>?_⟩
   · have hk:(hd u).k=0:=by simpa using h3
     unfold pz;rw[dN (dN (tO hk)),jX]
   · have hk:¬(hd u).k=0:=by simpa using h3
     unfold pz;exact⟨u,by rw[eU (eU (zO hk))]⟩
 · exact⟨fun h3=>(by cases h3),fun _=>⟨u,(e _ h1).2 u rfl⟩⟩
theorem Xb (l:List Tk) (b o m c:Nat):Lk.at ⟨b,o,m,c,l⟩ l=0:=by unfold Lk.at;exact Nat.sub_self _
theorem O9 {p:Prop} (h:p:=by
 exact acn rfl _ _ w.heap.size 26 _ (0,0) _ rfl (mi Z.out rfl) underlying26 rfl dA rfl
 ):p:=h
set_option maxHeartbeats 8000000 in
theorem anF (s:ByteArray) (w:ag) (hs:s.size<=9223372036854775807):ai ae 6 #[.string s] w (EO (nD (bs s)) w):=by
 have HE:Hid (∀W,ai ae 14 #[.string s] W (uk W (gu (bs s)) (kL (bs s)) (gF (bs s)))):=U fun W=>acz s W hs;have Z:=jR w;obtain⟨E,rM⟩:∃E,gF (bs s)=E:=⟨_,rfl⟩
 obtain⟨q,hq⟩:∃q,nD (bs s)=q:=⟨_,rfl⟩
 rw[rM] at HE;rw[hq];have gH:=U rM;have HQ:=U hq;clear rM hq;go_enter func6,ntmps6;go_wp2_with fail;refine(HE.out _).mono ?_;rintro e w1 ⟨v1,rfl,ho,hb⟩;clear HE;replace Z:=U (cO (w2:=w1) Z.out (by have q1:=hb;have q:bT (fun k=>k=w.heap.size) _ w1:=bT.of q1;exact qe));have HB:Hid (bT (fun k=>k<w.heap.size) w w1):=U Wi;have HO:=U ho;have hz:=Z.out.lt;clear hb ho;by_cases h0:E=0
 · have b0:(E != 0)=false:=by simp[h0]
   subst h0;obtain⟨hgd,ku⟩:=MW gH.out;obtain⟨p,c,rfl,ht,hc,hp⟩:=AU HO.out;have hne:=hgd.ne;obtain⟨g0,rfl,hg0⟩:∃g,p=aj ⟨g,0,af⟩/\g<w1.heap.size:=by
    have ht2:=ht;obtain⟨e1,e2,e3|⟨b',o',e,hlt,hcc⟩⟩:=ht2
    · omega
    · rcases hp with⟨h,-⟩|⟨g,h,h2⟩
      · rw[h] at e;cases e
      · refine⟨g,h,?_⟩;rw[h] at e;cases e
        exact hlt
   obtain⟨l,hl⟩:∃l,gu (bs s)=l:=⟨_,rfl⟩
   rw[hl] at hgd ku ht hne HO hc;rw[show(gu (bs s)).length=l.length by rw[hl]];have RP:Rp ⟨g0,0,l.length,c,l⟩ w1.heap.size false l (w1.alloc (.cells #[.slice (aj ⟨g0,0,af⟩) l.length c,.int .i64 0,.bool false] 70)):=by
    refine⟨hg0,?_,?_,UT ht qe (Nat.le_of_lt hg0),hgd,ku⟩
    · have h:=bX.new (w:=w1) (t:=70) (c:=#[.slice (aj ⟨g0,0,af⟩) l.length c,.int .i64 0,.bool false]);unfold Ug;rw[Xb];exact h
    · show List.drop (Lk.at ⟨g0,0,l.length,c,l⟩ l) l=l
      rw[Xb];rfl
   have HR:=U RP;have HG:=U hgd;have HF:=U ku;have kg:=U hl;clear RP ht hgd ku hne hc hp HO hl;go_wp2_with fail;refine(anc _ (HR.out.low qe)).mono ?_;rintro e w2 ⟨x2,c2,u2,v2,rfl,q2,⟨p2,m2,d2,rfl,k2⟩,R2,r2⟩;replace Z:=bV Z w2;replace HB:Hid (bT (fun k=>k<w.heap.size) w w2):=U qh;replace HR:=U R2;have hs2:w1.heap.size+1<=w2.heap.size:=by have h:=q2.size;simp at h;omega
   have KX:Hid (bW (fun b=>w1.heap.size<b/\b<w2.heap.size) w2 x2 p2 m2):=U (k2.mono fun b hb hlt=>by
    have hb':_<=b:=hb;simp at hb'
    exact⟨by omega,hlt⟩)
   have Y:=U (bX.new (w:=w2) (t:=26) (c:=#[.int .i64 x2.o,.string x2.s,.int .i64 x2.n,.slice p2 m2 d2]));have HL2:=U r2;clear q2 R2 k2 r2;dsimp only [b_];go_wp2_with fail;refine(al0 _ (HR.out.low qe)).mono ?_;rintro e w3 ⟨x3,c3,u3,v3,rfl,q3,rfl,R3,r3⟩;replace Z:=bV Z w3;replace Y:=bV Y w3;replace HB:Hid (bT (fun k=>k<w.heap.size) w w3):=U qh;replace HR:=U R3;replace KX:Hid (bW (fun b=>w1.heap.size<b/\¬b=w2.heap.size) w3 x2 p2 m2):=U (by
    have k:=Ex.bW.map (w:=w2) (w2:=w2.alloc (.cells #[.int .i64 x2.o,.string x2.s,.int .i64 x2.n,.slice p2 m2 d2] 26)) (H:=fun b=>w1.heap.size<b/\¬b=w2.heap.size) cz (fun b hb hlt=>⟨⟨hb.1,by omega⟩,by show(w2.heap.push _)[b]?=_;rw[Array.getElem?_push,if_neg bU]⟩) _ KX.out;exact Ex.bW.map q3.size (fun b hb hlt=>⟨hb,q3.block b hlt (by have:=hb.1;omega)⟩) _ k)
   have HL:=U (anC (HL2.out.bd (r3.bd (Rel.rt (x:=x2)))));clear q3 R3 r3 HL2;go_wp2_with fail;refine(ajo _ (HR.out.low qe)).mono ?_;rintro e w4 ⟨rfl,q4⟩;obtain⟨bb,hbb⟩:∃bb,(c3 || !decide ((hd u3).k=0))=bb:=⟨_,rfl⟩
   rw[hbb] at HL ⊢;replace Z:=bV Z w4;replace Y:=bV Y w4;replace HB:Hid (bT (fun k=>k<w.heap.size) w w4):=U qh;replace KX:Hid (bW (fun b=>w1.heap.size<b/\¬b=w2.heap.size) w4 x2 p2 m2):=U (Ex.bW.map q4.size (fun b hb hlt=>⟨hb,q4.block b hlt (by have:=hb.1;omega)⟩) _ KX.out);clear q4 hbb HR
   cases bb with
   | true=>
    obtain⟨v,hv⟩:=HL.out.2 rfl;have HX:=U (HQ.out.symm.trans (acg gH.out (by rw[kg.out];exact hv)));clear hv HL HQ gH HG HF kg;obtain⟨y0,y1,y2,y3,fz⟩:=df Z.out;go_wp2_with fail;refine ah (v:=.tuple #[.agg (b_ nX af 0 0),.int .i64 9]) ?_ rfl ⟨lU qh,af,0,0,by rw[HX.out],by rw[HX.out];exact Ex.bW.zero⟩;exact O9
   | false=>
    have r5:=HL.out.1 rfl;obtain⟨hcnt,hsz⟩:=abK HG.out HF.out r5;have r6:run rY (gu (bs s))=.ok x2 u3.tail:=by rw[kg.out];exact r5
    have HX:Hid ((fU false x2=0->q=(x2,0,0))/\(¬fU false x2=0->q=(nX,0,fU false x2))):=U ⟨fun h=>HQ.out.symm.trans (ach gH.out r6 h),fun h=>HQ.out.symm.trans (ace gH.out r6 h)⟩;have HC:=U (fun W (hI:In W x2 p2 m2)=>NM x2 p2 m2 d2 W hI hsz bU);clear r5 r6 hcnt hsz HL HQ gH HG HF kg;obtain⟨V,hV⟩:∃V,fU false x2=V:=⟨_,rfl⟩
    rw[hV] at HX HC;clear hV;obtain⟨l0,l1,l2,l3,-⟩:=df Y.out;go_wp2_with fail;refine(HC.out _ (bW.all (KX.out))).mono ?_;rintro e w5 ⟨rfl,hb5⟩;clear l0 l1 l2 l3;have q5:bT (fun k=>k<w4.heap.size) w4 w5:=bT.of hb5;replace Z:=U (cO (w2:=w5) Z.out (by have q:bT (fun k=>k=w.heap.size) _ w5:=bT.of hb5;exact qe));replace Y:=U (cO (w2:=w5) Y.out (by have q:bT (fun k=>k=w2.heap.size) _ w5:=bT.of hb5;exact qe));replace HB:Hid (bT (fun k=>k<w.heap.size) w w5):=U (by have bZ:=HB.out;have q:bT (fun k=>k<w.heap.size) _ w5:=bT.of hb5;exact qe);replace KX:Hid (bW (fun b=>w1.heap.size<b/\¬b=w2.heap.size) w5 x2 p2 m2):=U (Ex.bW.map hb5.size (fun b hb hlt=>⟨hb,hb5.block b hlt⟩) _ KX.out);clear hb5 q5;by_cases h1:V=0
    · have b1:(V != 0)=false:=by simp[h1]
      have hx:=U (HX.out.1 h1);clear h1 HX HC;obtain⟨l0,l1,l2,l3,-⟩:=df Y.out;obtain⟨y0,y1,y2,y3,fz⟩:=df Z.out;go_wp2_with fail;have qq:∀W,bT (fun b=>w1.heap.size<b/\¬b=w2.heap.size) w5 W->bW (fun b=>w.heap.size<=b) W x2 p2 m2:=fun W q=>Ex.bW.map q.size (fun b hb hlt=>⟨by show w.heap.size<=b;have:=hb.1;omega,q.block b hlt hb⟩) _ KX.out;refine ah (v:=.tuple #[.agg (b_ x2 p2 m2 d2),.int .i64 0]) ?_ rfl ⟨lU qh,p2,m2,d2,by rw[hx.out],by rw[hx.out];exact qq _ qe⟩;exact O9
    · have b1:(V != 0)=true:=by simp[h1]
      have hx:=U (HX.out.2 h1);clear h1 HX;obtain⟨l0,l1,l2,l3,-⟩:=df Y.out;go_wp2_with fail;refine(HC.out _ (bW.all (KX.out))).mono ?_;rintro e w6 ⟨rfl,hb6⟩;replace Z:=U (cO (w2:=w6) Z.out (by have q:bT (fun k=>k=w.heap.size) _ w6:=bT.of hb6;exact qe));replace HB:Hid (bT (fun k=>k<w.heap.size) w w6):=U (by have bZ:=HB.out;have q:bT (fun k=>k<w.heap.size) _ w6:=bT.of hb6;exact qe);clear hb6 l0 l1 l2 l3 HC KX Y;obtain⟨y0,y1,y2,y3,fz⟩:=df Z.out;go_wp2_with fail;refine ah (v:=.tuple #[.agg (b_ nX af 0 0),.int .i64 V]) ?_ rfl ⟨lU qh,af,0,0,by rw[hx.out],by rw[hx.out];exact Ex.bW.zero⟩;exact O9
 · have b0:(E != 0)=true:=by simp[h0]
   have HX:=U (HQ.out.symm.trans (acf (by rw[gH.out];exact h0)));clear h0 HO;obtain⟨y0,y1,y2,y3,fz⟩:=df Z.out;go_wp2_with fail;refine ah (v:=.tuple #[.agg (b_ nX af 0 0),.int .i64 E]) ?_ rfl ⟨lU qh,af,0,0,by rw[HX.out,gH.out],by rw[HX.out];exact Ex.bW.zero⟩;exact O9
end Ps
namespace Ps
open Go.RowKit
open Lx (jg)
open Md (bX dM dX Ah jS)
theorem ahi (p:Addr) (x n:Int) (older:List PanicEntry) (w:ag) (hc:w.cell? p=aj (.int .i64 x)) (hz:w.frozen? p=false):CallsD ae 80 #[.pointer (aj p)] (.panicking ({ v:=.iface 120 (.agg #[.int .i64 n]),recovered:=false }::older)) w fun e u' w'=>e=.returned (.tuple #[])/\u'=.panicking ({ v:=.iface 120 (.agg #[.int .i64 n]),recovered:=true }::older)/\w'=(w.alloc (.cells #[.int .i64 n] 120)).setCell p (.int .i64 n):=by
 refine callsD_of_wpS func80 rfl fun c₀ cs hu=>?_;have xK:(Instr.typeAssert (Value.iface 120 (Value.agg #[Value.int IntKind.i64 n])) 20 120 true).run ae w=.ok (.tuple #[.agg #[.int .i64 n],.bool true]) w:=by kernel_rfl
 have hlt:p.block<w.heap.size:=by
  exact WB
 have hbb:(w.alloc (.cells #[.int .i64 n] 120)).heap[p.block]?=w.heap[p.block]?:=by
  exact afd
 have h1:(w.alloc (.cells #[.int .i64 n] 120)).cell? ⟨w.heap.size,0,af⟩=aj (.int .i64 n):=by rw[World.cell?_alloc_mark];rfl
 have h2:(w.alloc (.cells #[.int .i64 n] 120)).cell? p=aj (.int .i64 x):=(World.cell?_of_block hbb).trans hc;have h3:(w.alloc (.cells #[.int .i64 n] 120)).frozen? p=false:=by unfold World.frozen? at hz ⊢; rw[hbb];exact hz
 apply wpS_seq
 apply wpS_region
 simp[wpOpsS,go_sem,recoverD,hu,ntmps80,Exit.thenS,xK]
 apply wpS_seq
 apply wpS_region
 simp[wpOpsS,go_sem,Exit.thenS]
 refine wpS_cond (t:=true) Hq ?_;simp only[if_true]
 apply wpS_region
 simp[wpOpsS,go_sem,h1,h2,h3,bodyPostS,results,results80]
theorem ahh (p:Addr) (w:ag):CallsD ae 80 #[.pointer (aj p)] .returning w fun e u' w'=>e=.returned (.tuple #[])/\u'=.returning/\w'=w.alloc (.cells #[.int .i64 0] 120):=by
 refine callsD_of_wpS func80 rfl fun c₀ cs hu=>?_;have xK:(Instr.typeAssert Value.nilIface 20 120 true).run ae w=.ok (.tuple #[.agg #[.int .i64 0],.bool false]) w:=by kernel_rfl
 apply wpS_seq
 apply wpS_region
 simp[wpOpsS,go_sem,recoverD,hu,ntmps80,Exit.thenS,xK]
 apply wpS_seq
 apply wpS_region
 simp[wpOpsS,go_sem,Exit.thenS]
 refine wpS_cond (t:=false) Hq ?_;simp only[Bool.false_eq_true,if_false];refine wpS_of_wp (wp_skip ?_);cases c₀
 simp_all [bodyPostS,results,results80]
theorem ajR (f:FuncId) (m:P dM) (L:Lk) (w:ag) (hf:∀(a:Array Value) (W:ag),(callFunc f a).run ae W=.ok (.enter f a) W) (ht:jg w (aj ⟨L.b,L.o,af⟩) L.m L.l) (hgd:Gd L.l) (ku:L.l.length<=30000) (hC:∀g W,Rd L g L.l W->ai ae f #[.pointer (aj ⟨g,0,af⟩)] W (PE g (VR Ah) (run m L.l) W)):ai ae 45 #[.func (.func f) #[] #[],.slice (aj ⟨L.b,L.o,af⟩) L.m L.c] w (FO (VR Ah) (.agg #[.string ⟨#[]⟩,.slice af 0 0,.slice af 0 0,.slice af 0 0]) (run m L.l) w):=by
 have HC:=U hC;have HT:=U ht;have HG:=U hgd;have HF:=U ku;obtain⟨r,hr⟩:∃r,run m L.l=r:=⟨_,rfl⟩
 rw[hr] at HC ⊢;clear hC ht hgd ku;have hmf:∀(fn:Fn) (first cap:Array Value) (w:ag),(Instr.makeFunc fn first cap).run ae w=.ok (.func fn first cap) w:=fun _ _ _ _=>rfl;go_enter_defers func45,ntmps45
 go_wp2_with fail;have hlb:L.b<w.heap.size:=by
  exact Wz
 have z0:bX (w.alloc (.cells #[.string ⟨#[]⟩,.slice af 0 0,.slice af 0 0,.slice af 0 0] 36)) w.heap.size 36 #[.string ⟨#[]⟩,.slice af 0 0,.slice af 0 0,.slice af 0 0]:=bX.new;have n0:bX ((w.alloc (.cells #[.string ⟨#[]⟩,.slice af 0 0,.slice af 0 0,.slice af 0 0] 36)).alloc (.cells #[.int .i64 0] 3)) (w.heap.size+1) 3 #[.int .i64 0]:=by
  have h:=bX.new (w:=w.alloc (.cells #[.string ⟨#[]⟩,.slice af 0 0,.slice af 0 0,.slice af 0 0] 36)) (t:=3) (c:=#[.int .i64 0]);exact VV
 have Z:=U z0;have N:=U n0;have hzl:=z0.lt;have hnl:=n0.lt;clear z0 n0;refine(HC.out (w.heap.size+1+1) _ (Uc rfl cz vD (HT.out.alloc.alloc) HG.out HF.out)).mono ?_;rintro e w1 h1;rcases h1.cases with⟨x1,u1,v1,r1,rfl,b1,V1⟩|⟨u1,r1,rfl,b1⟩
 · have Z1:=U (cO (w2:=w1) Z.out qe);have N1:=U (cO (w2:=w1) N.out qe);have B1:Hid (bT (fun k=>k<w.heap.size) w w1):=U qe;have HK:=U r1;obtain⟨c1,rfl,P1,rfl,k1⟩:=V1;have K1:Hid (jS (fun b=>w.heap.size+1<b) w1 x1 P1):=U (k1.map (Nat.le_refl _) fun b hb hlt=>⟨by
    have hb':_<=b:=hb;simp at hb'
    show w.heap.size+1<b
    omega,rfl⟩)
   dsimp only [dX];clear b1 h1 r1 k1 Z N;obtain⟨y0,y1,y2,y3,fz⟩:=df Z1.out;have q0:World.cell? _ ⟨_,0,af⟩=aj (.int .i64 0):=N1.out.get rfl;have qz:∀i,World.frozen? _ ⟨_,i,af⟩=false:=fun i=>eu (i:=i) N1.out;go_wp2_with fail;refine leaves_cons (f:=80) (args:=#[.pointer (aj ⟨w.heap.size+1,0,af⟩)]) cz (by simp[go_sem]) ?_;refine(ahh _ _).mono ?_;rintro e u' w'' ⟨rfl,rfl,rfl⟩;have BB:=B1.out;refine⟨_,NP rfl _ _ w.heap.size (w.heap.size+1) 36 (dX x1 P1) (0,0) _ (.int .i64 0) rfl rfl ?_ (Gi ?_) underlying36 rfl dA,?_⟩
   · exact cO (mi Z1.out rfl) qe
   · have N4:=eX (i:=0) (v:=.int .i64 0) (cO (w2:=((((w1.setCell ⟨w.heap.size,0,af⟩ (.string x1.nm)).setCell ⟨w.heap.size,1,af⟩ (.slice P1.pap P1.El P1.Ej)).setCell ⟨w.heap.size,2,af⟩ (.slice P1.zM P1.yu P1.Cc)).setCell ⟨w.heap.size,3,af⟩ (.slice P1.Gh P1.lim P1.JD))) N1.out qe);exact(cO N4 qe).get (r:=0) rfl
   · have q:∀W,bT (fun b=>w.heap.size+1<b) w1 W->jS (fun b=>w.heap.size<=b) W x1 P1:=fun W q=>K1.out.map q.size (fun b hb hlt=>⟨by show w.heap.size<=b;have hb':w.heap.size+1<b:=hb;omega,q.block b hlt hb⟩);exact FO.ok HK.out (lU qe) ⟨_,rfl,P1,rfl,q _ qe⟩
 · have Z1:=U (cO (w2:=w1) Z.out qe);have N1:=U (cO (w2:=w1) N.out qe);have B1:Hid (bT (fun k=>k<w.heap.size) w w1):=U qe;have HK:=U r1;clear b1 h1 r1 Z N;go_wp2_with fail;refine leaves_cons (f:=80) (args:=#[.pointer (aj ⟨w.heap.size+1,0,af⟩)]) cz (by simp[go_sem]) ?_;refine(ahi _ 0 (hd u1).l [] _ (N1.out.get rfl) (eu N1.out)).mono ?_;rintro e u' w'' ⟨rfl,rfl,rfl⟩;refine⟨_,NP rfl _ _ w.heap.size (w.heap.size+1) 36 #[.string ⟨#[]⟩,.slice af 0 0,.slice af 0 0,.slice af 0 0] (0,0) _ (.int .i64 (hd u1).l) rfl rfl ?_ (Gi ?_) underlying36 rfl dA,?_⟩
   · exact cO Z1.out qe
   · exact WC
   · exact afn
end Ps
namespace Md
open Go.RowKit Go.Maps
open Ex (Gives)
attribute [local go_sem] Ma ag5 ag6 LY agA agB
theorem atS {p:Prop} (h:p:=by
 go_enter func145,ntmps145;exact We
 ):p:=h
theorem atT {p:Prop} (h:p:=by
 rw[show Bb x=0 by unfold Bb;rw[hr,h];rfl];clear hr;exact atS
 ):p:=h
theorem ahG (x:ko) (w:ag):ai ae 145 #[.agg (mq x)] w (Gives (.int .i64 (Bb x)) w):=by
 obtain⟨r,hr⟩:∃r,iL 1 x.rm 1000=r:=⟨_,rfl⟩
 have CB:=U (fun W=>Dl hr W)
 cases r with
 | false=>
  rw[show Bb x=2 by unfold Bb;rw[hr];rfl];clear hr;exact atS
 | true=>
  rcases UW x.po with h|h|h|⟨e1,e2,e3,h1,h2,h3⟩
  · exact atT
  · exact atT
  · exact atT
  · rw[show Bb x=1 by
     have:iL 1 x.po 3=false:=by
      unfold iL;by_cases a:1<=x.po
      · rw[decide_eq_true a,decide_eq_false bU];rfl
      · rw[decide_eq_false a];rfl
     unfold Bb;rw[hr,this];rfl]
    have n1:(x.po != 1)=true:=bne_iff_ne.2 h1;have n2:(x.po != 2)=true:=bne_iff_ne.2 h2;have n3:(x.po != 3)=true:=bne_iff_ne.2 h3;clear hr e1 e2 e3 h1 h2 h3;exact atS
theorem auB {p:Prop} (h:p:=by
 clear hr hs;go_enter func148,ntmps148;go_wp2_with fail;refine(CB.out _).mono ?_;rintro e w2 ⟨rfl,rfl⟩;go_wp2_with fail;refine(CC.out _).mono ?_;rintro e w2 ⟨rfl,rfl⟩;exact dS
 ):p:=h
theorem ahu (x:j_) (w:ag):ai ae 148 #[.agg (mo x)] w (Gives (.int .i64 (Aj x)) w):=by
 obtain⟨r,hr⟩:∃r,iL 1 x.ln 1000=r:=⟨_,rfl⟩
 obtain⟨s,hs⟩:∃r,iL 1 x.sp 1000=r:=⟨_,rfl⟩
 have CB:=U (fun W=>Dl hr W);have CC:=U (fun W=>Dl hs W)
 cases r with
 | false=>
  rw[show Aj x=2 by unfold Aj;rw[hr];rfl];clear hr hs;go_enter func148,ntmps148;exact We
 | true=>
  cases s with
  | false=>
   rw[show Aj x=2 by unfold Aj;rw[hr,hs];rfl];exact auB
  | true=>
   rw[show Aj x=0 by unfold Aj;rw[hr,hs];rfl];exact auB
end Md
end Go.Proofs.YthnillhnjhalmaaGreatDoor
