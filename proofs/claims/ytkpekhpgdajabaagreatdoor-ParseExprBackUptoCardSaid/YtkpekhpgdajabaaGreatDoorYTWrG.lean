/-
  Parts of this proof: Every accepted expression is read from its text,. The text of an accepted expression, with or with. The contracts of Find, of the library and of the. Closing tactics under a short name. The contracts of Const, of the reference's Const. The contracts of Depth.
-/
import Derived.Test.YtkpekhpgdajabaaGreatDoorYTLex
open Go.Proofs.Tryz
open Option renaming none->ae
open Bool renaming and_eq_true->af
open Go renaming bodyPost_ret->ag,World->ah
open Go.Proofs.Tryz renaming prog->ai
open List renaming length_append->aj
set_option linter.unusedVariables false
set_option maxHeartbeats 2000000
open Go.Lib (hid)
namespace Go.Proofs.YtkpekhpgdajabaaGreatDoor
namespace Ps
open Ps.P (rt fl bd len)
open Lx (Tk bs jl mt iC dG)
open Na (gX mX)
open Ex (Ex oW nd nY eG known named numbered counted obj wQ fH dep pre Sa R7 cnt)
theorem Nc {l:List UInt8} (h:mX l=true):iC l=true/\gX l=false:=by
 unfold mX at h;simp only[af,decide_eq_true_eq,Bool.not_eq_true'] at h;obtain⟨⟨⟨⟨h1,-⟩,h2⟩,h3⟩,h4⟩:=h;refine⟨?_,h3⟩;have key:∀m:List UInt8,m.all Na.zF=true->Lx.dF Lx.kX m=m.length:=by
  intro m
  induction m with
  | nil=>intro _;rfl
  | cons c t ih=>
   intro hm;rw[List.all_cons,af] at hm;have hc:Lx.kX c=true:=hm.1;rw[Lx.vM hc,ih hm.2];rfl
 cases l with
 | nil=>simp at h1
 | cons c t=>
  have hc:Lx.gN c=true:=h2;unfold iC;rw[key _ h4];rw[Lx.vM hc];simp
theorem aaB {l:List UInt8} (h:mX l=true):l.length<=24:=by
 unfold mX at h;simp only[af,decide_eq_true_eq] at h;exact h.1.1.1.2
theorem aaE {o n:Int} {s:ByteArray} {l:List Ex} (h:oW false (.mk o s n l)=0):(1<=o/\o<=24)/\(¬o=3->¬22<=o->s=Lx.mt)/\(¬o=1->¬o=2->n=0)/\(l.length:Int)=fH o/\(o=1->-1000000000000<=n/\n<=1000000000000)/\(o=2->n=0∨n=1)/\(o=3∨22<=o->mX (bs s)=true):=by
 have h':nd false o (bs s) n l.length=0:=h;unfold nd at h'
 cases hF:nY false o (bs s) n l.length with
 | true=>rw[hF,if_pos rfl] at h';cases h'
 | false=>
  cases hR:eG false o n with
  | true=>rw[hF,hR,if_neg bR,if_pos rfl] at h';cases h'
  | false=>
   rw[hF,hR,if_neg bR,if_neg bR] at h';unfold nY known named numbered counted obj at hF;unfold eG wQ counted at hR;simp only[Bool.or_eq_false_iff,Bool.and_eq_false_iff,Bool.not_eq_false',Bool.false_and,Bool.not_false,Bool.true_and,Bool.or_false,Bool.false_or,Bool.or_eq_true,af,decide_eq_true_eq,decide_eq_false_iff_not] at hF hR;obtain⟨⟨⟨⟨ha,YX⟩,hs⟩,hn⟩,hl⟩:=hF;have ho:1<=o:=by
    unfold fH at ha;by_cases g:o<1∨26<o
    · rw[if_pos g] at ha;omega
    · omega
   refine⟨⟨ho,by omega⟩,fun q1 q2=>?_,fun q1 q2=>?_,hl,fun q=>?_,fun q=>?_,fun q=>?_⟩
   · rcases hs with hs|hs
     · exfalso;omega
     · exact jl hs
   · rcases hn with hn|hn
     · exfalso;omega
     · exact hn
   · subst q;rcases hR.1 with g|g
     · exact absurd rfl g
     · exact g
   · subst q;have g:=hR.2;omega
   · have g:named false o=true:=by
      unfold named obj;simp only[Bool.not_false,Bool.true_and,Bool.or_eq_true,af,decide_eq_true_eq];omega
     rw[if_pos g] at h';exact Na.GI.1 h'
theorem wT {s w:ByteArray} (h:gX (bs s)=false) (hw:gX (bs w)=true):decide (bs s=bs w)=false:=decide_eq_false fun e=>by rw[e,hw] at h;cases h
theorem abI {s w:ByteArray} (h:iC (bs s)=true) (hw:iC (bs w)=false):decide (bs s=bs w)=false:=decide_eq_false fun e=>by rw[e,hw] at h;cases h
section
variable {E F f N:P Ex} {l r t c:Tk} {T A B u v:List Tk} {e a b x y:Ex} {s w:ByteArray} {n o:Int}
theorem ZH (h:bs t.t=[]) (hs:¬bs s=[]):is s (t::v)=false:=by rw[ZF,h];exact decide_eq_false fun e=>hs e.symm
theorem akE (ht:bare t=⟨2,mt,n,0⟩):run Ps.num (t::u)=.ok n u:=by
 unfold Ps.num;rw[dK (yT (show(hd (t::u)).k=2 from J4 ht))]
 show R.ok t.n u=_
 rw[aeR ht]
theorem X9 (ht:bare t=⟨2,mt,n,0⟩):run (jG E F) (t::u)=.ok (fO 1 n) u:=by
 have hb:bs t.t=[]:=by rw[Gz ht]
 unfold jG;rw[ek (ZH hb bR)];unfold qw;rw[EN (show(hd (t::u)).k=2 from J4 ht),dK (akE ht)];rfl
theorem Co (ht:bare t=dC w) (hx:iC (bs w)=true):run (jG E F) (t::v)=run (qw E) (t::v):=by
 unfold jG;rw[ek ((i_ ht (.inl hx) _).trans (abI hx bR))]
theorem alr (ht:bare t=dC sU):run (qw E) (t::u)=.ok (fO 2 1) u:=by
 have I:∀s,is s (t::u)=decide (bs sU=bs s):=i_ ht (.inl bR);unfold qw;rw[yC (H8 ht (.inl bR)),Dw ((I _).trans bR)];unfold tV;rw[dK (nW ((I _).trans bR))];rfl
theorem alq (ht:bare t=dC vC):run (qw E) (t::u)=.ok (fO 2 0) u:=by
 have I:∀s,is s (t::u)=decide (bs vC=bs s):=i_ ht (.inl bR);have h1:run tV (t::u)=.ok 0 u:=by
  unfold tV;rw[ek ((I _).trans bR),dK (EF ((I _).trans bR))];rfl
 unfold qw;rw[yC (H8 ht (.inl bR)),vL ((I _).trans bR),Dw ((I _).trans bR),dK h1];rfl
inductive Wq:ByteArray->(P Ex->P Ex)->Prop where
 | now:Wq H6 fun _=>rt (nd0 4)
 | dur:Wq Lv fun E=>one E 7
 | aof:Wq LH fun E=>one E 8
 | min:Wq LD fun E=>two E 20
 | max:Wq LC fun E=>two E 21
 | free:Wq LA fun _=>tH 22
 | size:Wq LG fun _=>tH 23
 | wait:Wq LJ fun _=>tH 24
theorem Wq.wd {w:ByteArray} {Q:P Ex->P Ex} (h:Wq w Q):iC (bs w)=true/\decide (bs w=bs kU)=false:=by
 cases h <;> exact⟨by decide,by decide⟩
theorem Wq.len {w:ByteArray} {Q:P Ex->P Ex} (h:Wq w Q):(bs w).length<=7:=by
 cases h <;> decide
theorem Mm {Q:P Ex->P Ex} (h:Wq w Q) (ht:bare t=dC w):run (qw E) (t::u)=run (Q E) u:=by
 have hx:=h.wd.1;have I:∀s,is s (t::u)=decide (bs w=bs s):=i_ ht (.inl hx);have k:=H8 (u:=u) ht (.inl hx);unfold qw;cases h
 all_goals
  rw[yC k,vL ((I _).trans bR),vL ((I _).trans bR)]
  repeat (first|(rw[nW ((I _).trans bR)];rfl)|rw[ek ((I _).trans bR)])
theorem akP (hl:bare l=dC fU) (hr:bare r=dC jN) (h:run E (T++r::u)=.ok e (r::u)):run (one E o) (l::(T++r::u))=.ok (jq o e) u:=by
 unfold one;rw[dK (zA hl (.inr bR)),dK h,dK (zA hr (.inr bR))];rfl
theorem aom (hl:bare l=dC fU) (hc:bare c=dC ry) (hr:bare r=dC jN) (h:run E (A++c::(B++r::u))=.ok a (c::(B++r::u))) (g:run E (B++r::u)=.ok b (r::u)):run (two E o) (l::(A++c::(B++r::u)))=.ok (dZ o a b) u:=by
 unfold two;rw[dK (zA hl (.inr bR)),dK h,dK (zA hc (.inr bR)),dK g,dK (zA hr (.inr bR))];rfl
theorem aaC (ht:bare t=dC s) (hs:mX (bs s)=true):run fM (t::u)=.ok s u:=by
 obtain⟨h1,h2⟩:=Nc hs;have e:=ht.trans (Ty h1);unfold fM;have k:gX (bs (hd (t::u)).t)=false:=by show gX (bs t.t)=false;rw[Gz e];exact h2
 rw[LM k,dK (yT (show(hd (t::u)).k=1 from J4 e))]
 show R.ok t.t u=_
 rw[Gz e]
theorem akS (hl:bare l=dC fU) (ht:bare t=dC s) (hs:mX (bs s)=true) (hr:bare r=dC jN):run (tH o) (l::t::r::u)=.ok (rQ o s) u:=by
 unfold tH;rw[dK (zA hl (.inr bR)),dK (aaC ht hs),dK (zA hr (.inr bR))];rfl
theorem ah4 (ht:bare t=dC s) (hs:mX (bs s)=true):run (jG E F) (t::u)=.ok (rQ 3 s) u:=by
 obtain⟨h1,h2⟩:=Nc hs;have I:∀w,is w (t::u)=decide (bs s=bs w):=i_ ht (.inl h1);rw[Co ht h1];unfold qw;rw[yC (H8 ht (.inl h1)),vL ((I _).trans (wT h2 bR)),vL ((I _).trans (wT h2 bR)),ek ((I _).trans (wT h2 bR)),ek ((I _).trans (wT h2 bR)),ek ((I _).trans (wT h2 bR)),ek ((I _).trans (wT h2 bR)),ek ((I _).trans (wT h2 bR)),ek ((I _).trans (wT h2 bR)),ek ((I _).trans (wT h2 bR)),ek ((I _).trans (wT h2 bR)),vL ((I _).trans (abI h1 bR)),dK (aaC ht hs)];rfl
end
def Sz (X:W) (n:Nat):Prop:=∀(G:Gen) (s:Nat),(txt G X s).1.length<=n
theorem ae1 (k:Nat):(blk k).length<=2:=by
 unfold blk
 split
 · decide
 · split
   · decide
   · split <;> decide
theorem lF {x:ByteArray} {k:Nat} (h:(bs x).length<=k):Sz (.wd x) (k+2):=fun G s=>by
 have:=ae1 (G.pk 4 (G.nx s));rw[txt,aj];omega
theorem Td:Sz .nil 0:=fun G s=>Nat.le_refl _
theorem lZ {X Y:W} {m n:Nat} (h:Sz X m) (g:Sz Y n):Sz (.cat X Y) (m+n):=fun G s=>by
 rw[txt,aj];exact Nat.add_le_add (h G s) (g G _)
theorem ab5 {n m:Nat} {k:Nat->W} (h:∀i,Sz (k i) m):Sz (.xF n k) m:=fun G s=>by
 rw[txt];exact h _ G _
theorem qC {X:W} {m n:Nat} (h:Sz X m) (hn:m<=n):Sz X n:=fun G s=>Nat.le_trans (h G s) hn
theorem ic {p:Prop} (h:p:=by omega):p:=h
theorem Te {X:W} {m:Nat} (h:Sz X m):Sz (par X) (m+6):=qC (lZ (lF (k:=1) bR) (lZ h (lF (k:=1) bR))) ic
theorem MS {X:W} {m:Nat} (h:Sz X m):Sz (iE X) (m+12):=qC (lZ (lF (k:=1) bR) (lZ (ab5 (m:=m+6) fun i=>by
 by_cases g:i=0
 · rw[if_pos g];exact Te h
 · rw[if_neg g];exact qC h ic) (lF (k:=1) bR))) ic
theorem ab4 {n:Int} (h0:0<=n) (h1:n<=1000000000000):Sz (.wd (Nu.num n)) 15:=by
 refine lF (k:=13) ?_;have h:=Lx.C_.2 ⟨h0,h1,rfl⟩;have hb:bs (Nu.num n)=Lib.itoa n:=rfl;rw[hb];unfold Lx.qX at h
 split at h
 · cases h
 · omega
structure Good (a:Ex):Prop where
 rd:∀k,3*dep a<=k->Reads k (eZ a) a
 lg:Va (eZ a) a
 fl:∀b,rz (eZ a) b true
 sz:Sz (eZ a) (70*cnt a)
theorem cnt1 {o:Int} {a:Ex}:cnt (jq o a)=cnt a+1:=by show cnt a+0+1=_;omega
theorem cnt2 {o:Int} {a b:Ex}:cnt (dZ o a b)=cnt a+cnt b+1:=by show cnt a+(cnt b+0)+1=_;omega
theorem PU {o:Int} {a:Ex}:dep (jq o a)=dep a+1:=by show max (dep a) 0+1=_;omega
theorem PV {o:Int} {a b:Ex}:dep (dZ o a b)=max (dep a) (dep b)+1:=by show max (dep a) (max (dep b) 0)+1=_;omega
theorem lu {s:ByteArray} (h:dG (bs s)=true):okW s:=.inr (.inl h)
theorem xm {s:ByteArray} (h:iC (bs s)=true):okW s:=.inl h
theorem Qz {X:W} (h:∀b,rz X b true) (b:Bool):rz (par X) b true:=⟨true,⟨rfl,lu bR⟩,true,h true,rfl,lu bR⟩
theorem Lb {X:W} (h:∀b,rz X b true) (b:Bool):rz (iE X) b true:=⟨true,⟨rfl,lu bR⟩,true,⟨by decide,fun i hi=>by
 show rz (if i=0 then par X else X) true true
 by_cases g:i=0
 · rw[if_pos g];exact Qz h true
 · rw[if_neg g];exact h true⟩,rfl,lu bR⟩
theorem zH {e:Ex} {X:W} (he:eZ e=X) (ho:¬e.o=5) (hf:∀b,rz X b true) (hz:Sz X (70*cnt e)) (h:∀k,3*dep e<=k+1->∀T,Wr X T->∀u,run (jG (fE k) (fF k)) (T++u)=.ok e u/\is kU (T++u)=false):Good e:=by
 refine⟨fun k hk T hT u hu=>?_,fun T hT h5=>absurd h5 ho,fun b=>by rw[he];exact hf b,by rw[he];exact hz⟩;have hd:=Ex.agY e;obtain⟨j,rfl⟩:∃j,k=j+1:=⟨k-1,by omega⟩
 rw[he] at hT;rw[Cn];exact I_ (h j hk T hT u).1 (h j hk T hT u).2 hu
theorem aow {n:Int} (h:n<0):Nb n=.cat (.wd mK) (.wd (Nu.num (-n))):=if_pos h
theorem aox {n:Int} (h:¬n<0):Nb n=.wd (Nu.num n):=if_neg h
theorem aiM {n:Int} (h:-1000000000000<=n/\n<=1000000000000):Good (fO 1 n):=by
 by_cases hn:n<0
 · have RL:okW (Nu.num (-n)):=.inr (.inr ⟨-n,by omega,by omega,rfl⟩);refine zH (X:=par (.cat (.wd mK) (.wd (Nu.num (-n))))) ?_ (by show ¬(1:Int)=5;omega) (Qz fun b=>⟨true,⟨rfl,lu bR⟩,rfl,RL⟩) (qC (Te (lZ (lF (k:=1) bR) (ab4 (n:=-n) ic ic))) (by show _<=70;omega)) ?_
   · show Jc 1 mt n []=_
     unfold Jc;rw[if_pos rfl,if_pos hn,aow hn]
   · intro k hk T hT u;obtain⟨l,C,r,rfl,hl,hr,_,_,rfl,⟨m,rfl,hm⟩,d,rfl,hd⟩:=TP hT;have hd':bare d=⟨2,mt,-n,0⟩:=hd.trans (Tx ic ic);have hk3:3<=k+1:=hk;obtain⟨j,rfl⟩:∃j,k=j+1+1:=⟨k-2,by omega⟩
     refine⟨?_,Ma hl⟩
     show run (jG _ _) (l::([m,d]++r::u))=_
     have h1:run (fE (j+1+1)) ([m,d]++r::u)=.ok (jq 5 (fO 1 (-n))) (r::u):=by
      rw[Cn];refine I_ ?_ ((i_ hm (.inr bR) _).trans bR) (DC hr)
      show run (jG _ _) (m::d::r::u)=_
      unfold jG;rw[nW ((i_ hm (.inr bR) _).trans (decide_eq_true rfl))]
      show run (bd (fF (j+1)) fun x=>rt (jq 5 x)) (d::r::u)=_
      rw[G5,dK (X9 hd')];rfl
     unfold jG;rw[ek ((i_ hl (.inr bR) _).trans bR),aa3 hl,YW hl hr h1]
     show R.ok (fO 1 (- -n)) u=_
     rw[Int.neg_neg]
 · have RL:okW (Nu.num n):=.inr (.inr ⟨n,by omega,by omega,rfl⟩);refine zH (X:=.wd (Nu.num n)) ?_ (by show ¬(1:Int)=5;omega) (fun b=>⟨rfl,RL⟩) (qC (ab4 (n:=n) ic ic) (by show _<=70;omega)) ?_
   · show Jc 1 mt n []=_
     unfold Jc;rw[if_pos rfl,if_neg hn,aox hn]
   · rintro k hk T ⟨d,rfl,hd⟩ u;have hd':bare d=⟨2,mt,n,0⟩:=hd.trans (Tx ic ic);exact⟨X9 hd',ZH (by rw[Gz hd']) bR⟩
theorem aiL {n:Int} (h:n=0∨n=1):Good (fO 2 n):=by
 rcases h with rfl|rfl
 · refine zH (X:=.wd vC) rfl bR (fun b=>⟨rfl,xm bR⟩) (qC (lF (k:=5) bR) bR) ?_;rintro k hk T ⟨d,rfl,hd⟩ u;exact⟨(Co hd bR).trans (alq hd),(i_ hd (.inl bR) _).trans bR⟩
 · refine zH (X:=.wd sU) rfl bR (fun b=>⟨rfl,xm bR⟩) (qC (lF (k:=5) bR) bR) ?_;rintro k hk T ⟨d,rfl,hd⟩ u;exact⟨(Co hd bR).trans (alr hd),(i_ hd (.inl bR) _).trans bR⟩
theorem aiP:Good (nd0 4):=by
 refine zH (X:=.wd H6) rfl bR (fun b=>⟨rfl,xm bR⟩) (qC (lF (k:=5) bR) bR) ?_;rintro k hk T ⟨d,rfl,hd⟩ u;exact⟨(Co hd bR).trans (Mm .now hd),(i_ hd (.inl bR) _).trans bR⟩
theorem aiN {s:ByteArray} (hs:mX (bs s)=true):Good (rQ 3 s):=by
 obtain⟨h1,h2⟩:=Nc hs;refine zH (X:=.wd s) rfl (by show ¬(3:Int)=5;omega) (fun b=>⟨rfl,xm h1⟩) (qC (lF (aaB hs)) (by show _<=70;omega)) ?_;rintro k hk T ⟨d,rfl,hd⟩ u;exact⟨ah4 hd hs,(i_ hd (.inl h1) _).trans (wT h2 bR)⟩
theorem aiO {a:Ex} (h:Good a):Good (jq 5 a):=by
 have he:eZ (jq 5 a)=.cat (.wd mK) (iE (eZ a)):=rfl;refine⟨fun k hk T hT u hu=>?_,fun T hT _=>?_,fun b=>by rw[he];exact⟨true,⟨rfl,lu bR⟩,Lb h.fl true⟩,by rw[he,cnt1];exact qC (lZ (lF (k:=1) bR) (MS h.sz)) ic⟩
 · rw[he] at hT;rw[PU] at hk;obtain⟨j,rfl⟩:∃j,k=j+1+1+1:=⟨k-3,by omega⟩
   obtain⟨_,B,rfl,⟨t,rfl,ht⟩,hB⟩:=hT;rw[Cn];refine I_ ?_ ((i_ ht (.inr bR) _).trans bR) hu
   show run (jG _ _) (t::(B++u))=_
   unfold jG;rw[nW ((i_ ht (.inr bR) _).trans (decide_eq_true rfl))]
   show run (bd (fF (j+1+1)) fun x=>rt (jq 5 x)) (B++u)=_
   rw[G5,dK (Mr (h.rd j ic) (h.rd (j+1) ic) h.lg hB u)];rfl
 · rw[he] at hT;obtain⟨_,B,rfl,⟨t,rfl,ht⟩,hB⟩:=hT;obtain⟨l,C,r,rfl,-⟩:=TN hB;simp
theorem He {a:Ex} (h:Good a):Good (jq 6 a):=by
 have he:eZ (jq 6 a)=.cat (.wd kU) (iE (eZ a)):=rfl;refine⟨fun k hk T hT u hu=>?_,fun T hT h5=>absurd h5 (by show ¬(6:Int)=5;omega),fun b=>by rw[he];exact⟨true,⟨rfl,xm bR⟩,Lb h.fl true⟩,by rw[he,cnt1];exact qC (lZ (lF (k:=3) bR) (MS h.sz)) ic⟩;rw[he] at hT;rw[PU] at hk;obtain⟨j,rfl⟩:∃j,k=j+1+1+1:=⟨k-3,by omega⟩
 obtain⟨_,B,rfl,⟨t,rfl,ht⟩,hB⟩:=hT;rw[Cn];have h1:run (fN (j+1+1)) (B++u)=.ok a u:=by
  rw[Qq,G5];exact FB (Q_ hB) (Cg (DN (Mr (h.rd j ic) (h.rd (j+1) ic) h.lg hB u) hu.p hu.s) hu.c)
 have h2:run (lq (jG (fE (j+1+1)) (fF (j+1+1))) (fN (j+1+1))) (t::(B++u))=.ok (jq 6 a) u:=by
  unfold lq;rw[nW ((i_ ht (.inl bR) _).trans (decide_eq_true rfl))]
  show run (bd (fN (j+1+1)) fun x=>rt (jq 6 x)) (B++u)=_
  rw[dK h1];rfl
 exact M_ (M9 h2 hu) hu
theorem Le {a:Ex} {w:ByteArray} {o:Int} (h5:¬o=5) (he:eZ (jq o a)=.cat (.wd w) (par (eZ a))) (hw:Wq w fun E=>one E o) (h:Good a):Good (jq o a):=by
 refine zH he h5 (fun b=>⟨true,⟨rfl,xm hw.wd.1⟩,Qz h.fl true⟩) (by rw[cnt1];exact qC (lZ (lF hw.len) (Te h.sz)) ic) ?_;rintro k hk T ⟨_,B,rfl,⟨t,rfl,ht⟩,hB⟩ u;rw[PU] at hk;obtain⟨l,C,r,rfl,hl,hr,hC⟩:=TP hB;refine⟨?_,(i_ ht (.inl hw.wd.1) _).trans hw.wd.2⟩
 show run (jG _ _) (t::(l::(C++[r])++u))=_
 rw[Co ht hw.wd.1,Mm hw ht];have q:l::(C++[r])++u=l::(C++r::u):=by simp
 rw[q];exact akP hl hr (h.rd k ic C hC _ (DC hr))
theorem YV {a b:Ex} {w:ByteArray} {o:Int} (h5:¬o=5) (he:eZ (dZ o a b)=qj [.wd w,.wd fU,eZ a,.wd ry,eZ b,.wd jN]) (hw:Wq w fun E=>two E o) (h:Good a) (g:Good b):Good (dZ o a b):=by
 refine zH he h5 (fun z=>⟨true,⟨rfl,xm hw.wd.1⟩,true,⟨rfl,lu bR⟩,true,h.fl true,true,⟨rfl,lu bR⟩,true,g.fl true,true,⟨rfl,lu bR⟩,rfl⟩) (by rw[cnt2];exact qC (lZ (lF hw.len) (lZ (lF (k:=1) bR) (lZ h.sz (lZ (lF (k:=1) bR) (lZ g.sz (lZ (lF (k:=1) bR) Td)))))) ic) ?_;rintro k hk T ⟨_,_,rfl,⟨t,rfl,ht⟩,_,_,rfl,⟨l,rfl,hl⟩,A,_,rfl,hA,_,_,rfl,⟨c,rfl,hc⟩,B,_,rfl,hB,_,_,rfl,⟨r,rfl,hr⟩,rfl⟩ u;rw[PV] at hk;refine⟨?_,(i_ ht (.inl hw.wd.1) _).trans hw.wd.2⟩;have q:[t]++([l]++(A++([c]++(B++([r]++[])))))++u=t::(l::(A++c::(B++r::u))):=by simp
 rw[q,Co ht hw.wd.1,Mm hw ht];exact aom hl hc hr (h.rd k ic A hA _ (ann hc)) (g.rd k ic B hB _ (DC hr))
theorem QN {s:ByteArray} {w:ByteArray} {o:Int} (h5:¬o=5) (he:eZ (rQ o s)=wds [w,fU,s,jN]) (hw:Wq w fun _=>tH o) (hs:mX (bs s)=true):Good (rQ o s):=by
 refine zH he h5 (fun z=>⟨true,⟨rfl,xm hw.wd.1⟩,true,⟨rfl,lu bR⟩,true,⟨rfl,xm (Nc hs).1⟩,true,⟨rfl,lu bR⟩,rfl⟩) (qC (lZ (lF hw.len) (lZ (lF (k:=1) bR) (lZ (lF (aaB hs)) (lZ (lF (k:=1) bR) Td)))) (by show _<=70;omega)) ?_;rintro k hk T ⟨_,_,rfl,⟨t,rfl,ht⟩,_,_,rfl,⟨l,rfl,hl⟩,_,_,rfl,⟨d,rfl,hd⟩,_,_,rfl,⟨r,rfl,hr⟩,rfl⟩ u;refine⟨?_,(i_ ht (.inl hw.wd.1) _).trans hw.wd.2⟩
 show run (jG _ _) (t::l::d::r::u)=_
 rw[Co ht hw.wd.1,Mm hw ht];exact akS hl hd hs hr
def Bin (s:ByteArray) (mk:Ex->Ex->Ex):Prop:=∀{f N:P Ex} {T u v:List Tk} {t:Tk} {a b:Ex},bare t=dC s->run f T=.ok a (t::v)->is kU T=false->run f v=.ok b u->is kU v=false->Sp u->run (oO (lq f N)) T=.ok (mk a b) u
theorem O9 {s:ByteArray} {mk:Ex->Ex->Ex} {a b:Ex} {m:Nat} {T u:List Tk} (hB:Bin s mk) (h:Good a) (g:Good b) (ha:3*dep a<=m) (hb:3*dep b<=m) (hT:Wr (qj [iE (eZ a),.wd s,iE (eZ b)]) T) (hu:Sp u):run (fE (m+1+1)) (T++u)=.ok (mk a b) u:=by
 obtain⟨A,_,rfl,hA,_,_,rfl,⟨t,rfl,ht⟩,B,_,rfl,hB',rfl⟩:=hT;have q:A++([t]++(B++[]))++u=A++t::(B++u):=by simp
 rw[q,Cn];exact hB ht (Mr (h.rd m ha) (h.rd (m+1) ic) h.lg hA _) (Q_ hA) (Mr (g.rd m hb) (g.rd (m+1) ic) g.lg hB' _) (Q_ hB') hu
theorem wB {s:ByteArray} {o:Int} (h:(s,o)∈qZ∨(s,o)∈vK∨(s,o)∈cL∨(s,o)=(zI,18)∨(s,o)=(zJ,19)):Bin s (dZ o):=by
 intro f N T u v t a b ht ha hn hb hm hu;rcases h with h|h|h|h|h
 · exact aeY (q:=(s,o)) h ht ha hn hb hu
 · exact aeZ (q:=(s,o)) h ht ha hn hb hu
 · exact aeV h ht ha hn hb hu
 · cases h;exact aeU ht ha hn hb hm hu
 · cases h;exact aeX ht ha hn hb hm hu
theorem Vy {s:ByteArray} {o:Int} (h:(s,o)∈gL):Bin s (fun x y=>dZ o y x):=fun ht ha hn hb hm hu=>aeW h ht ha hn hb hu
theorem Qy {s:ByteArray} {a b:Ex} (hs:okW s) (h:Good a) (g:Good b) (z:Bool):rz (qj [iE (eZ a),.wd s,iE (eZ b)]) z true:=⟨true,Lb h.fl z,true,⟨rfl,hs⟩,true,Lb g.fl true,rfl⟩
theorem Tc {s:ByteArray} {a b:Ex} (hs:(bs s).length<=3) (h:Good a) (g:Good b):Sz (qj [iE (eZ a),.wd s,iE (eZ b)]) (70*(cnt a+cnt b+1)):=qC (lZ (MS h.sz) (lZ (lF hs) (lZ (MS g.sz) Td))) ic
theorem zG {a b:Ex} {s:ByteArray} {o:Int} (hB:Bin s (dZ o)) (hs:okW s) (hl:(bs s).length<=3) (h5:¬o=5) (he:eZ (dZ o a b)=qj [iE (eZ a),.wd s,iE (eZ b)]) (h:Good a) (g:Good b):Good (dZ o a b):=by
 refine⟨fun k hk T hT u hu=>?_,fun T hT h=>absurd h h5,fun z=>by rw[he];exact Qy hs h g z,by rw[he,cnt2];exact Tc hl h g⟩;rw[he] at hT;rw[PV] at hk;obtain⟨j,rfl⟩:∃j,k=j+1+1:=⟨k-2,by omega⟩
 exact O9 hB h g ic ic hT hu
theorem YR {a b:Ex} {s s':ByteArray} {o:Int} (hB:Bin s (dZ o)) (hC:Bin s' (fun x y=>dZ o y x)) (hs:okW s) (hs':okW s') (hl:(bs s).length<=3) (hl':(bs s').length<=3) (h5:¬o=5) (he:eZ (dZ o a b)=.xF 2 fun k=>if k=0 then qj [iE (eZ b),.wd s',iE (eZ a)] else qj [iE (eZ a),.wd s,iE (eZ b)]) (h:Good a) (g:Good b):Good (dZ o a b):=by
 refine⟨fun k hk T hT u hu=>?_,fun T hT h=>absurd h h5,fun z=>by
  rw[he];refine⟨by decide,fun i _=>?_⟩
  show rz (if i=0 then qj [iE (eZ b),.wd s',iE (eZ a)] else qj [iE (eZ a),.wd s,iE (eZ b)]) z true
  by_cases q:i=0
  · rw[if_pos q];exact Qy hs' g h z
  · rw[if_neg q];exact Qy hs h g z,by
  rw[he,cnt2];refine ab5 fun i=>?_;by_cases q:i=0
  · rw[if_pos q];exact qC (Tc hl' g h) ic
  · rw[if_neg q];exact Tc hl h g⟩
 rw[he] at hT;rw[PV] at hk;obtain⟨j,rfl⟩:∃j,k=j+1+1:=⟨k-2,by omega⟩
 obtain⟨i,_,hT⟩:=hT;replace hT:Wr (if i=0 then qj [iE (eZ b),.wd s',iE (eZ a)] else qj [iE (eZ a),.wd s,iE (eZ b)]) T:=hT;by_cases q:i=0
 · rw[if_pos q] at hT;exact O9 (mk:=fun x y=>dZ o y x) hC g h ic ic hT hu
 · rw[if_neg q] at hT;exact O9 hB h g ic ic hT hu
theorem QK:∀x:Ex,(∀y∈pre x,oW false y=0)->Good x:=by
 intro x
 induction x using Ex.Ex.ind with
 | h o s n l ih=>
  intro hp;obtain⟨h1,hs,hn,hl,hi,hb,hnm⟩:=aaE (hp _ (Sa _));have K:∀z∈l,Good z:=fun z hz=>ih z hz fun y hy=>hp y (R7 hz hy);have l0:fH o=0->l=[]:=fun q=>List.length_eq_zero_iff.1 ic;have l1:fH o=1->∃a,l=[a]:=fun q=>List.length_eq_one_iff.1 ic;have l2:fH o=2->∃a b,l=[a,b]:=fun q=>by
   match l,hl with
   | [a,b],_=>exact⟨a,b,rfl⟩
   | [],h=>rw[q] at h;simp at h
   | [_],h=>rw[q] at h;simp at h
   | _::_::_::_,h=>rw[q] at h;simp at h;omega
  rcases (show o=1∨o=2∨o=3∨o=4∨o=5∨o=6∨o=7∨o=8∨o=9∨o=10∨o=11∨o=12∨o=13∨o=14∨o=15∨o=16∨o=17∨o=18∨o=19∨o=20∨o=21∨o=22∨o=23∨o=24 by omega) with rfl|rfl|rfl|rfl|rfl|rfl|rfl|rfl|rfl|rfl|rfl|rfl|rfl|rfl|rfl|rfl|rfl|rfl|rfl|rfl|rfl|rfl|rfl|rfl
  · rw[l0 bR,hs bR bR];exact aiM (hi rfl)
  · rw[l0 bR,hs bR bR];exact aiL (hb rfl)
  · rw[l0 bR,hn bR bR];exact aiN (hnm (.inl rfl))
  · rw[l0 bR,hs bR bR,hn bR bR];exact aiP
  · obtain⟨a,rfl⟩:=l1 bR;rw[hs bR bR,hn bR bR];exact aiO (K a (.head _))
  · obtain⟨a,rfl⟩:=l1 bR;rw[hs bR bR,hn bR bR];exact He (K a (.head _))
  · obtain⟨a,rfl⟩:=l1 bR;rw[hs bR bR,hn bR bR];exact Le bR rfl .dur (K a (.head _))
  · obtain⟨a,rfl⟩:=l1 bR;rw[hs bR bR,hn bR bR];exact Le bR rfl .aof (K a (.head _))
  · obtain⟨a,b,rfl⟩:=l2 bR;rw[hs bR bR,hn bR bR];exact zG (s:=DZ) (wB (.inr (.inl (.head _)))) (lu bR) bR bR rfl (K a (.head _)) (K b (.tail _ (.head _)))
  · obtain⟨a,b,rfl⟩:=l2 bR;rw[hs bR bR,hn bR bR];exact zG (s:=mK) (wB (.inr (.inl (.tail _ (.head _))))) (lu bR) bR bR rfl (K a (.head _)) (K b (.tail _ (.head _)))
  · obtain⟨a,b,rfl⟩:=l2 bR;rw[hs bR bR,hn bR bR];exact zG (s:=Ak) (wB (.inl (.head _))) (lu bR) bR bR rfl (K a (.head _)) (K b (.tail _ (.head _)))
  · obtain⟨a,b,rfl⟩:=l2 bR;rw[hs bR bR,hn bR bR];exact zG (s:=F7) (wB (.inl (.tail _ (.head _)))) (lu bR) bR bR rfl (K a (.head _)) (K b (.tail _ (.head _)))
  · obtain⟨a,b,rfl⟩:=l2 bR;rw[hs bR bR,hn bR bR];exact zG (s:=F6) (wB (.inl (.tail _ (.tail _ (.head _))))) (lu bR) bR bR rfl (K a (.head _)) (K b (.tail _ (.head _)))
  · obtain⟨a,b,rfl⟩:=l2 bR;rw[hs bR bR,hn bR bR];exact zG (s:=uf) (wB (.inr (.inr (.inl (.head _))))) (lu bR) bR bR rfl (K a (.head _)) (K b (.tail _ (.head _)))
  · obtain⟨a,b,rfl⟩:=l2 bR;rw[hs bR bR,hn bR bR];exact zG (s:=DY) (wB (.inr (.inr (.inl (.tail _ (.head _)))))) (lu bR) bR bR rfl (K a (.head _)) (K b (.tail _ (.head _)))
  · obtain⟨a,b,rfl⟩:=l2 bR;rw[hs bR bR,hn bR bR];exact YR (s:=DX) (s':=DV) (wB (.inr (.inr (.inl (.tail _ (.tail _ (.head _))))))) (Vy (.head _)) (lu bR) (lu bR) bR bR bR rfl (K a (.head _)) (K b (.tail _ (.head _)))
  · obtain⟨a,b,rfl⟩:=l2 bR;rw[hs bR bR,hn bR bR];exact YR (s:=DW) (s':=DU) (wB (.inr (.inr (.inl (.tail _ (.tail _ (.tail _ (.head _)))))))) (Vy (.tail _ (.head _))) (lu bR) (lu bR) bR bR bR rfl (K a (.head _)) (K b (.tail _ (.head _)))
  · obtain⟨a,b,rfl⟩:=l2 bR;rw[hs bR bR,hn bR bR];exact zG (s:=zI) (wB (.inr (.inr (.inr (.inl rfl))))) (xm bR) bR bR rfl (K a (.head _)) (K b (.tail _ (.head _)))
  · obtain⟨a,b,rfl⟩:=l2 bR;rw[hs bR bR,hn bR bR];exact zG (s:=zJ) (wB (.inr (.inr (.inr (.inr rfl))))) (xm bR) bR bR rfl (K a (.head _)) (K b (.tail _ (.head _)))
  · obtain⟨a,b,rfl⟩:=l2 bR;rw[hs bR bR,hn bR bR];exact YV bR rfl .min (K a (.head _)) (K b (.tail _ (.head _)))
  · obtain⟨a,b,rfl⟩:=l2 bR;rw[hs bR bR,hn bR bR];exact YV bR rfl .max (K a (.head _)) (K b (.tail _ (.head _)))
  · rw[l0 bR,hn bR bR];exact QN bR rfl .free (hnm (.inr bR))
  · rw[l0 bR,hn bR bR];exact QN bR rfl .size (hnm (.inr bR))
  · rw[l0 bR,hn bR bR];exact QN bR rfl .wait (hnm (.inr bR))
end Ps
namespace Ps
open Ps.P (fl)
open Lx (Tk bs mt dG mkS jv dH fQ qA LW gz gy Fx fin opn)
open Ex (Ex fI)
theorem aav {c:UInt8} (hc:c=40∨c=41) (r:List UInt8) (a:List Tk) (n:Nat):dH (c::r) a n=dH r (a++[jv (dC (mkS [c])) n]) n:=by
 have h1:Lx.dF Lx.gN (c::r)=0:=qA (by rcases hc with rfl|rfl <;> decide);have h2:Lx.dF Lx.iA (c::r)=0:=qA (by rcases hc with rfl|rfl <;> decide);have h3:¬(2<=(c::r).length/\dG ((c::r).take 2)=true):=by
  rintro⟨g1,g2⟩
  cases r with
  | nil=>simp at g1
  | cons b t=>
   replace g2:dG [c,b]=true:=g2;unfold dG Lx.Bg at g2;simp only[List.contains_eq_mem,List.mem_cons,List.cons.injEq,reduceCtorEq,and_false,List.not_mem_nil,or_false,and_true,decide_eq_true_eq,false_or] at g2;rcases hc with rfl|rfl <;> simp at g2
 have h4:dG ((c::r).take 1)=true:=by
  show dG [c]=true
  rcases hc with rfl|rfl <;> decide
 have hF:fQ (c::r)=some (⟨3,mkS [c],0,0⟩,1):=by
  unfold fQ;rw[if_pos h1,if_pos h2,if_neg h3,if_pos h4];rfl
 have hT:dC (mkS [c])=⟨3,mkS [c],0,0⟩:=DK (by show dG [c]=true;rcases hc with rfl|rfl <;> decide);rw[LW (Lx.YD hF) hF,hT];rfl
theorem Vv {x:Tk} {n:Nat} (h:x.l=0):bare (jv x n)=x:=by unfold bare jv;rw[← h]
def ends (m:Nat):List Tk:=[⟨4,mt,0,(m:Int)⟩,⟨0,mt,0,(m:Int)⟩]
theorem abN (m:Nat):Sp (ends m):=fun s hs=>by
 show decide (bs mt=bs s)=false
 revert s
 decide
theorem aaJ {x:Ex} {T:List Tk} {m:Nat} (h:run ky (T++ends m)=.ok x (ends m)):run tF (T++ends m)=.ok x []:=by
 unfold tF fV qN;rw[dK h];rfl
theorem ab8 {l:List UInt8} {T:List Tk} {m:Nat} (hl:l.length<=20000) (h:dH l [] 1=dH [] T m) (ho:opn T=true):gz l=T++ends m/\gy l=0:=by
 have hb:dH l [] 1=⟨T,m,false⟩:=h;obtain⟨h1,-,h3⟩:=Fx (l:=l) bT (by rw[hb]);refine⟨?_,h3⟩;rw[h1,hb];unfold fin;rw[XX ho,List.append_assoc];rfl
theorem YF:FU=99999+1:=rfl
theorem alR (G:Gen) {x:Ex} (s:Nat) (hc:fI false x=0):((txt G (eZ x) s).1.length<=20000->gy (txt G (eZ x) s).1=0/\run tF (gz (txt G (eZ x) s).1)=.ok x [])/\((txt G (eZ x) s).1.length+2<=20000->gy (40::((txt G (eZ x) s).1++[41]))=0/\run tF (gz (40::((txt G (eZ x) s).1++[41])))=.ok x []):=by
 obtain⟨-,hd,hp⟩:=Ex.GI hc;have g:=QK x hp;constructor
 · intro hl;obtain⟨T,m,e1,e2,e3⟩:=Im G (eZ x) false true s [] [] 1 (g.fl false) rfl;rw[List.append_nil] at e1;obtain⟨h1,h2⟩:=ab8 hl e1 e3;refine⟨h2,?_⟩;rw[h1];exact aaJ (g.rd FU (by rw[YF];omega) T (Je G _ _ _ s T (g.fl false) e2) _ (abN m))
 · intro hl;have q1:opn [jv (dC (mkS [40])) 1]=true:=by
    rw[DK (show dG (bs (mkS [40]))=true from by decide)]
    decide
   obtain⟨T,m,e1,e2,e3⟩:=Im G (eZ x) true true s [41] [jv (dC (mkS [40])) 1] 1 (g.fl true) q1;have e4:dH (40::((txt G (eZ x) s).1++[41])) [] 1=dH [] ([jv (dC (mkS [40])) 1]++T++[jv (dC (mkS [41])) m]) m:=by
    rw[aav (.inl rfl),List.nil_append,e1,aav (.inr rfl)]
   obtain⟨h1,h2⟩:=ab8 (by rw[List.length_cons,aj];simp only[List.length_cons,List.length_nil];omega) e4 (by
    rw[RN,DK (show dG (bs (mkS [41]))=true from by decide)];exact decide_eq_true (show ¬(3:Int)=4 from by omega))
   refine⟨h2,?_⟩;rw[h1];refine aaJ ?_;have q:[jv (dC (mkS [40])) 1]++T++[jv (dC (mkS [41])) m]++ends m=jv (dC (mkS [40])) 1::(T++jv (dC (mkS [41])) m::ends m):=by simp
   have hl2:bare (jv (dC (mkS [40])) 1)=dC fU:=Vv (by rw[DK (show dG (bs (mkS [40]))=true from by decide)]);have hr2:bare (jv (dC (mkS [41])) m)=dC jN:=Vv (by rw[DK (show dG (bs (mkS [41]))=true from by decide)]);have hW:=Je G _ _ _ s T (g.fl true) e2;unfold ky;rw[q,YF,Cn];exact I_ (KR hl2 hr2 (g.rd _ bT T hW _ (DC hr2)) fun h=>by have:=g.lg T hW h;omega) (Ma hl2) (abN m)
theorem aoB (G:Gen) {x:Ex} (s:Nat) (hc:fI false x=0):(txt G (eZ x) s).1.length<=4200:=by
 obtain⟨h,-,hp⟩:=Ex.GI hc;exact Nat.le_trans ((QK x hp).sz G s) bT
end Ps
namespace Na
open Go.RowKit
def Not (l:List ByteArray) (s:ByteArray) (k:Nat):Prop:=∀j,(hj:j<k)->(hl:j<l.length)->¬bs l[j]=bs s
theorem akz {l:List ByteArray} {s:ByteArray} {k:Nat} (hk:k<l.length) (h:Not l s k) (e:¬bs l[k]=bs s):Not l s (k+1):=by
 exact adP
theorem not_zero {l:List ByteArray} {s:ByteArray}:Not l s 0:=fun _ hj=>absurd hj (Nat.not_lt_zero _)
theorem akx {l:List ByteArray} {s:ByteArray} {k:Nat} (hk:k<l.length) (h:Not l s k) (e:bs l[k]=bs s):(k:Int)=fst l s:=(Yy hk (fun j hj=>h j hj bT) e).symm
theorem aky {l:List ByteArray} {s:ByteArray} {k:Nat} (hk:l.length=k) (h:Not l s k):(-1:Int)=fst l s:=(YA (fun j hj=>h j bT hj)).symm
theorem acB {p:Prop} (h:p:=by
 have BO:=hid (akz hkl HN.out he);obtain⟨x,ex⟩:∃x,l[k]=x:=⟨_,rfl⟩
 rw[ex] at e1 q1;clear he hcell ex hkl;go_wp2_with fail;go_round
 case rel=>exact⟨k+1,by omega,by go_num,BO⟩
 case measure=>simp[intOf];omega
 ):p:=h
theorem acC {p:Prop} (h:p:=by
 have HR:=hid (akx hkl HN.out he);obtain⟨x,ex⟩:∃x,l[k]=x:=⟨_,rfl⟩
 rw[ex] at e1 q1;clear he hcell ex hkl;go_wp2_with fail;go_ret;exact⟨nN HR.out,rfl⟩
 ):p:=h
theorem EL (p:Option Addr) (n c:Nat) (l:List ByteArray) (s:ByteArray) (w:ah) (hb:Strs w p n l):Calls ai 214 #[.slice p n c,.string s] w fun e w'=>e=.returned (.int .i64 (fst l s))/\w'=w:=by
 have HB:=hid hb;have HL:=hid hb.1;have hn:(n:Int)<=9223372036854775807:=by have:=hb.2.1;omega
 clear hb;go_enter func214,ntmps214;go_wp2_with fail;go_loop [8] (fun i=>∃k:Nat,k<=n/\i=.int .i64 (k:Nat)/\Hid (Not l s k)) (fun i=>n-(intOf i).toNat)
 case atStart=>exact⟨0,Nat.zero_le _,rfl,hid not_zero⟩
 case round=>
  obtain⟨k,hk,rfl,HN⟩:=hrel;have c1:(0:Int)<=(k:Int):=by omega
  rcases Nat.lt_or_ge k n with h|h
  · have hkl:k<l.length:=by rw[HL.out];exact h
    obtain⟨-,-,h0|⟨b,o,rfl,hb,hcell⟩⟩:=HB.out
    · omega
    · have e1:=hcell.out k hkl;have c2:(k:Int)<(n:Int):=by omega
      by_cases he:bs l[k]=bs s
      · have q1:=rH he.symm;exact acC
      · have q1:=vk (fun g=>he g.symm);exact acB
  · exact adL
theorem Yc (p:Option Addr) (n c:Nat) (l:List ByteArray) (s:ByteArray) (w:ah) (hb:Strs w p n l):Calls ai 203 #[.slice p n c,.string s] w fun e w'=>e=.returned (.int .i64 (fst l s))/\w'=w:=by
 have I1:=EL p n c l s w hb;clear hb;go_enter func203,ntmps203;go_wp2_with fail;refine I1.mono ?_;rintro e w1 ⟨rfl,rfl⟩;exact Ea
theorem alW (p:Option Addr) (n c:Nat) (l:List ByteArray) (s:ByteArray) (w:ah) (hb:Strs w p n l):Calls ai 122 #[.slice p n c,.string s] w fun e w'=>e=.returned (.int .i64 (fst l s))/\w'=w:=by
 have HB:=hid hb;have HL:=hid hb.1;have hn:(n:Int)<=9223372036854775807:=by have:=hb.2.1;omega
 clear hb;go_enter func122,ntmps122;go_wp2_with fail;go_loop [5] (fun i=>∃k:Nat,k<=n/\i=.int .i64 (k:Nat)/\Hid (Not l s k)) (fun i=>n-(intOf i).toNat)
 case atStart=>exact⟨0,Nat.zero_le _,rfl,hid not_zero⟩
 case round=>
  obtain⟨k,hk,rfl,HN⟩:=hrel;have c1:(0:Int)<=(k:Int):=by omega
  rcases Nat.lt_or_ge k n with h|h
  · have hkl:k<l.length:=by rw[HL.out];exact h
    obtain⟨-,-,h0|⟨b,o,rfl,hb,hcell⟩⟩:=HB.out
    · omega
    · have e1:=hcell.out k hkl;have c2:(k:Int)<(n:Int):=by omega
      by_cases he:bs l[k]=bs s
      · have q1:=rH he;exact acC
      · have q1:=vk he;exact acB
  · exact adL
end Na
section
open Go
theorem bl {p:Prop} (h:p:=by(repeat (first|(with_reducible exact Below.refl _ _)|(with_reducible assumption)|(with_reducible apply Ex.iJ)|(with_reducible apply Ex.uy)|(with_reducible apply Ex.qJ)|(with_reducible refine Ex.yn ?_ (by first|(simp;done)|(simp;omega)) _)|(with_reducible refine Ex.rF ?_ (by assumption))))):p:=h
theorem htake {P:Program} {md:Region.Mode} {ops:Array Oper} {Q:Exit->Act->World->Prop} {S:World->Prop} (i:Nat) (v:Value) {oi:Oper} {fuel:Nat} {listed:Array Bool} {a:Act} {w:World} (hi:ops[i]?=some oi:=by rfl) (hs:Region.noSelect ops=true:=by kernel_rfl) (hf:Region.free md ops listed i=true:=by kernel_rfl) (hr:(Region.ready md ops listed).contains i=true:=by kernel_rfl) (hQ:∀c a w,Q (.panic c) (a.put oi.dst v) w->Q (.panic c) a w:=by exact fun _ _ _ h=>h) (hw:Region.wanted oi (yielded ops a.tmps)=true:=by rfl) (hy:∀w,S w->(execOp a.eval oi).run P w=.ok (.value v) w:=by(intro w' hS';(try dsimp only at hS');first|(go_simp;done)|(go_simp;with_reducible rfl))) (hS:S w:=by assumption) (h:wpAnyH P md ops Q S fuel (listed.setIfInBounds i true) (a.put oi.dst v) w):wpAnyH P md ops Q S (fuel+1) listed a w:=
 wpAnyH_take hi hs hf hr hQ (Or.inl ⟨hw,hy⟩) hS h
theorem qR {P:Program} {md:Region.Mode} {ops:Array Oper} {Q:Exit->Act->World->Prop} {S:World->Prop} (rs:List Nat) {fuel:Nat} {listed:Array Bool} {a:Act} {w:World} (h:AllReadyH P md ops Q S fuel listed a w rs) (hr:Region.ready md ops listed=rs:=by kernel_rfl) (hne:rs ≠ []:=by simp):wpAnyH P md ops Q S (fuel+1) listed a w:=
 wpAnyH_ready hr hne h
theorem qo {P:Program} {md:Region.Mode} {ops:Array Oper} {Q:Exit->Act->World->Prop} {S:World->Prop} {fuel:Nat} {listed:Array Bool} {a:Act} {w:World} {i:Nat} {o:Oper} {rs:List Nat} (h:∀K':Act->World->Prop,Shut (∀a w,S w->(S w->wpAnyH P md ops Q S fuel (listed.setIfInBounds i true) a w)->K' a w)->if Region.wanted o (yielded ops a.tmps)=true then Oper.wp P o a w K' Q else K' (a.put o.dst undef) w) (hs:AllReadyH P md ops Q S fuel listed a w rs) (ho:ops[i]?=some o:=by rfl):AllReadyH P md ops Q S fuel listed a w (i::rs):=
 AllReadyH.cons ho h hs
theorem hcall {P:Program} {md:Region.Mode} {ops:Array Oper} {Q:Exit->Act->World->Prop} {S:World->Prop} (i:Nat) {fuel:Nat} {listed:Array Bool} {a:Act} {w:World} {o:Oper} (h:∀K':Act->World->Prop,Shut (∀a w,S w->(S w->wpAnyH P md ops Q S fuel (listed.setIfInBounds i true) a w)->K' a w)->if Region.wanted o (yielded ops a.tmps)=true then Oper.wp P o a w K' Q else K' (a.put o.dst undef) w) (hr:Region.ready md ops listed=[i]:=by kernel_rfl) (ho:ops[i]?=some o:=by rfl):wpAnyH P md ops Q S (fuel+1) listed a w:=
 wpAnyH_ready hr (by simp) (AllReadyH.cons ho h AllReadyH.nil)
theorem sA {α:Type _} (l:List α) (i:Nat) (a:α):l.toArray.setIfInBounds i a=(l.set i a).toArray:=List.setIfInBounds_toArray ..
theorem sB {α:Type _} (x:α) (l:List α) (a:α):(x::l).set 0 a=a::l:=rfl
theorem sC {α:Type _} (x:α) (l:List α) (n:Nat) (a:α):(x::l).set (n+1) a=x::l.set n a:=rfl
end
namespace Ex
open Go.RowKit
set_option linter.unusedSimpArgs false
abbrev mE:ByteArray:=⟨#[]⟩
def ad3 (x:Ex) (w:ah) (e:Ending) (w':ah):Prop:=∃p m c,e=.returned (.agg #[.int .i64 x.o,.string x.s,.int .i64 x.n,.slice p m c])/\In w' x p m/\Below w.heap.size w w'
def b01 (n:Int):Int:=if n=0 then 0 else 1
def Ko (t n:Int):Ex:=if t=1 then .mk 1 mE n [] else if t=2 then .mk 2 mE (b01 n) [] else if t=3 then .mk 7 mE 0 [.mk 1 mE n []] else .mk 0 mE 0 []
theorem In.leaf {w:ah} {o n:Int} {s:ByteArray} {p:Option Addr}:In w (.mk o s n []) p 0:=bX.zero
theorem In.one {w:ah} {o n:Int} {s:ByteArray} {x:Ex} {b:Nat} {p:Option Addr} {m c:Nat} (hb:b<w.heap.size) (h:iQ w b 0 x p m c) (hx:In w x p m):In w (.mk o s n [x]) (some ⟨b,0,ae⟩) 1:=by
 refine nI.2 ⟨rfl,by omega,.inr ⟨b,0,rfl,hb,hb,hid fun k hk=>?_⟩⟩;have:k=0:=by simpa using hk
 subst this;exact⟨p,m,c,h,hx⟩
theorem In.two {w:ah} {o n:Int} {s:ByteArray} {x y:Ex} {b:Nat} {p q:Option Addr} {m c m2 c2:Nat} (hb:b<w.heap.size) (h:iQ w b 0 x p m c) (hx:In w x p m) (h2:iQ w b 4 y q m2 c2) (hy:In w y q m2):In w (.mk o s n [x,y]) (some ⟨b,0,ae⟩) 2:=by
 refine nI.2 ⟨rfl,by omega,.inr ⟨b,0,rfl,hb,hb,hid fun k hk=>?_⟩⟩;have:k=0∨k=1:=by simp at hk;omega
 rcases this with rfl|rfl
 · exact⟨p,m,c,h,hx⟩
 · exact⟨q,m2,c2,h2,hy⟩
theorem Lc {w:ah} {C:Array Value} {t:TypeId} (k:Nat):(w.alloc (.cells C t)).frozen? ⟨w.heap.size,k,ae⟩=false:=by
 have h:(w.alloc (.cells C t)).heap[w.heap.size]?=some (.cells C t (0,0)):=World.alloc_heap_new w _;unfold World.frozen?;rw[h];simp
theorem am4 {W:ah} {g:Nat} {o:Int} {s:ByteArray} {n:Int} {p:Option Addr} {m c:Nat} (h:dR W g o s n p m c) (o':Int) (s':ByteArray) (n':Int) (p':Option Addr) (m' c':Nat) :
 dR ((((W.setCell ⟨g,0,ae⟩ (.int .i64 o')).setCell ⟨g,1,ae⟩ (.string s')).setCell ⟨g,2,ae⟩ (.int .i64 n')).setCell ⟨g,3,ae⟩ (.slice p' m' c')) g o' s' n' p' m' c':=by
 obtain⟨h0,h1,h2,h3⟩:=h;refine⟨?_,?_,?_,?_⟩ <;> simp[go_sem,h0,h1,h2,h3]
theorem aeS {a W:ah} {g:Nat} (h:Below a.heap.size a W) (hg:a.heap.size<=g) (v0 v1 v2 v3:Value):Below a.heap.size a ((((W.setCell ⟨g,0,ae⟩ v0).setCell ⟨g,1,ae⟩ v1).setCell ⟨g,2,ae⟩ v2).setCell ⟨g,3,ae⟩ v3):=
 (((h.setCell (p:=⟨g,0,ae⟩) hg v0).setCell (p:=⟨g,1,ae⟩) hg v1).setCell (p:=⟨g,2,ae⟩) hg v2).setCell (p:=⟨g,3,ae⟩) hg v3
theorem Nt {p:Prop} (h:p:=by simp[results,results241,go_sem]):p:=h
theorem Ez (n:Int) (w:ah):Calls ai 241 #[.int .i64 1,.int .i64 n] w fun e w'=>e=.returned (.agg #[.int .i64 1,.string mE,.int .i64 n,.slice ae 0 0])/\Below w.heap.size w w':=by
 go_enter func241,ntmps241;go_wp2_with fail
 (try simp only[Exit.inBlock,Exit.then])
 exact ag (v:=.agg #[.int .i64 1,.string mE,.int .i64 n,.slice ae 0 0]) Nt rfl ⟨rfl,bl⟩
theorem PT (t n:Int) (w:ah):Calls ai 241 #[.int .i64 t,.int .i64 n] w (ad3 (Ko t n) w):=by
 unfold Ko;by_cases h1:t=1
 · subst h1;rw[if_pos rfl];exact(Ez n w).mono fun e w' h=>⟨ae,0,0,h.1,In.leaf,h.2⟩
 rw[if_neg h1];have t1:(t==1)=false:=beq_eq_false_iff_ne.2 h1;by_cases h2:t=2
 · subst h2;rw[if_pos rfl];by_cases hn:n=0
   · subst hn;go_enter func241,ntmps241;go_wp2_with fail
     (try simp only[Exit.inBlock,Exit.then])
     exact ag (v:=.agg #[.int .i64 2,.string mE,.int .i64 0,.slice ae 0 0]) Nt rfl ⟨ae,0,0,rfl,In.leaf,bl⟩
   · have f0:(n==0)=false:=beq_eq_false_iff_ne.2 hn;rw[show b01 n=1 from if_neg hn];go_enter func241,ntmps241;go_wp2_with fail
     (try simp only[Exit.inBlock,Exit.then])
     exact ag (v:=.agg #[.int .i64 2,.string mE,.int .i64 1,.slice ae 0 0]) Nt rfl ⟨ae,0,0,rfl,In.leaf,bl⟩
 rw[if_neg h2];have t2:(t==2)=false:=beq_eq_false_iff_ne.2 h2;by_cases h3:t=3
 · subst h3;rw[if_pos rfl];go_enter func241,ntmps241;go_wp2_with fail;refine(Ez n _).mono ?_;rintro e w2 ⟨rfl,hb2⟩;obtain⟨z0,z1,z2,z3⟩:=dR.on hb2 f_;have y0:=(hb2.frozen (p:=⟨w.heap.size,0,ae⟩) cK).trans (Lc 0);have y1:=(hb2.frozen (p:=⟨w.heap.size,1,ae⟩) cK).trans (Lc 1);have y2:=(hb2.frozen (p:=⟨w.heap.size,2,ae⟩) cK).trans (Lc 2);have y3:=(hb2.frozen (p:=⟨w.heap.size,3,ae⟩) cK).trans (Lc 3);have hlt:w.heap.size<w2.heap.size:=by have:=hb2.size;simp at this;omega
   have HB:=hid (show Below w.heap.size w w2 by exact bl);clear hb2;go_wp2_with fail
   (try simp only[Exit.inBlock,Exit.then])
   obtain⟨r0,r1,r2,r3⟩:=(am4 ⟨z0,z1,z2,z3⟩ 7 mE 0 (some ⟨w2.heap.size,0,ae⟩) 1 1).alloc (.cells #[.int .i64 1,.string mE,.int .i64 n,.slice ae 0 0] 25);have hB:=iJ (o:=.cells #[.int .i64 1,.string mE,.int .i64 n,.slice ae 0 0] 25) (aeS HB.out (g:=w.heap.size) (Nat.le_refl _) (.int .i64 7) (.string mE) (.int .i64 0) (.slice (some ⟨w2.heap.size,0,ae⟩) 1 1));have oo:=zP (w:=(((w2.setCell ⟨w.heap.size,0,ae⟩ (.int .i64 7)).setCell ⟨w.heap.size,1,ae⟩ (.string mE)).setCell ⟨w.heap.size,2,ae⟩ (.int .i64 0)).setCell ⟨w.heap.size,3,ae⟩ (.slice (some ⟨w2.heap.size,0,ae⟩) 1 1)) (x:=.mk 1 mE n []) (p:=ae) (m:=0) (c:=0) (t:=25);simp only[World.size_setCell] at oo;exact ag (v:=.agg #[.int .i64 7,.string mE,.int .i64 0,.slice (some ⟨w2.heap.size,0,ae⟩) 1 1]) (by simp[results,results241,go_sem,r0,r1,r2,r3]) rfl ⟨_,_,_,rfl,In.one cK oo In.leaf,hB⟩
 rw[if_neg h3];have t3:(t==3)=false:=beq_eq_false_iff_ne.2 h3;clear h1 h2 h3;go_enter func241,ntmps241;go_wp2_with fail
 (try simp only[Exit.inBlock,Exit.then])
 exact ag (v:=.agg #[.int .i64 0,.string mE,.int .i64 0,.slice ae 0 0]) Nt rfl ⟨ae,0,0,rfl,In.leaf,bl⟩
end Ex
namespace Ex
open Go.RowKit
theorem acQ {p:Prop} (h:p:=by
 go_wp2_with fail;go_roundw
 case rel=>exact⟨k+1,by omega,by rw[HK.out];go_num,by go_num,HW2⟩
 case measure=>simp[intOf];omega
 ):p:=h
set_option maxRecDepth 100000 in
theorem PY (e:Ex):∀(p:Option Addr) (m c:Nat) (w:ah),In w e p m->cnt e<=1000000->Calls ai 73 #[.agg #[.int .i64 e.o,.string e.s,.int .i64 e.n,.slice p m c]] w (Gives (.int .i64 (dep e:Nat)) w):=by
 induction e using Ex.ind with
 | h o s n l ih=>
  intro p m c w h hc;rw[yu] at hc;have HH:=hid h;have HI:=hid ih;obtain⟨hl,hm⟩:=h.len;have HL:=hid hl;have HC:=hid hc;simp only[Ex.o,Ex.s,Ex.n];clear ih h hl hc;rw[Kr];go_enter func73,ntmps73;go_wp2_with fail;go_loopw [3,9] (fun d i wr=>∃k:Nat,k<=m/\d=.int .i64 (jZ (l.take k):Nat)/\i=.int .i64 (k:Nat)/\Hid (Below w.heap.size w wr)) (fun d i _=>m-(intOf i).toNat)
  case atStart=>exact⟨0,Nat.zero_le _,rfl,rfl,hid bl⟩
  case round=>
   obtain⟨k,hk,rfl,rfl,HW⟩:=hrel;have k0:(0:Int)<=(k:Int):=by omega
   rcases Nat.lt_or_ge k m with h|h
   · have k1:(k:Int)<(m:Int):=by omega
     obtain⟨b,o',rfl,-,hG,hcell⟩:=HH.out.kids bT;have hkl:k<l.length:=by rw[HL.out];omega
     obtain⟨q,j,c',hc4,eH⟩:=hcell.out k hkl;have hmem:l[k]∈l:=List.getElem_mem hkl;have hgx:l[k]?=some l[k]:=List.getElem?_eq_getElem hkl;obtain⟨x,hx⟩:∃x,l[k]=x:=⟨_,rfl⟩
     rw[hx] at hc4 eH hmem hgx;obtain⟨e0,e1,e2,e3⟩:=hc4.on HW.out hG;have mO:=hid eH;have HX:=hid hgx;have HM:=hid hmem;clear hcell hc4 eH hx hmem hgx hkl;obtain⟨d1,d2⟩:=WN k HM.out HC.out;have HK:=hid (WM HX.out);have HB:=hid (PS k HX.out HC.out);obtain⟨D,hD⟩:∃D,jZ (l.take k)=D:=⟨_,rfl⟩
     obtain⟨E,hE⟩:∃E,dep x=E:=⟨_,rfl⟩
     rw[hD] at d1 HK ⊢;have HI1:=HI.out x HM.out q j c';rw[hE] at d2 HK HI1;have HI2:=hid HI1;clear HI1 hD hE;go_wp2_with fail;refine(HI2.out _ (mO.out.on qG) HB.out.2).mono ?_;rintro e w2 ⟨rfl,hb2⟩;have HW2:Hid (Below w.heap.size w w2):=hid qG;clear hb2;by_cases hDE:D<E
     · have m1:(D:Int)<(E:Int):=by omega
       exact acQ
     · have m1:(E:Int)<=(D:Int):=by omega
       exact acQ
   · exact zzf
end Ex
end Go.Proofs.YtkpekhpgdajabaaGreatDoor
