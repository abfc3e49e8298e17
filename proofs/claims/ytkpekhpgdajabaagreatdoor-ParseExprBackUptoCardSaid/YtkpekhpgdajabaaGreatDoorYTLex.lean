/-
  Parts of this proof: A text that is written is divided into the token. An expression that is written is read. What is written of an expression, form by form, .
-/
import Derived.Test.YtkpekhpgdajabaaGreatDoorYLxScan2
set_option linter.unusedVariables false
namespace Go.Proofs.YtkpekhpgdajabaaGreatDoor
namespace Ps
open Lx
def bare (x:Tk):Tk:=⟨x.k,x.t,x.n,0⟩
def dC (s:ByteArray):Tk:=if iC (bs s)=true then ⟨1,s,0,0⟩ else if dG (bs s)=true then ⟨3,s,0,0⟩ else ⟨2,mt,Nu.jR (bs s),0⟩
def okW (s:ByteArray):Prop:=iC (bs s)=true∨dG (bs s)=true∨∃n:Int,0<=n/\n<=1000000000000/\s=Nu.num n
def oC (G:Gen):W->Nat->List Tk×Nat
 | .nil,s=>([],s)
 | .wd x,s=>([dC x],G.nx s)
 | .ln,s=>([⟨4,mt,0,0⟩],G.nx s)
 | .cat a b,s=>((oC G a s).1++(oC G b (oC G a s).2).1,(oC G b (oC G a s).2).2)
 | .xF n k,s=>oC G (k (G.pk n (G.nx s))) (G.nx s)
theorem MU (G:Gen):∀(w:W) (s:Nat),(oC G w s).2=(txt G w s).2
 | .nil,s=>rfl
 | .wd x,s=>rfl
 | .ln,s=>rfl
 | .cat a b,s=>by rw[oC,txt,MU G a s];exact MU G b _
 | .xF n k,s=>by rw[oC,txt];exact MU G _ _
def rz:W->Bool->Bool->Prop
 | .nil,b,b'=>b'=b
 | .wd x,b,b'=>b'=true/\okW x
 | .ln,b,b'=>b=true/\b'=false
 | .cat x y,b,b'=>∃c,rz x b c/\rz y c b'
 | .xF n k,b,b'=>0<n/\∀i,i<n->rz (k i) b b'
def UY (e:List UInt8):Prop:=∀c,e.head?=some c->c=32∨c=10∨c=9
theorem ait {l e:List UInt8} (hl:l ≠ []) (h:UY e):fQ (l++e)=fQ l:=by
 have l1:∀c,e.head?=some c->gN c=false:=fun c hc=>by rcases h c hc with rfl|rfl|rfl <;> decide
 have l2:∀c,e.head?=some c->iA c=false:=fun c hc=>by rcases h c hc with rfl|rfl|rfl <;> decide
 have l3:∀c,e.head?=some c->kX c=false:=fun c hc=>by rcases h c hc with rfl|rfl|rfl <;> decide
 have e1:=MM (l:=l) l1;have e2:=MM (l:=l) l2;have e3:=MM (l:=l) l3;have g2:=z8 iA l;have g3:=z8 kX l;have hpos:1<=l.length:=by cases l with|nil=>exact absurd rfl hl|cons c t=>simp
 have sg2:∀(b c:UInt8),c=32∨c=10∨c=9->dG [b,c]=false:=by
  intro b c hc;unfold dG Bg;simp only[List.contains_eq_mem,decide_eq_false_iff_not,List.mem_cons,List.cons.injEq,reduceCtorEq,and_false,List.not_mem_nil,or_false,and_true];rcases hc with rfl|rfl|rfl <;> simp
 unfold fQ;rw[e1,e2,e3,List.take_append_of_le_length g2,List.take_append_of_le_length g3,List.take_append_of_le_length hpos];have key:(2<=(l++e).length/\dG ((l++e).take 2)=true)↔(2<=l.length/\dG (l.take 2)=true):=by
  by_cases g:2<=l.length
  · rw[List.take_append_of_le_length g,List.length_append];constructor
    · rintro⟨_,g2⟩;exact⟨g,g2⟩
    · rintro⟨_,g2⟩;exact⟨by omega,g2⟩
  · constructor
    · rintro⟨g1,g2⟩;exfalso
      match l,hl,g with
      | [b],_,_=>
       cases e with
       | nil=>simp at g1
       | cons c t=>
        have g3:dG [b,c]=true:=g2;rw[sg2 b c (h c rfl)] at g3;cases g3
      | _::_::_,_,g=>simp at g
    · rintro⟨g1,_⟩;exact absurd g1 g
 simp only[key];by_cases g:2<=l.length/\dG (l.take 2)=true
 · rw[List.take_append_of_le_length g.1]
 · simp only[if_neg g]
theorem aci {l:List UInt8} (h:dG l=true):iC l=false:=by
 exact NZ
theorem Tx {n:Int} (h0:0<=n) (h1:n<=1000000000000):dC (Nu.num n)=⟨2,mt,n,0⟩:=by
 have hO:=C_.2 ⟨h0,h1,rfl⟩;have hA:=Rc h0;have hne:=Re h0;have hb:bs (Nu.num n)=Lib.itoa n:=rfl;have hw:iC (bs (Nu.num n))=false:=by
  rw[hb]
  generalize Lib.itoa n=l at *
  cases l with
  | nil=>exact absurd rfl hne
  | cons c t=>
   have hc:iA c=true:=by rw[List.all_cons,Bool.and_eq_true] at hA;exact hA.1
   have hn:=GM hc;have QY:gN c=false:=by
    unfold gN iT;rw[decide_eq_false bT,Bool.false_and]
   unfold iC;rw[qA QY];rfl
 have hs:dG (bs (Nu.num n))=false:=by
  rw[hb]
  generalize Lib.itoa n=l at *
  cases l with
  | nil=>exact absurd rfl hne
  | cons c t=>
   have hc:iA c=true:=by rw[List.all_cons,Bool.and_eq_true] at hA;exact hA.1
   cases e:dG (c::t) with
   | false=>rfl
   | true=>
    obtain⟨s1,s2⟩:=abJ e;rw[vM hc] at s2;omega
 unfold dC;rw[hw,hs,if_neg bR,if_neg bR];rw[hb];have Li:qX (Lib.itoa n)=some n:=hO;unfold qX at Li
 split at Li
 · cases Li
 · injection Li with h;rw[h]
theorem ab7 {s:ByteArray} (h:okW s):1<=(dC s).k/\(dC s).k<=3/\jH (dC s)=true/\bs (Jf (dC s))=bs s/\(dC s).l=0:=by
 rcases h with h|h|⟨n,h0,h1,rfl⟩
 · unfold dC;rw[if_pos h];exact⟨Int.le_refl 1,by show(1:Int)<=3;omega,by unfold jH;rw[if_pos rfl,h];rfl,rfl,rfl⟩
 · unfold dC;rw[if_neg (by rw[aci h];decide),if_pos h];refine⟨by show(1:Int)<=3;omega,Int.le_refl 3,?_,rfl,rfl⟩;unfold jH;rw[if_neg (by show ¬(3:Int)=1;omega),if_neg (by show ¬(3:Int)=2;omega),if_pos rfl,h];rfl
 · rw[Tx h0 h1];refine⟨by show(1:Int)<=2;omega,by show(2:Int)<=3;omega,?_,rfl,rfl⟩;unfold jH;rw[if_neg (by show ¬(2:Int)=1;omega),if_pos rfl];simp only[decide_eq_true h0,decide_eq_true h1];rfl
theorem ajW (r:List UInt8) (a:List Tk) (n:Nat) (k:Nat):dH (blk k++r) a n=dH r a n:=by
 unfold blk
 split
 · exact AX (.inl rfl)
 · split
   · exact AX (.inl rfl)
   · split
     · exact(AX (.inl rfl)).trans (AX (.inl rfl))
     · exact AX (.inr rfl)
theorem aiG (r:List UInt8) (k:Nat):UY (blk k++r):=by
 unfold blk;intro c hc
 split at hc
 · cases hc;exact .inl rfl
 · split at hc
   · cases hc;exact .inl rfl
   · split at hc
     · cases hc;exact .inl rfl
     · cases hc;exact .inr (.inr rfl)
theorem ajY {s:ByteArray} (h:okW s) (r:List UInt8) (k:Nat) (a:List Tk) (n:Nat):dH (bs s++blk k++r) a n=dH r (a++[jv (dC s) n]) n:=by
 obtain⟨h1,h3,hf,hw,-⟩:=ab7 h;obtain⟨hne,hF⟩:=aix h1 h3 hf;rw[hw] at hne hF;have hG:=ait hne (aiG r k);rw[hF] at hG;rw[List.append_assoc];rw[← ajW r (a++[jv (dC s) n]) n k]
 generalize blk k++r=e at hG ⊢
 generalize bs s=u at hne hG ⊢
 cases u with
 | nil=>exact absurd rfl hne
 | cons c t=>
  rw[List.cons_append] at hG ⊢;rw[LW (YD hG) hG,← List.cons_append,List.drop_left];rfl
theorem RN {a:List Tk} {x:Tk}:opn (a++[x])=decide (x.k≠4):=by unfold opn;rw[List.getLast?_append];rfl
theorem XX {a:List Tk} {n:Nat} (h:opn a=true):iR a n=a++[⟨4,mt,0,(n:Int)⟩]:=if_pos h
theorem RO {a:List Tk} {n:Nat}:opn (a++[⟨4,mt,0,(n:Int)⟩])=false:=by rw[RN];rfl
theorem XW {a:List Tk} {n:Nat} (h:opn a=false):iR a n=a:=if_neg (by rw[h];decide)
theorem ajX {a:List Tk} (h:opn a=true) (r:List UInt8) (n k:Nat):∃m,n<m/\dH (Rt k++r) a n=dH r (a++[⟨4,mt,0,(n:Int)⟩]) m:=by
 have one:∀r:List UInt8,dH (10::r) a n=dH r (a++[⟨4,mt,0,(n:Int)⟩]) (n+1):=fun r=>by rw[LV,XX h]
 unfold Rt
 split
 · exact⟨n+1,by omega,one r⟩
 · split
   · exact⟨n+1,by omega,one r⟩
   · split
     · refine⟨n+1,by omega,?_⟩
       show dH (32::35::32::105::102::32::40::10::r) a n=_
       rw[AX (.inl rfl),Rs,← one r];rfl
     · split
       · refine⟨n+2,by omega,?_⟩
         show dH (10::10::r) a n=_
         rw[one,LV,XW RO]
       · refine⟨n+2,by omega,?_⟩
         show dH (10::9::35::32::101::110::100::10::r) a n=_
         rw[one,AX (.inr rfl),Rs]
         show dH (10::r) _ _=_
         rw[LV,XW RO]
theorem Im (G:Gen):∀(w:W) (b b':Bool) (s:Nat) (r:List UInt8) (a:List Tk) (n:Nat),rz w b b'->opn a=b->∃T m,dH ((txt G w s).1++r) a n=dH r (a++T) m/\T.map bare=(oC G w s).1/\opn (a++T)=b'
 | .nil,b,b',s,r,a,n,h,ho=>⟨[],n,by rw[txt,List.append_nil];rfl,rfl,by rw[List.append_nil,ho];exact Eq.symm h⟩
 | .wd x,b,b',s,r,a,n,h,ho=>by
  obtain⟨rfl,hx⟩:=h;obtain⟨h1,h3,hf,hw,hl⟩:=ab7 hx;refine⟨[jv (dC x) n],n,ajY hx r _ a n,?_,?_⟩
  · rw[oC]
    show[bare (jv (dC x) n)]=[dC x]
    have e:bare (jv (dC x) n)=dC x:=by
     unfold bare jv;rw[← hl]
    rw[e]
  · rw[RN];refine decide_eq_true ?_
    show(dC x).k≠4
    omega
 | .ln,b,b',s,r,a,n,h,ho=>by
  obtain⟨rfl,rfl⟩:=h;obtain⟨m,-,hm⟩:=ajX ho r n (G.pk 5 (G.nx s));exact⟨_,m,hm,rfl,RO⟩
 | .cat x y,b,b',s,r,a,n,h,ho=>by
  obtain⟨c,h1,h2⟩:=h;obtain⟨T1,m1,e1,e2,e3⟩:=Im G x b c s ((txt G y (txt G x s).2).1++r) a n h1 ho;obtain⟨T2,m2,f1,f2,f3⟩:=Im G y c b' (txt G x s).2 r (a++T1) m1 h2 e3;refine⟨T1++T2,m2,?_,?_,by rw[← List.append_assoc];exact f3⟩
  · rw[txt,List.append_assoc,e1,f1,List.append_assoc]
  · rw[oC,List.map_append,e2,f2,MU]
 | .xF k f,b,b',s,r,a,n,h,ho=>by
  obtain⟨hk,h⟩:=h;obtain⟨T,m,e⟩:=Im G (f (G.pk k (G.nx s))) b b' (G.nx s) r a n (h _ (G.lt _ _ hk)) ho;exact⟨T,m,e⟩
end Ps
namespace Ps
open Lx (Tk bs mt iC dG)
open Ex (Ex)
def Wr:W->List Tk->Prop
 | .nil,T=>T=[]
 | .wd x,T=>∃t,T=[t]/\bare t=dC x
 | .ln,T=>∃t,T=[t]/\bare t=⟨4,mt,0,0⟩
 | .cat a b,T=>∃A B,T=A++B/\Wr a A/\Wr b B
 | .xF n k,T=>∃i,i<n/\Wr (k i) T
theorem Je (G:Gen):∀(w:W) (b b':Bool) (s:Nat) (T:List Tk),rz w b b'->T.map bare=(oC G w s).1->Wr w T
 | .nil,b,b',s,T,h,e=>by rw[oC] at e;exact List.map_eq_nil_iff.1 e
 | .wd x,b,b',s,T,h,e=>by
  rw[oC] at e;obtain⟨t,r,rfl,e1,e2⟩:=List.map_eq_cons_iff.1 e;rw[List.map_eq_nil_iff.1 e2];exact⟨t,rfl,e1⟩
 | .ln,b,b',s,T,h,e=>by
  rw[oC] at e;obtain⟨t,r,rfl,e1,e2⟩:=List.map_eq_cons_iff.1 e;rw[List.map_eq_nil_iff.1 e2];exact⟨t,rfl,e1⟩
 | .cat x y,b,b',s,T,h,e=>by
  obtain⟨c,h1,h2⟩:=h;rw[oC] at e;obtain⟨A,B,rfl,e1,e2⟩:=List.map_eq_append_iff.1 e;exact⟨A,B,rfl,Je G x b c s A h1 e1,Je G y c b' _ B h2 e2⟩
 | .xF n k,b,b',s,T,h,e=>by
  rw[oC] at e;exact⟨_,G.lt _ _ h.1,Je G _ b b' _ T (h.2 _ (G.lt _ _ h.1)) e⟩
section
variable {t:Tk} {u:List Tk} {x s:ByteArray}
theorem Gz {t':Tk} (h:bare t=t'):t.t=t'.t:=by rw[← h];rfl
theorem J4 {t':Tk} (h:bare t=t'):t.k=t'.k:=by rw[← h];rfl
theorem aeR {t':Tk} (h:bare t=t'):t.n=t'.n:=by rw[← h];rfl
theorem ZF (s:ByteArray):is s (t::u)=decide (bs t.t=bs s):=rfl
theorem Ty (h:iC (bs x)=true):dC x=⟨1,x,0,0⟩:=by unfold dC;rw[if_pos h]
theorem DK (h:dG (bs x)=true):dC x=⟨3,x,0,0⟩:=by unfold dC;rw[if_neg (by rw[aci h];decide),if_pos h]
theorem i_ (h:bare t=dC x) (hx:iC (bs x)=true∨dG (bs x)=true) (s:ByteArray):is s (t::u)=decide (bs x=bs s):=by
 rw[ZF,Gz h];rcases hx with hx|hx
 · rw[Ty hx]
 · rw[DK hx]
theorem H8 (h:bare t=dC x) (hx:iC (bs x)=true∨dG (bs x)=true):¬(hd (t::u)).k=2:=by
 show ¬t.k=2
 rw[J4 h];rcases hx with hx|hx
 · rw[Ty hx];show ¬(1:Int)=2;omega
 · rw[DK hx];show ¬(3:Int)=2;omega
end
def ops:List ByteArray:=[Ak,F7,F6,DZ,mK,uf,DY,DX,DW,DV,DU,zI,zJ]
def Sp (u:List Tk):Prop:=∀s∈ops,is s u=false
def qZ:List (ByteArray×Int):=[(Ak,11),(F7,12),(F6,13)]
def vK:List (ByteArray×Int):=[(DZ,9),(mK,10)]
theorem Sp.p {u:List Tk} (h:Sp u):∀q∈qZ,is q.1 u=false:=fun q hq=>h _ (by revert q;decide)
theorem Sp.s {u:List Tk} (h:Sp u):∀q∈vK,is q.1 u=false:=fun q hq=>h _ (by revert q;decide)
theorem Sp.tok {t:Tk} {u:List Tk} {x:ByteArray} (h:bare t=dC x) (hx:iC (bs x)=true∨dG (bs x)=true) (hn:∀s∈ops,¬bs x=bs s):Sp (t::u):=fun s hs=>by rw[i_ h hx];exact decide_eq_false (hn s hs)
section
variable {α:Type} {A:Int->P α} {B:P α} {v:List Tk}
theorem RQ:∀{os:List (ByteArray×Int)},(∀q∈os,is q.1 v=false)->run (tJ A B os) v=run B v
 | [],_=>rfl
 | o::r,h=>by rw[tJ,ek (h o (.head _)),RQ fun q hq=>h q (.tail _ hq)]
theorem aaN:∀{os:List (ByteArray×Int)} {q:ByteArray×Int},q∈os->is q.1 v=true->(∀p∈os,bs p.1=bs q.1->p=q)->run (tJ A B os) v=run (A q.2) v.tail
 | o::r,q,hq,hi,hu=>by
  rw[tJ]
  cases h:is o.1 v with
  | true=>
   have e:o=q:=hu o (.head _) (by
    have h1:=of_decide_eq_true h;have h2:=of_decide_eq_true hi;rw[← h1,h2])
   rw[nW h,e]
  | false=>
   rw[ek h];rcases List.mem_cons.1 hq with rfl|hq
   · rw[hi] at h;cases h
   · exact aaN hq hi fun p hp=>hu p (.tail _ hp)
end
section
variable {m:P Ex} {os:List (ByteArray×Int)} {t u v:List Tk} {x y:Ex} {q:ByteArray×Int}
theorem Ev (h:run m t=.ok x u) (hf:∀q∈os,is q.1 u=false):run (uH m os) t=.ok x u:=by
 unfold uH;rw[dK h]
 show run (ql m os (99999+1) x) u=_
 rw[ql,RQ hf];rfl
theorem Kn (h:run m t=.ok x v) (hq:q∈os) (hi:is q.1 v=true) (hu:∀p∈os,bs p.1=bs q.1->p=q) (g:run m v.tail=.ok y u) (hf:∀q∈os,is q.1 u=false):run (uH m os) t=.ok (dZ q.2 x y) u:=by
 unfold uH;rw[dK h]
 show run (ql m os (99998+1+1) x) v=_
 rw[ql,aaN hq hi hu,dK g,ql,RQ hf];rfl
end
section
variable {f N:P Ex} {t u v:List Tk} {x y:Ex} {o:Int} {s:ByteArray}
theorem TC (h:run f t=.ok x u) (hu:∀q∈qZ,is q.1 u=false):run (Fh f) t=.ok x u:=Ev h hu
theorem DN (h:run f t=.ok x u) (hp:∀q∈qZ,is q.1 u=false) (hs:∀q∈vK,is q.1 u=false):run (sum f) t=.ok x u:=Ev (TC h hp) hs
def Pn:List ByteArray:=[uf,DY,DX,DW,DV,DU]
theorem Cg (h:run (sum f) t=.ok x u) (hc:∀s∈Pn,is s u=false):run (cmp f) t=.ok x u:=by
 unfold cmp;rw[dK h,ek (hc _ bR),ek (hc _ bR),ek (hc _ bR),ek (hc _ bR),ek (hc _ bR),ek (hc _ bR)];rfl
theorem Sp.c (h:Sp u):∀s∈Pn,is s u=false:=fun s hs=>h _ (by revert s;decide)
theorem FB (hn:is kU t=false) (h:run (cmp f) t=.ok x u):run (lq f N) t=.ok x u:=by unfold lq;rw[ek hn];exact h
theorem M9 {g:P Ex} (h:run g t=.ok x u) (hu:Sp u):run (AB g) t=.ok x u:=Ev h NV
theorem M_ {g:P Ex} (h:run (AB g) t=.ok x u) (hu:Sp u):run (oO g) t=.ok x u:=Ev h NV
theorem I_ (h:run f t=.ok x u) (hn:is kU t=false) (hu:Sp u):run (oO (lq f N)) t=.ok x u:=M_ (M9 (FB hn (Cg (DN h hu.p hu.s) hu.c)) hu) hu
theorem M8 (h:run (cmp f) t=.ok x u) (hn:is kU t=false) (hu:Sp u):run (oO (lq f N)) t=.ok x u:=M_ (M9 (FB hn h) hu) hu
end
end Ps
namespace Ps
open Ps.P (rt bd exp)
open Lx (Tk bs iC dG)
open Ex (Ex)
section
variable {E F f N:P Ex} {l r t:Tk} {T u v:List Tk} {e a b x y:Ex} {s w:ByteArray} {d:Nat}
theorem zA (h:bare t=dC w) (hx:iC (bs w)=true∨dG (bs w)=true):run (exp w) (t::v)=.ok () v:=EF ((i_ h hx w).trans (decide_eq_true rfl))
theorem akq (h:e.o=5->¬d=4):neg d e=e:=by
 unfold neg
 split
 · exact absurd rfl (h rfl)
 · rfl
theorem aa3 (h:bare l=dC fU):run (qw E) (l::v)=run (yA E) (l::v):=by
 have I:∀s,is s (l::v)=decide (bs fU=bs s):=i_ h (.inr bR);unfold qw;rw[yC (H8 h (.inr bR)),vL ((I _).trans bR),vL ((I _).trans bR),ek ((I _).trans bR),ek ((I _).trans bR),ek ((I _).trans bR),ek ((I _).trans bR),ek ((I _).trans bR),ek ((I _).trans bR),ek ((I _).trans bR),ek ((I _).trans bR),Dw ((I _).trans bR)]
theorem YW (hl:bare l=dC fU) (hr:bare r=dC jN) (h:run E (T++r::u)=.ok e (r::u)):run (yA E) (l::(T++r::u))=.ok (neg (T.length+2) e) u:=by
 unfold yA;have h1:run (bd (exp fU) fun _=>bd E fun e=>bd (exp jN) fun _=>rt e) (l::(T++r::u))=.ok e u:=by
  rw[dK (zA hl (.inr bR)),dK h,dK (zA hr (.inr bR))];rfl
 rw[Ij h1];have e1:(l::(T++r::u)).length-u.length=T.length+2:=by simp;omega
 rw[e1]
theorem KR (hl:bare l=dC fU) (hr:bare r=dC jN) (h:run E (T++r::u)=.ok e (r::u)) (hn:e.o=5->¬T.length=2):run (jG E F) (l::(T++r::u))=.ok e u:=by
 unfold jG;rw[ek ((i_ hl (.inr bR) _).trans bR),aa3 hl,YW hl hr h,akq fun h=>by have:=hn h;omega]
end
theorem Cn (n:Nat):fE (n+1)=oO (lq (jG (fE n) (fF n)) (fN n)):=by rw[fE]
def Reads (m:Nat) (X:W) (e:Ex):Prop:=∀T,Wr X T->∀u,Sp u->run (fE m) (T++u)=.ok e u
def Va (X:W) (e:Ex):Prop:=∀T,Wr X T->e.o=5->3<=T.length
theorem DC {r:Tk} {u:List Tk} (h:bare r=dC jN):Sp (r::u):=Sp.tok h (.inr bR) bR
theorem ann {r:Tk} {u:List Tk} (h:bare r=dC ry):Sp (r::u):=Sp.tok h (.inr bR) bR
section
variable {X:W} {e a b x y:Ex} {m:Nat} {f F N:P Ex} {T u v:List Tk} {t:Tk} {s:ByteArray}
theorem TP (h:Wr (par X) T):∃l C r,T=l::(C++[r])/\bare l=dC fU/\bare r=dC jN/\Wr X C:=by
 obtain⟨_,_,rfl,⟨l,rfl,hl⟩,C,_,rfl,hC,r,rfl,hr⟩:=h;exact⟨l,C,r,rfl,hl,hr,hC⟩
theorem TN (h:Wr (iE X) T):∃l C r,T=l::(C++[r])/\bare l=dC fU/\bare r=dC jN/\(Wr (par X) C∨Wr X C):=by
 obtain⟨_,_,rfl,⟨l,rfl,hl⟩,C,_,rfl,⟨i,_,hC⟩,r,rfl,hr⟩:=h;replace hC:Wr (if i=0 then par X else X) C:=hC;refine⟨l,C,r,rfl,hl,hr,?_⟩;by_cases hi:i=0
 · rw[if_pos hi] at hC;exact .inl hC
 · rw[if_neg hi] at hC;exact .inr hC
theorem Ma {l:Tk} (hl:bare l=dC fU):is kU (l::v)=false:=(i_ hl (.inr bR) _).trans bR
theorem Q_ (h:Wr (iE X) T):is kU (T++u)=false:=by
 obtain⟨l,C,r,rfl,hl,-⟩:=TN h;exact Ma hl
theorem Mr (h0:Reads m X e) (h1:Reads (m+1) X e) (hL:Va X e) (hT:Wr (iE X) T) (u:List Tk):run (jG (fE (m+1)) F) (T++u)=.ok e u:=by
 obtain⟨l,C,r,rfl,hl,hr,hC⟩:=TN hT;have q:(l::(C++[r]))++u=l::(C++r::u):=by simp
 rw[q];rcases hC with hC|hC
 · obtain⟨l2,D,r2,rfl,hl2,hr2,hD⟩:=TP hC;refine KR hl hr ?_ fun h=>by have:=hL D hD h;rw[List.length_cons,List.length_append];simp only[List.length_cons,List.length_nil];omega
   have q2:l2::(D++[r2])++r::u=l2::(D++r2::(r::u)):=by simp
   rw[q2,Cn];exact I_ (KR hl2 hr2 (h0 D hD _ (DC hr2)) fun h=>by have:=hL D hD h;omega) (Ma hl2) (DC hr)
 · exact KR hl hr (h1 C hC _ (DC hr)) fun h=>by have:=hL C hC h;omega
theorem pO:∀q∈qZ,dG (bs q.1)=true/\∀p∈qZ,bs p.1=bs q.1->p=q:=by decide
theorem sO:∀q∈vK,dG (bs q.1)=true/\(∀p∈vK,bs p.1=bs q.1->p=q)/\∀p∈qZ,¬bs q.1=bs p.1:=by decide
theorem aeY {q:ByteArray×Int} (hq:q∈qZ) (ht:bare t=dC q.1) (ha:run f T=.ok a (t::v)) (hn:is kU T=false) (hb:run f v=.ok b u) (hu:Sp u):run (oO (lq f N)) T=.ok (dZ q.2 a b) u:=by
 have I:∀s,is s (t::v)=decide (bs q.1=bs s):=i_ ht (.inr (pO q hq).1);exact M8 (Cg (Ev (Kn ha hq ((I _).trans (decide_eq_true rfl)) (pO q hq).2 hb hu.p) hu.s) hu.c) hn hu
theorem aeZ {q:ByteArray×Int} (hq:q∈vK) (ht:bare t=dC q.1) (ha:run f T=.ok a (t::v)) (hn:is kU T=false) (hb:run f v=.ok b u) (hu:Sp u):run (oO (lq f N)) T=.ok (dZ q.2 a b) u:=by
 have I:∀s,is s (t::v)=decide (bs q.1=bs s):=i_ ht (.inr (sO q hq).1);have h1:∀p∈qZ,is p.1 (t::v)=false:=fun p hp=>(I _).trans (decide_eq_false ((sO q hq).2.2 p hp));exact M8 (Cg (Kn (TC ha h1) hq ((I _).trans (decide_eq_true rfl)) (sO q hq).2.1 (TC hb hu.p) hu.s) hu.c) hn hu
def cL:List (ByteArray×Int):=[(uf,14),(DY,15),(DX,16),(DW,17)]
def gL:List (ByteArray×Int):=[(DV,16),(DU,17)]
theorem Wy (ht:bare t=dC s) (hs:dG (bs s)=true) (ha:run (sum f) T=.ok a (t::v)) (hb:run (sum f) v=.ok b u):(∀o:Int,(s,o)∈cL->run (cmp f) T=.ok (dZ o a b) u)/\(∀o:Int,(s,o)∈gL->run (cmp f) T=.ok (dZ o b a) u):=by
 have I:∀s',is s' (t::v)=decide (bs s=bs s'):=i_ ht (.inr hs);have g:∀mk:Ex->Ex,run (bd (sum f) fun y=>rt (mk y)) v=.ok (mk b) u:=fun mk=>by rw[dK hb];rfl
 constructor
 · intro o ho;unfold cmp;rw[dK ha];simp only[cL,List.mem_cons,Prod.mk.injEq,List.not_mem_nil,or_false] at ho;rcases ho with⟨rfl,rfl⟩|⟨rfl,rfl⟩|⟨rfl,rfl⟩|⟨rfl,rfl⟩
   · rw[nW ((I _).trans bR)];exact g _
   · rw[ek ((I _).trans bR),nW ((I _).trans bR)];exact g _
   · rw[ek ((I _).trans bR),ek ((I _).trans bR),nW ((I _).trans bR)];exact g _
   · rw[ek ((I _).trans bR),ek ((I _).trans bR),ek ((I _).trans bR),nW ((I _).trans bR)];exact g _
 · intro o ho;unfold cmp;rw[dK ha];simp only[gL,List.mem_cons,Prod.mk.injEq,List.not_mem_nil,or_false] at ho;rcases ho with⟨rfl,rfl⟩|⟨rfl,rfl⟩
   · rw[ek ((I _).trans bR),ek ((I _).trans bR),ek ((I _).trans bR),ek ((I _).trans bR),nW ((I _).trans bR)];exact g _
   · rw[ek ((I _).trans bR),ek ((I _).trans bR),ek ((I _).trans bR),ek ((I _).trans bR),ek ((I _).trans bR),nW ((I _).trans bR)];exact g _
theorem Ta (ht:bare t=dC s) (hs:iC (bs s)=true∨dG (bs s)=true) (hp:∀q∈qZ++vK,¬bs s=bs q.1) (ha:run f T=.ok a (t::v)):run (sum f) T=.ok a (t::v):=by
 have I:∀s',is s' (t::v)=decide (bs s=bs s'):=i_ ht hs;exact DN ha (fun q hq=>(I _).trans (decide_eq_false (hp q (List.mem_append_left _ hq)))) (fun q hq=>(I _).trans (decide_eq_false (hp q (List.mem_append_right _ hq))))
theorem aeV {o:Int} (ho:(s,o)∈cL) (ht:bare t=dC s) (ha:run f T=.ok a (t::v)) (hn:is kU T=false) (hb:run f v=.ok b u) (hu:Sp u):run (oO (lq f N)) T=.ok (dZ o a b) u:=by
 have hs:dG (bs s)=true/\∀q∈qZ++vK,¬bs s=bs q.1:=by
  have k:∀q∈cL,dG (bs q.1)=true/\∀p∈qZ++vK,¬bs q.1=bs p.1:=by decide
  exact k _ ho
 exact M8 ((Wy ht hs.1 (Ta ht (.inr hs.1) hs.2 ha) (DN hb hu.p hu.s)).1 o ho) hn hu
theorem aeW {o:Int} (ho:(s,o)∈gL) (ht:bare t=dC s) (ha:run f T=.ok a (t::v)) (hn:is kU T=false) (hb:run f v=.ok b u) (hu:Sp u):run (oO (lq f N)) T=.ok (dZ o b a) u:=by
 have hs:dG (bs s)=true/\∀q∈qZ++vK,¬bs s=bs q.1:=by
  have k:∀q∈gL,dG (bs q.1)=true/\∀p∈qZ++vK,¬bs q.1=bs p.1:=by decide
  exact k _ ho
 exact M8 ((Wy ht hs.1 (Ta ht (.inr hs.1) hs.2 ha) (DN hb hu.p hu.s)).2 o ho) hn hu
theorem Vk (ht:bare t=dC s) (hs:iC (bs s)=true) (hp:∀q∈qZ++vK,¬bs s=bs q.1) (hc:∀q∈Pn,¬bs s=bs q) (hn:is kU T=false) (ha:run f T=.ok a (t::v)):run (lq f N) T=.ok a (t::v):=
 FB hn (Cg (Ta ht (.inl hs) hp ha) fun q hq=>(i_ ht (.inl hs) q).trans (decide_eq_false (hc q hq)))
theorem aeU (ht:bare t=dC zI) (ha:run f T=.ok a (t::v)) (hn:is kU T=false) (hb:run f v=.ok b u) (hm:is kU v=false) (hu:Sp u):run (oO (lq f N)) T=.ok (dZ 18 a b) u:=by
 have I:∀s',is s' (t::v)=decide (bs zI=bs s'):=i_ ht (.inl bR);exact M_ (Kn (q:=(zI,18)) (Vk ht bR bR bR hn ha) (.head _) ((I _).trans (decide_eq_true rfl)) bR (FB hm (Cg (DN hb hu.p hu.s) hu.c)) NV) hu
theorem aeX (ht:bare t=dC zJ) (ha:run f T=.ok a (t::v)) (hn:is kU T=false) (hb:run f v=.ok b u) (hm:is kU v=false) (hu:Sp u):run (oO (lq f N)) T=.ok (dZ 19 a b) u:=by
 have I:∀s',is s' (t::v)=decide (bs zJ=bs s'):=i_ ht (.inl bR);have h1:run (AB (lq f N)) T=.ok a (t::v):=Ev (Vk ht bR bR bR hn ha) (by intro q hq;exact(I _).trans (by revert q;decide));exact Kn (q:=(zJ,19)) h1 (.head _) ((I _).trans (decide_eq_true rfl)) bR (M9 (FB hm (Cg (DN hb hu.p hu.s) hu.c)) hu) NV
end
end Ps
end Go.Proofs.YtkpekhpgdajabaaGreatDoor
