/-
  Parts of this proof: What is read from a text is a valid list of toke. The tokens of a text, as a list that a reader re. The contracts of walk, of the closure of nodes a. The contracts of Nodes and of hasMoreNodes. The contracts of the small functions of the prog. The contract of Names.
-/
import Derived.Test.YthnillhnjhalmaaGreatDoorYTEnd
open Go.Proofs.Tryz
open List renaming length_cons->ae,length_append->af,cons_append->ax
open Go renaming World->ag,Value->ay
open Option renaming none->ah,some->av
open Go.Proofs.Tryz renaming prog->ai
open Nat renaming le_refl->aj,le_trans->ak
open Go.RowKit renaming Below->au
set_option linter.unusedVariables false
set_option maxRecDepth 100000
set_option maxHeartbeats 4000000
open Go.Lib (hid)
namespace Go.Proofs.YthnillhnjhalmaaGreatDoor
namespace Lx
open Nu
structure Df (M:Nat) (a:List Tk) (n:Nat):Prop where
 pos:1<=n
 opn:¬(jT a a.length).k=4->(jT a a.length).l=n/\0<a.length
 shut:(jT a a.length).k=4->(jT a a.length).l<n
 each:∀k,k<a.length->zh (decide (k=0)) (jT a k) (a.getD k ⟨4,mt,0,0⟩) false=0
 size:∀x∈a,x.t.size<=M
theorem QF {a:List Tk} {x:Tk} {k:Nat} (h:k<=a.length):jT (a++[x]) k=jT a k:=by
 unfold jT;by_cases e:k=0
 · rw[if_pos e,if_pos e]
 · rw[if_neg e,if_neg e];simp only[List.getD];rw[List.getElem?_append_left bU]
theorem Dk {a:List Tk} {x:Tk}:jT (a++[x]) (a++[x]).length=x:=by
 rw[af,ae,List.length_nil,LU cz];simp
theorem Sn {a:List Tk} {x:Tk} {k:Nat} (h:k<a.length):(a++[x]).getD k ⟨4,mt,0,0⟩=a.getD k ⟨4,mt,0,0⟩:=by
 simp only[List.getD];rw[List.getElem?_append_left h]
theorem Sl {a:List Tk} {x:Tk}:(a++[x]).getD a.length ⟨4,mt,0,0⟩=x:=by simp[List.getD]
theorem NA {a:List Tk}:opn a=decide (¬(jT a a.length).k=4):=by
 rcases List.eq_nil_or_concat a with rfl|⟨m,x,rfl⟩
 · rfl
 · rw[List.concat_eq_append,Eh,Dk]
theorem ahO {x b:Tk} {first:Bool} (h1:1<=x.k) (h3:x.k<=3) (hf:lV x=true) (hl:uR first b.k b.l x.k x.l=true):zh first b x false=0:=by
 have hp:wN b.k x.k false=true:=by
  unfold wN;rw[if_neg bU,if_neg bU]
 unfold zh;rw[if_neg bU,hf,hl,hp];rfl
theorem amj {M:Nat} {a:List Tk} {n:Nat} {x:Tk} (h:Df M a n) (h1:1<=x.k) (h3:x.k<=3) (hf:lV x=true) (hl:x.l=n) (hs:x.t.size<=M):Df M (a++[x]) n:=by
 refine⟨h.pos,fun _=>?_,fun g=>?_,fun k hk=>?_,fun y hy=>?_⟩
 · rw[Dk];exact⟨hl,by simp⟩
 · rw[Dk] at g;omega
 · rw[af,ae,List.length_nil] at hk;rw[QF bU];rcases Nat.lt_or_ge k a.length with g|g
   · rw[Sn g];exact h.each k g
   · obtain rfl:k=a.length:=by omega
     rw[Sl];refine ahO h1 h3 hf ?_;have hp:=h.pos;unfold uR;by_cases e:a.length=0
     · rw[decide_eq_true e,if_pos rfl,hl];exact decide_eq_true bU
     · rw[decide_eq_false e,if_neg bS];by_cases e4:(jT a a.length).k=4
       · rw[if_neg (by simp[e4]),if_neg bU,hl];exact decide_eq_true (h.shut e4)
       · rw[if_pos e4,hl];exact decide_eq_true (h.opn e4).1.symm
 · rcases List.mem_append.1 hy with hy|hy
   · exact h.size y hy
   · rw[List.mem_singleton] at hy;rw[hy];exact hs
theorem abN {M:Nat} {a:List Tk} {n:Nat} (h:Df M a n):Df M (iD a n) (n+1):=by
 have hp:=h.pos;by_cases e4:(jT a a.length).k=4
 · have e:iD a n=a:=by unfold iD;rw[NA,if_neg (by simp[e4])]
   rw[e];refine⟨by omega,fun g=>absurd e4 g,fun g=>?_,h.each,h.size⟩;have:=h.shut g;omega
 · have e:iD a n=a++[⟨4,mt,0,(n:Int)⟩]:=by unfold iD;rw[NA,if_pos (by simp[e4])]
   rw[e];have h0:=h.opn e4;refine⟨by omega,fun g=>?_,fun g=>?_,fun k hk=>?_,fun y hy=>?_⟩
   · rw[Dk] at g;exact absurd rfl g
   · rw[Dk];show(n:Int)<_;omega
   · rw[af,ae,List.length_nil] at hk;rw[QF bU];rcases Nat.lt_or_ge k a.length with g|g
     · rw[Sn g];exact h.each k g
     · obtain rfl:k=a.length:=by omega
       rw[Sl,decide_eq_false bU];have e1:lV ⟨4,mt,0,(n:Int)⟩=true:=by unfold lV;simp[mt];rfl
       have e2:wN (jT a a.length).k 4 false=true:=by unfold wN;simp[e4]
       have e3:uR false (jT a a.length).k (jT a a.length).l 4 (n:Int)=true:=by
        unfold uR;rw[if_neg bS,if_pos e4];exact decide_eq_true h0.1.symm
       unfold zh;rw[e1,e2,e3,if_neg (show ¬((4:Int)<0∨(4:Int)<4) by decide)];rfl
   · rcases List.mem_append.1 hy with hy|hy
     · exact h.size y hy
     · rw[List.mem_singleton] at hy;rw[hy];show(0:Nat)<=M;omega
theorem ajU {l:List UInt8} {x:Tk} {k:Nat} (h:iN l=av (x,k)):1<=x.k/\x.k<=3/\lV x=true/\x.t.size<=l.length:=by
 unfold iN at h;by_cases h1:dm gq l=0
 · rw[if_pos h1] at h;by_cases h2:dm dY l=0
   · rw[if_pos h2] at h;by_cases h3:2<=l.length/\fZ (l.take 2)=true
     · rw[if_pos h3] at h;cases h;refine⟨by show(1:Int)<=3;decide,by show(3:Int)<=3;decide,?_,?_⟩
       · unfold lV;rw[if_neg (show ¬(3:Int)=1 by decide),if_neg (show ¬(3:Int)=2 by decide),if_pos rfl]
         show(fZ (bs (mkS (l.take 2)))&&_)=true
         rw[rD,h3.2];rfl
       · show(mkS (l.take 2)).size<=_
         rw[← eF,rD,List.length_take];omega
     · rw[if_neg h3] at h;by_cases h4:fZ (l.take 1)=true
       · rw[if_pos h4] at h;cases h;refine⟨by show(1:Int)<=3;decide,by show(3:Int)<=3;decide,?_,?_⟩
         · unfold lV;rw[if_neg (show ¬(3:Int)=1 by decide),if_neg (show ¬(3:Int)=2 by decide),if_pos rfl]
           show(fZ (bs (mkS (l.take 1)))&&_)=true
           rw[rD,h4];rfl
         · show(mkS (l.take 1)).size<=_
           rw[← eF,rD,List.length_take];omega
       · rw[if_neg h4] at h;cases h
   · rw[if_neg h2] at h
     split at h
     · rename_i v hv
       cases h
       have:=Nw.1 hv;refine⟨by show(1:Int)<=2;decide,by show(2:Int)<=3;decide,?_,by show(0:Nat)<=_;omega⟩;unfold lV;rw[if_neg (show ¬(2:Int)=1 by decide),if_pos rfl]
       show(decide ((0:Nat)=0)&&(decide (0<=v)&&decide (v<=1000000000000)))=true
       rw[decide_eq_true this.1,decide_eq_true this.2.1];rfl
     · cases h
 · rw[if_neg h1] at h;cases h
   have hw:dm iU l<=l.length:=qY _ _;refine⟨by show(1:Int)<=1;decide,by show(1:Int)<=3;decide,?_,?_⟩
   · unfold lV;rw[if_pos rfl]
     show(jG (bs (mkS (l.take (dm iU l))))&&_)=true
     rw[rD,Ou.2 ⟨?_,?_⟩]
     · rfl
     · rw[n_];obtain⟨c,t,rfl,hc⟩:=Kc h1;have:=yw (p:=iU) (c:=c) (t:=t) (Oy hc);omega
     · rw[n_,List.length_take];omega
   · show(mkS (l.take (dm iU l))).size<=_
     rw[← eF,rD,List.length_take];omega
theorem atw {p:Prop} (h:p:=by rw[List.length_drop,ae];omega):p:=h
theorem JN {M:Nat}:∀(k:Nat) (l:List UInt8) (a:List Tk) (n:Nat),l.length<=k->l.length<=M->Df M a n->Df M (eG l a n).a (eG l a n).n
 | 0,l,a,n,h,_,ho=>by
  have:l=[]:=List.length_eq_zero_iff.1 bU;subst this;rw[Nj];exact ho
 | k+1,[],a,n,h,_,ho=>by rw[Nj];exact ho
 | k+1,c::t,a,n,h,hM,ho=>by
  have ht:t.length<=k:=by simpa using h
  rw[ae] at hM;rw[D6]
  split
  · exact JN k t a n ht bU ho
  · split
    · rename_i h2
      have h3:=yw (p:=gL) (c:=c) (t:=t) (by rw[h2];exact F8);exact JN k _ a n atw atw ho
    · split
      · exact JN k t _ _ ht bU (abN ho)
      · cases h4:iN (c::t) with
        | none=>exact ho
        | some y=>
         obtain⟨x,m⟩:=y;have h5:=DJ h4;obtain⟨f1,f2,f3,f4⟩:=ajU h4;rw[ae] at h5 f4;exact JN k _ _ n atw atw (amj ho f1 f2 (by unfold su;exact f3) rfl (by show x.t.size<=M;omega))
theorem ami {M:Nat} {R:dx} (h:Df M R.a R.n):kT (fin R)=0/\∀x∈fin R,x.t.size<=M:=by
 have hE:=abN h;unfold fin;obtain⟨b,hb⟩:∃b,iD R.a R.n=b:=⟨_,rfl⟩
 have e4:(jT b b.length).k=4:=by
  rw[← hb];by_cases e:(jT R.a R.a.length).k=4
  · have e2:iD R.a R.n=R.a:=by unfold iD;rw[NA,if_neg (by simp[e])]
    rw[e2];exact e
  · have e2:iD R.a R.n=R.a++[⟨4,mt,0,(R.n:Int)⟩]:=by unfold iD;rw[NA,if_pos (by simp[e])]
    rw[e2,Dk]
 rw[hb] at hE ⊢;have hsh:=hE.shut e4;have hp:=h.pos;refine⟨?_,fun x hx=>?_⟩
 · have hall:zA (Dv (b++[(⟨0,mt,0,(R.n:Int)⟩:Tk)])) (b++[(⟨0,mt,0,(R.n:Int)⟩:Tk)]).length=0:=by
    rw[TM];intro k hk;rw[af,ae,List.length_nil] at hk;unfold Dv;rw[QF bU,af,ae,List.length_nil];rcases Nat.lt_or_ge k b.length with g|g
    · rw[Sn g,decide_eq_false (by omega:¬k+1=b.length+(0+1))];exact hE.each k g
    · obtain rfl:k=b.length:=by omega
      rw[Sl,decide_eq_true (by omega:b.length+1=b.length+(0+1))];have e1:lV ⟨0,mt,0,(R.n:Int)⟩=true:=by unfold lV;simp[mt];rfl
      have e2:wN (jT b b.length).k 0 true=true:=by unfold wN;rw[e4];rfl
      have e3:uR (decide (b.length=0)) (jT b b.length).k (jT b b.length).l 0 (R.n:Int)=true:=by
       unfold uR;by_cases e:b.length=0
       · rw[decide_eq_true e,if_pos rfl];exact decide_eq_true bU
       · rw[decide_eq_false e,if_neg bS,if_neg (by simp[e4]),if_pos rfl];exact decide_eq_true bU
      unfold zh;rw[e1,e2,e3,if_neg (show ¬((0:Int)<0∨(4:Int)<0) by decide)];rfl
   unfold kT;rw[if_pos hall,Dk,if_pos rfl]
 · rcases List.mem_append.1 hx with hx|hx
   · exact hE.size x hx
   · rw[List.mem_singleton] at hx;rw[hx];show(0:Nat)<=M;omega
theorem adm {l:List UInt8} (h:gF l=0):kT (gu l)=0/\∀x∈gu l,x.t.size<=l.length:=by
 have hl:¬20000<l.length:=fun g=>by rw[(Km g).2.2] at h;cases h
 have hb:(eG l [] 1).bad=false:=by
  cases e:(eG l [] 1).bad with
  | false=>rfl
  | true=>rw[(Kk hl e).2.2] at h;cases h
 rw[(Kl hl hb).1];exact ami (JN l.length l [] 1 (aj _) (aj _) ⟨aj _,fun g=>absurd rfl g,fun _=>by show(0:Int)<_;decide,fun k hk=>absurd hk (Nat.not_lt_zero _),fun x hx=>by cases hx⟩)
end Lx
namespace Ps
open Lx (Tk gu gF adm Kl Km Kk kT Dv zh zA TM getD_at jT LU wN uR fin eG iD D8 lV)
theorem Gd.cons {x:Tk} {t:List Tk} (h:Wf x) (hk:¬x.k=0) (hg:Gd t):Gd (x::t):=by
 cases t with
 | nil=>exact hg.elim
 | cons y r=>exact⟨h,hk,hg⟩
theorem Mg {f:Bool} {b x:Tk} {last:Bool} (h:zh f b x last=0):0<=x.k/\x.k<=4/\lV x=true/\wN b.k x.k last=true/\uR f b.k b.l x.k x.l=true:=by
 unfold zh at h
 split at h
 · cases h
 · rename_i h1
   split at h
   · cases h
   · rename_i h2
     split at h
     · cases h
     · rename_i h3
       have h2:(lV x&&wN b.k x.k last)=true:=by cases e:(lV x&&wN b.k x.k last) with|true=>rfl|false=>exact absurd e h2
       rw[Bool.and_eq_true] at h2;have h3:uR f b.k b.l x.k x.l=true:=by cases e:uR f b.k b.l x.k x.l with|true=>rfl|false=>exact absurd e h3
       exact⟨by omega,by omega,h2.1,h2.2,h3⟩
theorem aad {l:List Tk} {m:Int} (hs:∀i,(h:i<l.length)->Wf l[i]) (h0:∀i,(h:i<l.length)->(l[i].k=0↔i+1=l.length)):∀k,k<l.length->Gd (l.drop (l.length-1-k))
 | 0,h=>by
  have hi:l.length-1-0<l.length:=by omega
  rw[List.drop_eq_getElem_cons hi,List.drop_of_length_le bU];exact⟨hs _ hi,(h0 _ hi).2 bU⟩
 | k+1,h=>by
  have hi:l.length-1-(k+1)<l.length:=by omega
  rw[List.drop_eq_getElem_cons hi];refine Gd.cons (hs _ hi) (fun e=>by have:=(h0 _ hi).1 e;omega) ?_;have:=aad (m:=m) hs h0 k bU;rwa [show l.length-1-(k+1)+1=l.length-1-k by omega]
theorem FQ (a:List Tk) (n:Nat):(iD a n).length<=a.length+1:=by
 unfold iD
 split <;> simp
theorem MW {s:List UInt8} (h:gF s=0):Gd (gu s)/\(gu s).length<=30000:=by
 have hl:¬20000<s.length:=fun g=>by rw[(Km g).2.2] at h;cases h
 have hb:(eG s [] 1).bad=false:=by
  cases e:(eG s [] 1).bad with
  | false=>rfl
  | true=>rw[(Kk hl e).2.2] at h;cases h
 obtain⟨hv,hz⟩:=adm h;have hL:=D8 s.length s [] 1 (aj _);have hfin:=(Kl hl hb).1;obtain⟨l,hll⟩:∃l,gu s=l:=⟨_,rfl⟩
 rw[hll] at hv hz hfin ⊢;have hlen:l.length<=20002:=by
  rw[hfin];unfold fin;have:=FQ (eG s [] 1).a (eG s [] 1).n;simp only[af,ae,List.length_nil] at hL ⊢;omega
 have hne:0<l.length:=by rw[hfin];unfold fin;simp
 have hlast:(l[l.length-1]'(by omega)).l=((eG s [] 1).n:Int):=by
  simp only[hfin,fin];simp
 have h1:zA (Dv l) l.length=0:=by
  unfold kT at hv
  split at hv
  · assumption
  · rename_i g;exact absurd hv g
 have hk:∀i,(h:i<l.length)->zh (decide (i=0)) (jT l i) l[i] (decide (i+1=l.length))=0:=fun i hi=>by
  have:=TM.1 h1 i hi;unfold Dv at this;rwa [getD_at hi] at this
 have hl0:(jT l l.length).k=0:=by
  unfold kT at hv;rw[if_pos h1] at hv
  split at hv
  · assumption
  · cases hv
 have hk0:(l[l.length-1]'(by omega)).k=0:=by
  have:=LU (l:=l) (j:=l.length-1) bU;rw[show l.length-1+1=l.length by omega] at this;rw[← this];exact hl0
 have hmono:∀i,(h:i+1<l.length)->l[i].l<=l[i+1].l:=fun i hi=>by
  obtain⟨-,-,-,-,ho⟩:=Mg (hk (i+1) hi);rw[LU bU] at ho;unfold uR at ho;rw[decide_eq_false bU,if_neg bS] at ho
  split at ho
  · rw[decide_eq_true_eq] at ho;omega
  · split at ho <;> (rw[decide_eq_true_eq] at ho;omega)
 have hup:∀j,(h:j<l.length)->(l[l.length-1-j]'(by omega)).l<=((eG s [] 1).n:Int):=by
  intro j
  induction j with
  | zero=>intro h;simp only[Nat.sub_zero];rw[hlast];exact Int.le_refl _
  | succ j ih=>
   intro h;have h2:=ih bU;have h3:=hmono (l.length-1-(j+1)) bU;simp only[show l.length-1-(j+1)+1=l.length-1-j by omega] at h3;omega
 have hlo:∀i,(h:i<l.length)->1<=l[i].l:=by
  intro i
  induction i with
  | zero=>
   intro h;obtain⟨-,-,-,-,ho⟩:=Mg (hk 0 h);unfold uR at ho;rw[decide_eq_true rfl,if_pos rfl,decide_eq_true_eq] at ho;exact ho
  | succ i ih=>intro h;have h2:=ih bU;have h3:=hmono i h;omega
 refine⟨?_,by omega⟩;have hg:=aad (l:=l) (m:=0) (fun i hi=>?_) (fun i hi=>?_) (l.length-1) bU
 · rwa [show l.length-1-(l.length-1)=0 by omega,List.drop_zero] at hg
 · obtain⟨h2,h3,h4,-,-⟩:=Mg (hk i hi);have h5:=hup (l.length-1-i) bU;simp only[show l.length-1-(l.length-1-i)=i by omega] at h5;have h6:=hlo i hi;have h7:=hz l[i] (List.getElem_mem hi);exact⟨h4,h2,h3,by omega,by omega,by omega⟩
 · constructor
   · intro e;obtain⟨-,-,-,hp,-⟩:=Mg (hk i hi);unfold wN at hp;rw[e,if_neg bS,if_pos rfl,Bool.and_eq_true,decide_eq_true_eq,decide_eq_true_eq] at hp;exact hp.2
   · intro e;simp only[show i=l.length-1 by omega];exact hk0
end Ps
namespace Ex
open Go.RowKit Go.Shelf
attribute [local go_sem] Oper.semAt_some
theorem aod {F:Fence} (hd:F.depth=ah) (k:Nat):F.room k:=fun d h=>by rw[hd] at h;cases h
theorem aoh {F:Fence} (hd:F.depth=ah) {m m':Nat} {P:Program} {l:Nat} {f:FuncId} {tmps:Array ay} {assign body:Code} {w:ag} {R:Ending->ag->Prop}
 (h:RoundIn F m P l f tmps assign body w R):RoundIn F m' P l f tmps assign body w R:=⟨h.1,fun c cs _=>h.2 c cs (aod hd _)⟩
theorem Vb {F:Fence} (hd:F.depth=ah) {m:Nat} (m':Nat) {P:Program} {l:Nat} {args:Array ay} {W:ag} {R:Ending->ag->Prop} (h:YieldAt F m P l args W R):YieldAt F m' P l args W R:=by
 obtain⟨fn,tmps,assign,body,hy,hR⟩:=h;exact⟨fn,tmps,assign,body,hy,aoh hd hR⟩
structure Nd where
 x:Ex
 p:Option Addr
 m:Nat
 c:Nat
 hl:x.l.length=m
 hs:x.s.size<=140737488355328
def uI (r:Nd):Array ay:=#[.agg #[.int .i64 r.x.o,.string r.x.s,.int .i64 r.x.n,.slice r.p r.m r.c]]
structure Kp (n₀ T:Nat) (W W':ag):Prop where
 below:au n₀ W W'
 same:∀(k:Nat) (C:Array ay) (fr:Nat×Nat),T<=k->W.heap[k]?=av (.cells C 26 fr)->W'.heap[k]?=av (.cells C 26 fr)
theorem Kp.refl (n₀ T:Nat) (W:ag):Kp n₀ T W W:=⟨Below.refl _ _,fun _ _ _ _ h=>h⟩
theorem Kp.trans {n₀ T:Nat} {A B C:ag} (h:Kp n₀ T A B) (k:Kp n₀ T B C):Kp n₀ T A C:=⟨h.below.trans k.below,fun i c fr hi hc=>k.same i c fr hi (h.same i c fr hi hc)⟩
theorem Kp.of_below {n₀ T:Nat} {W W':ag} (h:au W.heap.size W W') (hn:n₀<=W.heap.size):Kp n₀ T W W':=⟨h.mono hn,fun k c fr _ hc=>(h.block k (Array.getElem?_eq_some_iff.1 hc).1).trans hc⟩
theorem Kp.put {n₀ T:Nat} {w:ag} (hn:n₀<=w.heap.size) (W:ag) (l:Nat) (o o':Obj) (hl:w.heap.size<=l) (h:W.heap[l]?=av o) (h1:o.isCells=false) (h2:o.isWalk=false):Kp n₀ T W (W.putObj l o'):=
 ⟨belowK_b hn W l o o' hl h h1 h2, fun k c fr _ hc => by
   rw[World.putObj_heap_other]
   · exact hc
   · intro e;subst e;rw[h] at hc;cases hc
     cases h1⟩
theorem Kp.set {n₀ T:Nat} {W:ag} {B:Nat} (h0:n₀<=B) (hT:B<T) (v:ay):Kp n₀ T W (W.setCell ⟨B,0,ah⟩ v):=
 ⟨(Below.refl n₀ W).setCell (p:=⟨B,0,ah⟩) h0 v,fun k c fr hk hc=>((grownBy_setCell' W B v).block k (Array.getElem?_eq_some_iff.1 hc).1 (fun e=>by cases e;omega)).trans hc⟩
theorem akd {W W':ag} (hb:au W.heap.size W W'):W.grownBy W' ah:=⟨hb.os,hb.tape,hb.output,hb.size,fun k hk _=>hb.block k hk⟩
theorem Qp {β:Type} {B:Nat} {J:β->ag->Prop} (hJ:AbidesFrom B J) {s:β} {W W':ag} (hs:J s W) (hb:au W.heap.size W W'):J s W':=hJ s W W' ah hs (akd hb) (fun r e=>by cases e)
theorem agw {W:ag} {g:Nat} {o:Int} {s:ByteArray} {n:Int} {p:Option Addr} {m c:Nat} {t:TypeId} {fr:Nat×Nat} (h:W.heap[g]?=av (.cells #[.int .i64 o,.string s,.int .i64 n,.slice p m c] t fr)):dW W g o s n p m c:=by
 refine⟨?_,?_,?_,?_⟩ <;> simp[World.cell?,h]
theorem U6 (F:Fence) (hd:F.depth=ah) (hf:F.fn 121) (hro:F.round=ah) (l n₀ T N:Nat) (J Jx:List Nd->ag->Prop)
 (hJ:∀s W W',J s W->au W.heap.size W W'->J s W')
 (hY : ∀ m ps r W, J ps W → ps.length < N → YieldAt F m ai l (uI r) W fun e W' =>
   (e=.returned (.bool true)/\J (ps++[r]) W'/\Kp n₀ T W W')∨(e=.returned (.bool false)/\Jx (ps++[r]) W')) (e:Ex) :
 ∀(n:Nat) (p:Option Addr) (m c:Nat) (ps:List Nd) (W:ag),bW (Lo n₀) W e p m->Sz e->n₀<=W.heap.size->T<=W.heap.size->J ps W->ps.length+cnt e<=N ->
  CallsIn F n ai 121 #[.agg #[.int .i64 e.o,.string e.s,.int .i64 e.n,.slice p m c],.func (.yield l) #[] #[]] W fun r W'=>
   (r=.returned (.bool true)/\∃ys,ys.map Nd.x=pre e/\J (ps++ys) W'/\au n₀ W W')∨(r=.returned (.bool false)/\∃q,q.map Nd.x <+: pre e/\Jx (ps++q) W'):=by
 induction e using Ex.ind with
 | h o s nn kl ih=>
  intro n p m c ps W ht hsz hn hT hJ0 hN;have hdd:∀k:Nat,(F.depth.isSome=true->1<=k):=fun k h=>by rw[hd] at h;cases h
  rw[Dw] at hN;obtain⟨hl,hm⟩:=ht.len;have HH:=hid ht;have HI:=hid ih;have HL:=hid hl;have jB:=hid hsz;have HJ:=hid hJ;have HN:=hid hN;have H8:=hid hn;have oO:=hid hT;obtain⟨r0,hrx,hre⟩:∃r:Nd,r.x=.mk o s nn kl/\uI r=#[.agg #[.int .i64 o,.string s,.int .i64 nn,.slice p m c]]:=⟨⟨.mk o s nn kl,p,m,c,hl,hsz.self⟩,rfl,rfl⟩
  have WT:=hid hrx;obtain⟨W1,hW1⟩:∃W1,W.alloc (.cells #[.int .i64 o,.string s,.int .i64 nn,.slice p m c] 26)=W1:=⟨_,rfl⟩
  have hb1:au W.heap.size W W1:=by rw[← hW1];exact(Below.refl _ _).alloc (aj _) _
  have hx1:W1.heap[W.heap.size]?=av (.cells #[.int .i64 o,.string s,.int .i64 nn,.slice p m c] 26 (0,0)):=by rw[← hW1];exact World.alloc_heap_new W _
  have hJ1:=hJ _ _ _ hJ0 hb1;have hy:=hY (n-1) ps r0 W1 hJ1 bU;rw[hre] at hy;have hy2:=YieldAt.mono hy (R':=fun e W2=>(e=.returned (.bool true)/\Hid (J (ps++[r0]) W2)/\Hid (au n₀ W W2)/\W2.cell? ⟨W.heap.size,3,ah⟩=av (.slice p m c))∨(e=.returned (.bool false)/\Hid (Jx (ps++[r0]) W2)))
   (fun e W2 h=>h.elim (fun⟨he,hj,hk⟩=>.inl ⟨he,hid hj,hid ((hb1.mono hn).trans hk.below),(agw (hk.same _ _ _ hT hx1)).2.2.2⟩) fun⟨he,hj⟩=>.inr ⟨he,hid hj⟩)
  obtain⟨fn,tmps,assign,body,hy3,hR⟩:=hy2;simp only[Ex.o,Ex.s,Ex.n];clear hy hb1 hx1 hJ1 hJ hJ0 hN hY ih ht hsz hn hT hl hrx hre;refine callsIn_of_wp func121 rfl hf ?_ hro;simp only[ntmps121,List.size_toArray,ae,List.length_nil,Nat.reduceAdd,Nat.reduceSub,Array.replicate_succ,Array.replicate_zero,List.push_toArray,List.append_toArray,List.nil_append,ax];subst hW1
  gi_wp2_with ((try refine⟨hdd _,?_⟩);refine hR.mono ?_;clear hR;rintro e W2 (⟨rfl,HJ2,HB2,c2⟩|⟨rfl,iX⟩))
  · gi_loopw [14] (fun i wr=>∃(k:Nat) (ys:List Nd),k<=m/\i=.int .i64 (k:Nat)/\Hid (ys.map Nd.x=.mk o s nn kl::fA (kl.take k)/\J (ps++ys) wr/\au n₀ W wr)) (fun i _=>m-(intOf i).toNat)
    case atStart=>exact⟨0,[r0],Nat.zero_le _,rfl,hid ⟨by rw[List.take_zero,fA,List.map_cons,WT.out];rfl,HJ2.out,HB2.out⟩⟩
    case round=>
     obtain⟨k,ys,hk,rfl,HS⟩:=hrel;have k0:(0:Int)<=(k:Int):=by omega
     rcases Nat.lt_or_ge k m with h|h
     · have k1:(k:Int)<(m:Int):=by omega
       obtain⟨b,o',rfl,hG,hbs,hcell⟩:=HH.out.kids bU;have hkl:k<kl.length:=by rw[HL.out];omega
       obtain⟨q,j,c',hc4,dP⟩:=hcell.out k hkl;have hmem:kl[k]∈kl:=List.getElem_mem hkl;have hgx:kl[k]?=av kl[k]:=List.getElem?_eq_getElem hkl;obtain⟨x,hx⟩:∃x,kl[k]=x:=⟨_,rfl⟩
       rw[hx] at hc4 dP hmem hgx;obtain⟨e0,e1,e2,e3⟩:=hc4.keep (HS.out.2.2.block b hG);have hbr:b<wr.heap.size:=Nat.lt_of_lt_of_le hbs HS.out.2.2.size;have HX:=hid hgx;have hlen:ys.length=1+(fA (kl.take k)).length:=by
        have:=congrArg List.length HS.out.1;simp only[List.length_map,ae] at this;omega
       rw[TQ] at hlen;have hcap:iM (kl.take k)+cnt x<=iM kl:=by rw[← Rb hgx];exact Yb _ _
       have HC:=hid (fun W' (hb:au wr.heap.size wr W')=>(HI.out x hmem (n-1) q j c' (ps++ys) W' (bW.below (HS.out.2.2.trans (hb.mono (ak H8.out HS.out.2.2.size))) dP) (jB.out.kid hmem)
        (ak H8.out (ak HS.out.2.2.size hb.size)) (ak oO.out (ak HS.out.2.2.size hb.size)) (HJ.out _ _ _ HS.out.2.1 hb) (by rw [af]; have := HN.out; omega)).mono (R' := fun e W3 =>
          (e=.returned (.bool true)/\Hid (∃zs:List Nd,(ys++zs).map Nd.x=.mk o s nn kl::fA (kl.take (k+1))/\J (ps++(ys++zs)) W3/\au n₀ W W3))∨(e=.returned (.bool false)/\Hid (∃z:List Nd,z.map Nd.x <+: pre (.mk o s nn kl)/\Jx (ps++z) W3)))
        (fun e W3 h => h.elim (fun ⟨he, zs, hz, hj, hbz⟩ => .inl ⟨he, hid ⟨zs, by rw [List.map_append, HS.out.1, hz, TR hgx]; rfl, by rwa [List.append_assoc] at hj, (HS.out.2.2.trans (hb.mono (ak H8.out HS.out.2.2.size))).trans hbz⟩⟩)
          (fun ⟨he, z, hz, hj⟩ => .inr ⟨he, hid ⟨ys ++ z, by
            rw[List.map_append,HS.out.1,NJ];obtain⟨r,hr⟩:=hz;have h1:fA kl=fA (kl.take k)++(pre x++fA (kl.drop (k+1))):=by
             have h2:=NI (kl.take (k+1)) (kl.drop (k+1));rw[List.take_append_drop,TR hgx,List.append_assoc] at h2;exact h2
            refine⟨r++fA (kl.drop (k+1)),?_⟩;rw[h1,← hr];simp only[ax,List.append_assoc],by rwa [List.append_assoc] at hj⟩⟩)))
       clear hcell hc4 dP hx hmem hgx hkl hlen hcap HI HJ jB
       gi_wp2_with ((try refine⟨hdd _,?_⟩);gi_at_call 121;refine(HC.out _ bl).mono ?_;clear HC;rintro e W3 (⟨rfl,HZ⟩|⟨rfl,HZ⟩))
       · go_roundw
         case rel=>
          obtain⟨zs,h1,h2,h3⟩:=HZ.out;exact⟨k+1,ys++zs,by omega,by go_num,hid ⟨h1,h2,h3⟩⟩
         case measure=>simp[intOf];omega
       · go_ret;exact .inr ⟨rfl,HZ.out⟩
     · obtain rfl:m=k:=by omega
       have HT:Hid (kl.take m=kl):=hid (List.take_of_length_le t_);rw[HT.out] at HS
       gi_wp2
       go_ret;exact .inl ⟨rfl,ys,by rw[NJ];exact HS.out.1,HS.out.2⟩
  · go_ret;exact .inr ⟨rfl,[r0],by rw[List.map_cons,WT.out,NJ];exact⟨fA kl,rfl⟩,iX.out⟩
theorem Tg (F:Fence) (hd:F.depth=ah) (hf:F.fn 121) (hg:F.fn 120) (hro:F.round=ah) (n l B n₀ T:Nat) (J Jx:List Nd->ag->Prop) (e:Ex)
 (hJ:∀s W W',J s W->au W.heap.size W W'->J s W')
 (hY : ∀ ps r W, J ps W → ps.length < cnt e → YieldAt F (n - 1) ai l (uI r) W fun e W' =>
   (e=.returned (.bool true)/\J (ps++[r]) W'/\Kp n₀ T W W')∨(e=.returned (.bool false)/\Jx (ps++[r]) W'))
 (p:Option Addr) (m c:Nat) (W:ag) (hx:dW W B e.o e.s e.n p m c) (hk:bW (Lo n₀) W e p m) (hs:Sz e) (hn:n₀<=W.heap.size) (hT:T<=W.heap.size) (h0:J [] W) :
 CallsIn F n ai 120 #[.func (.yield l) #[] #[],.pointer (av ⟨B,0,ah⟩)] W fun e' W'=>(∃v,e'=.returned v) /\
  ((∃ys,ys.map Nd.x=pre e/\J ys W')∨(∃q,q.map Nd.x <+: pre e/\Jx q W')):=by
 have hdd:∀k:Nat,(F.depth.isSome=true->1<=k):=fun k h=>by rw[hd] at h;cases h
 have hp:=U6 F hd hf hro l n₀ T (cnt e) J Jx hJ (fun m ps r W hj hl=>Vb hd m (hY ps r W hj hl)) e (n-1) p m c [] W hk hs hn hT h0 cz;obtain⟨b0,b1,b2,b3⟩:=hx;clear hY hk hs hn hT h0 hJ;refine callsIn_of_wp func120 rfl hg ?_ hro;simp only[ntmps120,List.size_toArray,ae,List.length_nil,Nat.reduceAdd,Nat.reduceSub,Array.replicate_succ,Array.replicate_zero,List.push_toArray,List.append_toArray,List.nil_append,ax]
 gi_wp2_with ((try refine⟨hdd _,?_⟩);gi_at_call 121;refine hp.mono ?_;clear hp;rintro e W1 (⟨rfl,ys,h1,h2,-⟩|⟨rfl,q,h1,h2⟩))
 · go_end0
   exact⟨⟨_,rfl⟩,.inl ⟨ys,h1,by simpa using h2⟩⟩
 · go_end0
   exact⟨⟨_,rfl⟩,.inr ⟨q,h1,by simpa using h2⟩⟩
theorem abH (F:Fence) (n:Nat) (hf:F.fn 70) (hro:F.round=ah) (o:Int) (s:ByteArray) (nn:Int) (p:Option Addr) (m c:Nat) (w:ag) :
 CallsIn F n ai 70 #[.agg #[.int .i64 o,.string s,.int .i64 nn,.slice p m c]] w fun e w'=>e=.returned (.func (.func 120) #[] #[.pointer (av ⟨w.heap.size,0,ah⟩)])/\w'=w.alloc (.cells #[.int .i64 o,.string s,.int .i64 nn,.slice p m c] 26):=by
 refine callsIn_of_wp func70 rfl hf ?_ hro;simp only[ntmps70,List.size_toArray,ae,List.length_nil,Nat.reduceAdd,Nat.reduceSub,Array.replicate_succ,Array.replicate_zero,List.push_toArray,List.append_toArray,List.nil_append,ax]
 gi_wp2
 go_ret;exact⟨rfl,rfl⟩
theorem abI (F:Fence) (hd:F.depth=ah) (hf:F.fn 121) (hg:F.fn 120) (hro:F.round=ah) (n B n₀ T:Nat) (e:Ex) (p:Option Addr) (m c:Nat) (w:ag) (hx:dW w B e.o e.s e.n p m c) (hk:bW (Lo n₀) w e p m) (hs:Sz e) (hn:n₀<=w.heap.size) (hT:T<=w.heap.size) :
 SeqStopsK F n ai 120 #[.pointer (av ⟨B,0,ah⟩)] uI (Kp n₀ T) (fun ys=>ys.map Nd.x=pre e) (fun q=>q.map Nd.x <+: pre e) (cnt e) w:=fun l J Jx W hW hJ _ hY h0=>
 Tg F hd hf hg hro n l B n₀ T J Jx e (fun s W W' h hb=>Qp hJ h hb) hY p m c W (hx.on hW) (hk.below (hW.mono hn)) hs (ak hn hW.size) (ak hT hW.size) h0
end Ex
namespace Ex
open Go.RowKit Go.Shelf
attribute [local go_sem] Oper.semAt_some
theorem aho {W:ag} {B:Nat} {v:ay} {t:TypeId} (h:W.heap[B]?=av (.cells #[v] t (0,0))):W.cell? ⟨B,0,ah⟩=av v/\W.frozen? ⟨B,0,ah⟩=false:=by
 constructor <;> simp[World.cell?,World.frozen?,h]
theorem uq (W:ag) (v:ay) (t:TypeId):(W.alloc (.cells #[v] t)).cell? ⟨W.heap.size,0,ah⟩=av v/\(W.alloc (.cells #[v] t)).frozen? ⟨W.heap.size,0,ah⟩=false:=
 aho (World.alloc_heap_new W _)
theorem Me {W:ag} {a:Addr} {v:ay} (o:Obj) (h:W.cell? a=av v):(W.alloc o).cell? a=av v:=cell_kept h (World.grownBy_alloc W o ah) (fun r e=>by cases e)
theorem Si {W:ag} {a:Addr} {v:ay} (o:Obj) (h:W.cell? a=av v) (hf:W.frozen? a=false):(W.alloc o).frozen? a=false:=(frozen_kept h (World.grownBy_alloc W o ah) (fun r e=>by cases e)).trans hf
theorem EA {W:ag} {a B:Nat} {v:ay} (h:W.cell? ⟨a,0,ah⟩=av v) (hne:a≠B) (u:ay):(W.setCell ⟨B,0,ah⟩ u).cell? ⟨a,0,ah⟩=av v:=
 (World.cell?_of_block (a:=⟨a,0,ah⟩) ((grownBy_setCell' W B u).block a (block_lt h) (fun e=>hne (by cases e;rfl)))).trans h
theorem pq {n₀ g k:Nat} {a W:ag} (h:au n₀ a W) (hg:n₀<=g) (v:ay):au n₀ a (W.setCell ⟨g,k,ah⟩ v):=h.setCell (p:=⟨g,k,ah⟩) hg v
theorem TE {ys:List Nd} {e:Ex} (h:ys.map Nd.x=pre e):ys.length=cnt e:=by
 have:=congrArg List.length h;rwa [List.length_map,TS] at this
theorem TT {q:List Nd} {e:Ex} (h:q.map Nd.x <+: pre e):q.length<=cnt e:=by
 have:=h.length_le;rwa [List.length_map,TS] at this
theorem asW {p:Prop} (h:p:=by omega):p:=h
theorem as8 {p:Prop} (h:p:=by simp;omega):p:=h
theorem TG (e:Ex) (p:Option Addr) (m c:Nat) (w:ag) (h:In w e p m) (hs:Sz e) (hc:cnt e<=1000000):Calls ai 68 #[.agg #[.int .i64 e.o,.string e.s,.int .i64 e.n,.slice p m c],.int .i64 60] w (Gives (.bool (decide (60<cnt e))) w):=by
 obtain⟨o,s,nn,kl⟩:=e;simp only[Ex.o,Ex.s,Ex.n];have HH:=hid h;have HS:=hid hs;have HC:=hid hc;clear h hs hc;refine(callsIn_wide (n:=3)).1 ?_;refine callsIn_of_wp_marks func68 rfl trivial ?_ rfl;simp only[ntmps68,List.size_toArray,ae,List.length_nil,Nat.reduceAdd,Nat.reduceSub,Array.replicate_succ,Array.replicate_zero,List.push_toArray,List.append_toArray,List.nil_append,ax]
 gi_wp2_with (refine⟨trivial,?_⟩;gi_at_call 70;refine(abH Fence.wide _ trivial rfl _ _ _ _ _ _ _).mono ?_;rintro e w' ⟨rfl,rfl⟩)
 obtain⟨w1,hw1⟩:∃w1,w.alloc (.cells #[.int .i64 o,.string s,.int .i64 nn,.slice p m c] 26)=w1:=⟨_,rfl⟩
 have hz1:w1.heap.size=w.heap.size+1:=by rw[← hw1];simp
 have hb1:au w.heap.size w w1:=by rw[← hw1];exact bl
 obtain⟨w2,hw2⟩:∃w2,w1.alloc (.cells #[.int .i64 60] 3)=w2:=⟨_,rfl⟩
 have hz2:w2.heap.size=w.heap.size+2:=by rw[← hw2];simp[hz1]
 have hb2:au w1.heap.size w1 w2:=by rw[← hw2];exact bl
 have h2:=uq w1 (.int .i64 60) 3;rw[hw2] at h2;obtain⟨w3,hw3⟩:∃w3,w2.alloc (.cells #[.bool false] 4)=w3:=⟨_,rfl⟩
 have hz3:w3.heap.size=w.heap.size+3:=by rw[← hw3];simp[hz2]
 have hb3:au w2.heap.size w2 w3:=by rw[← hw3];exact bl
 have h3:=uq w2 (.bool false) 4;rw[hw3] at h3;obtain⟨w4,hw4⟩:∃w4,w3.alloc (.cells #[.int .i64 0] 3)=w4:=⟨_,rfl⟩
 have jh:w4.heap.size=w.heap.size+4:=by rw[← hw4];simp[hz3]
 have hb4:au w3.heap.size w3 w4:=by rw[← hw4];exact bl
 have h4:=uq w3 (.int .i64 0) 3;rw[hw4] at h4;obtain⟨w5,wI⟩:∃w5,w4.alloc (.cells #[.int .i64 o,.string s,.int .i64 nn,.slice p m c] 26)=w5:=⟨_,rfl⟩
 have F6:w5.heap.size=w.heap.size+5:=by rw[← wI];simp[jh]
 have hb5:au w4.heap.size w4 w5:=by rw[← wI];exact bl
 have h5:=gK (w:=w4) (o:=o) (s:=s) (n:=nn) (p:=p) (m:=m) (c:=c) (t:=26);rw[wI] at h5;have g2:w5.cell? ⟨w1.heap.size,0,ah⟩=av (.int .i64 60):=(hb5.cell as8).trans ((hb4.cell as8).trans ((hb3.cell as8).trans h2.1));have g3:w5.cell? ⟨w2.heap.size,0,ah⟩=av (.bool false):=(hb5.cell as8).trans ((hb4.cell as8).trans h3.1);have I5:w5.frozen? ⟨w2.heap.size,0,ah⟩=false:=(hb5.frozen as8).trans ((hb4.frozen as8).trans h3.2);have g4:w5.cell? ⟨w3.heap.size,0,ah⟩=av (.int .i64 0):=(hb5.cell as8).trans h4.1;have I6:w5.frozen? ⟨w3.heap.size,0,ah⟩=false:=(hb5.frozen as8).trans h4.2;have hb:au w.heap.size w w5:=hb1.trans ((hb2.mono asW).trans ((hb3.mono asW).trans ((hb4.mono asW).trans (hb5.mono asW))));rw[hz1] at g2;rw[hz2] at g3 I5;rw[hz3] at g4 I6;rw[jh] at h5;rw[hw1,hw2,hw3,hw4,wI];clear hw1 hw2 hw3 hw4 wI hb1 hb2 hb3 hb4 hb5 h2 h3 h4 hz1 hz2 hz3 jh;refine wpIn_rangeFunc_ownG rfl asW (gf:=120) (lb:=#[.pointer (av ⟨w.heap.size+1+1+1+1,0,ah⟩)]) rfl trivial (enters_of func120 dA rfl)
  (abI Fence.wide rfl trivial trivial rfl _ (w.heap.size+1+1+1+1) w.heap.size w5.heap.size (.mk o s nn kl) p m c w5 h5 (HH.out.below hb) HS.out asW (aj _)) (fun h k=>h.trans k) (Kp.put asW) (Below.refl _ _) (fun _=>rfl)
  (fun ps W=>((W.cell? ⟨w.heap.size+1+1+1,0,ah⟩=av (.int .i64 (ps.length:Nat))/\W.frozen? ⟨w.heap.size+1+1+1,0,ah⟩=false)/\W.cell? ⟨w.heap.size+1,0,ah⟩=av (.int .i64 60)/\W.cell? ⟨w.heap.size+1+1,0,ah⟩=av (.bool false)/\W.frozen? ⟨w.heap.size+1+1,0,ah⟩=false/\ps.length<=60)/\au w.heap.size w W)
  (fun c ps W=>(c=.ret/\60<ps.length/\W.cell? ⟨w.heap.size+1+1,0,ah⟩=av (.bool true))/\au w.heap.size w W)
  (OwnFrom.and (Own.from (fun s A B row hs hg hr=>⟨⟨cell_kept hs.1.1 hg hr,(frozen_kept hs.1.1 hg hr).trans hs.1.2⟩,cell_kept hs.2.1 hg hr,cell_kept hs.2.2.1 hg hr,(frozen_kept hs.2.2.1 hg hr).trans hs.2.2.2.1,hs.2.2.2.2⟩) _) (ownFrom_below (aj _) asW))
  (fun c=>OwnFrom.and (Own.from (fun s A B row hs hg hr=>⟨hs.1,hs.2.1,cell_kept hs.2.2 hg hr⟩) _) (ownFrom_below (aj _) asW))
  ⟨⟨⟨g4,I6⟩,g2,g3,I5,by simp⟩,hb⟩
  (fun x=>{ tmps:=#[.agg #[.int .i64 o,.string s,.int .i64 nn,.slice p m c],.int .i64 60,.pointer (av ⟨w.heap.size,0,ah⟩),.pointer (av ⟨w.heap.size+1,0,ah⟩),.pointer (av ⟨w.heap.size+1+1,0,ah⟩),.pointer (av ⟨w.heap.size+1+1+1,0,ah⟩),.agg #[.int .i64 o,.string s,.int .i64 nn,.slice p m c],.func (.func 120) #[] #[.pointer (av ⟨w.heap.size+1+1+1+1,0,ah⟩)],.agg #[.int .i64 x.x.o,.string x.x.s,.int .i64 x.x.n,.slice x.p x.m x.c],undef,undef,undef,undef,undef],defers:=[] }) ?assign ?body ?done ?stop
 case assign=>
  intro l x W K hK;simp only[uI]
  gi_wp2
  simp[go_sem]
  exact hK
 case body=>
  rintro l ps x W ⟨⟨⟨hc,hf⟩,I7,hr,hrf,hle⟩,hB⟩ hlt;have hlt2:(ps.length:Int)<=60:=by omega
  by_cases h6:ps.length=60
  · have e6:(ps.length:Int)=60:=by omega
    rw[e6] at hc;clear hlt2 e6
    gi_wp2
    refine⟨((KeepsOthers.setCell _ _ _).trans (KeepsOthers.setCell _ _ _)).from _,⟨rfl,by rw[af,h6];simp,?_⟩,pq (pq hB asW _) asW _⟩;exact World.cell?_setCell_same' _ _ _ (by rw[EA hr asW];rfl)
  · have l6:(ps.length:Int)+1<=60:=by omega
    gi_wp2
    refine⟨(KeepsOthers.setCell _ _ _).from _,Kp.set asW asW _,⟨⟨?_,by rw[World.frozen?_setCell];exact hf⟩,?_,?_,by rw[World.frozen?_setCell];exact hrf,by rw[af];simp;omega⟩,pq hB asW _⟩
    · rw[World.cell?_setCell_same' _ _ _ (by rw[hc];rfl),af]
      congr 2
    · exact EA I7 asW _
    · exact EA hr asW _
 case done=>
  rintro D ys W hD hys ⟨⟨⟨hc,hf⟩,I7,hr,hrf,hle⟩,hB⟩ hK;have hl:=TE hys;have hv:decide (60<cnt (.mk o s nn kl))=false:=decide_eq_false asW;have HV:=hid hv
  gi_wp2
  have hK':=(KeepsOthers.setCell W ⟨w.heap.size+1+1,0,ah⟩ (.bool false)).same D _ hK rfl;refine⟨by simp,.inl ⟨_,_,rfl,run_takeDeferred hK',?_⟩⟩;have rP:=cell_kept (World.cell?_setCell_same' W ⟨w.heap.size+1+1,0,ah⟩ (.bool false) (by rw[hr];rfl)) (grownBy_putObj' _ D (.deferred ah)) (fun r e=>by cases e;exact⟨_,hK',rfl⟩);refine⟨.bool false,?_,by rw[HV.out],(pq hB asW _).trans (belowK_b (w:=w) (aj _) _ D _ _ asW hK' rfl rfl)⟩;simp[results,Tryz.f68,go_sem,rP]
 case stop=>
  rintro D c ps W hD hps ⟨⟨rfl,h6,hr⟩,hB⟩ hK;have hl:=TT hps;have hv:decide (60<cnt (.mk o s nn kl))=true:=decide_eq_true asW;have HV:=hid hv
  gi_wp2
  refine⟨by simp,.inl ⟨_,_,rfl,run_takeDeferred hK,?_⟩⟩;have rP:=cell_kept hr (grownBy_putObj' _ D (.deferred ah)) (fun r e=>by cases e;exact⟨_,hK,rfl⟩);refine⟨.bool true,?_,by rw[HV.out],hB.trans (belowK_b (w:=w) (aj _) W D _ _ asW hK rfl rfl)⟩;simp[results,Tryz.f68,go_sem,rP]
end Ex
namespace Ex
open Go.RowKit
set_option linter.unusedSimpArgs false
theorem asX {p:Prop} (h:p:=by
 exact CQ
 ):p:=h
theorem atc {p:Prop} (h:p:=by
 go_enter func128,ntmps128;exact asX
 ):p:=h
theorem age (o:Int) (w:ag):Calls ai 128 #[.int .i64 o] w fun e w'=>e=.returned (.int .i64 (gT o))/\w'=w:=by
 unfold gT;by_cases h1:o<1∨26<o
 · rw[if_pos h1];by_cases g:o<1
   · clear h1;exact atc
   · have g1:26<o:=by omega
     have g2:1<=o:=by omega
     clear h1 g;exact atc
 · rw[if_neg h1];have a1:1<=o:=by omega
   have a2:o<=26:=by omega
   clear h1;by_cases h2:5<=o/\o<=8
   · rw[if_pos h2];obtain⟨g1,g2⟩:=h2;exact atc
   · rw[if_neg h2];by_cases h3:9<=o/\o<=21
     · rw[if_pos h3];obtain⟨g1,g2⟩:=h3;have g3:8<o:=by omega
       have g4:5<=o:=by omega
       clear h2;exact atc
     · rw[if_neg h3];by_cases h4:o<5
       · have g1:o<9:=by omega
         clear h2 h3;exact atc
       · have g1:5<=o:=by omega
         have g2:8<o:=by omega
         have g3:9<=o:=by omega
         have g4:21<o:=by omega
         clear h2 h3 h4;exact atc
theorem amh (o:Int) (w:ag):Calls ai 129 #[.int .i64 o] w fun e w'=>e=.returned (.bool (obj o))/\w'=w:=by
 unfold obj;by_cases h1:22<=o
 · by_cases h2:o<=24
   · rw[decide_eq_true h1,decide_eq_true h2];go_enter func129,ntmps129;exact asX
   · rw[decide_eq_true h1,decide_eq_false h2];have h3:24<o:=by omega
     go_enter func129,ntmps129;exact asX
 · rw[decide_eq_false h1,Bool.false_and];have h3:o<22:=by omega
   go_enter func129,ntmps129;exact asX
theorem alL (o:Int) (w:ag):Calls ai 131 #[.int .i64 o] w fun e w'=>e=.returned (.int .i64 (most o))/\w'=w:=by
 unfold most;by_cases h1:o=25
 · subst h1;go_enter func131,ntmps131;exact asX
 · rw[if_neg h1];have t1:(o==25)=false:=beq_eq_false_iff_ne.2 h1;by_cases h2:o=26
   · subst h2;go_enter func131,ntmps131;exact asX
   · rw[if_neg h2];have t2:(o==26)=false:=beq_eq_false_iff_ne.2 h2;clear h1 h2;go_enter func131,ntmps131;exact asX
theorem anK (n:Int) (w:ag):Calls ai 130 #[.int .i64 n] w fun e w'=>e=.returned (.bool (AA n))/\w'=w:=by
 unfold AA;by_cases h1:-1000000000000<=n
 · by_cases h2:n<=1000000000000
   · rw[decide_eq_true h1,decide_eq_true h2];go_enter func130,ntmps130;exact asX
   · rw[decide_eq_true h1,decide_eq_false h2];have h3:1000000000000<n:=by omega
     go_enter func130,ntmps130;exact asX
 · rw[decide_eq_false h1,Bool.false_and];have h3:n < -1000000000000:=by omega
   go_enter func130,ntmps130;exact asX
theorem DU (n:Int) (w:ag):Calls ai 138 #[.int .i64 n] w fun e w'=>e=.returned (.bool (AA n))/\w'=w:=by
 unfold AA;by_cases h1:-1000000000000<=n
 · by_cases h2:n<=1000000000000
   · rw[decide_eq_true h1,decide_eq_true h2];go_enter func138,ntmps138;exact asX
   · rw[decide_eq_true h1,decide_eq_false h2];have h3:1000000000000<n:=by omega
     go_enter func138,ntmps138;exact asX
 · rw[decide_eq_false h1,Bool.false_and];have h3:n < -1000000000000:=by omega
   go_enter func138,ntmps138;exact asX
def idx (n z:Int):Bool:=decide (0<=n)&&decide (n<z)
theorem F7 (n z:Int) (w:ag):Calls ai 177 #[.int .i64 n,.int .i64 z] w fun e w'=>e=.returned (.bool (idx n z))/\w'=w:=by
 unfold idx;by_cases h1:0<=n
 · by_cases h2:n<z
   · rw[decide_eq_true h1,decide_eq_true h2];go_enter func177,ntmps177;exact asX
   · rw[decide_eq_true h1,decide_eq_false h2];have h3:z<=n:=by omega
     go_enter func177,ntmps177;exact asX
 · rw[decide_eq_false h1,Bool.false_and];have h3:n<0:=by omega
   go_enter func177,ntmps177;exact asX
def zR (o:Int):Int:=if 5<=o/\o<=8 then 1 else if 9<=o/\o<=21 then 2 else 0
theorem ZV (o:Int):(o=1∨o=2∨o=3∨o=4∨o=5∨o=6∨o=7∨o=8∨o=9∨o=10∨o=11∨o=12∨o=13∨o=14∨o=15∨o=16∨o=17∨o=18∨o=19∨o=20∨o=21∨o=22∨o=23∨o=24∨o=25∨o=26)∨(o<1∨26<o):=by omega
def wV (c:Bool) (o:Int):Bool:=decide (o=3) || !c&&obj o
def zQ (c:Bool) (o:Int):Bool:=decide (o=1)||decide (o=2)||c&&obj o||decide (o=25)||decide (o=26)
def yM (c:Bool) (o:Int):ay:=.tuple #[.agg #[.int .i64 (zR o),.bool (wV c o),.bool (zQ c o)],.bool (known c o)]
theorem asU {p:Prop} (h:p:=by omega):p:=h
theorem UY (c:Bool) (o:Int) (w:ag):Calls ai 122 #[.int .i64 o,.bool c] w (Gives (yM c o) w):=by
 rcases ZV o with h|h
 · rcases h with rfl|rfl|rfl|rfl|rfl|rfl|rfl|rfl|rfl|rfl|rfl|rfl|rfl|rfl|rfl|rfl|rfl|rfl|rfl|rfl|rfl|rfl|rfl|rfl|rfl|rfl
   all_goals
    cases c <;>
    · go_enter func122,ntmps122;go_wp2_with fail;exact bodyPost_ret (v:=yM _ _) (by simp[results,results122,go_sem,yM,zR,wV,zQ,known,gT,obj]) rfl ⟨rfl,bl⟩
 · have hk:known c o=false:=by unfold known gT;rw[if_pos h];rfl
   have hn:wV c o=false:=by unfold wV obj;rw[decide_eq_false (by omega:¬o=3)];rcases h with h|h <;> simp <;> omega
   have hc:zQ c o=false:=by unfold zQ obj;rcases h with h|h <;> simp <;> omega
   have hu:zR o=0:=by unfold zR;rw[if_neg asU,if_neg asU]
   have HV:Hid (yM c o=.tuple #[.agg #[.int .i64 0,.bool false,.bool false],.bool false]):=hid (by unfold yM;rw[hk,hn,hc,hu]);have t1:(o==1)=false:=beq_eq_false_iff_ne.2 asU;have t2:(o==2)=false:=beq_eq_false_iff_ne.2 asU;have t3:(o==3)=false:=beq_eq_false_iff_ne.2 asU;have t4:(o==4)=false:=beq_eq_false_iff_ne.2 asU;have t5:(o==5)=false:=beq_eq_false_iff_ne.2 asU;have t6:(o==6)=false:=beq_eq_false_iff_ne.2 asU;have t7:(o==7)=false:=beq_eq_false_iff_ne.2 asU;have t8:(o==8)=false:=beq_eq_false_iff_ne.2 asU;have t9:(o==9)=false:=beq_eq_false_iff_ne.2 asU;have t10:(o==10)=false:=beq_eq_false_iff_ne.2 asU;have t11:(o==11)=false:=beq_eq_false_iff_ne.2 asU;have t12:(o==12)=false:=beq_eq_false_iff_ne.2 asU;have t13:(o==13)=false:=beq_eq_false_iff_ne.2 asU;have t14:(o==14)=false:=beq_eq_false_iff_ne.2 asU;have t15:(o==15)=false:=beq_eq_false_iff_ne.2 asU;have t16:(o==16)=false:=beq_eq_false_iff_ne.2 asU;have t17:(o==17)=false:=beq_eq_false_iff_ne.2 asU;have t18:(o==18)=false:=beq_eq_false_iff_ne.2 asU;have t19:(o==19)=false:=beq_eq_false_iff_ne.2 asU;have t20:(o==20)=false:=beq_eq_false_iff_ne.2 asU;have t21:(o==21)=false:=beq_eq_false_iff_ne.2 asU;have t22:(o==22)=false:=beq_eq_false_iff_ne.2 asU;have t23:(o==23)=false:=beq_eq_false_iff_ne.2 asU;have t24:(o==24)=false:=beq_eq_false_iff_ne.2 asU;have t25:(o==25)=false:=beq_eq_false_iff_ne.2 asU;have t26:(o==26)=false:=beq_eq_false_iff_ne.2 asU;clear hk hn hc hu h;rw[HV.out];go_enter func122,ntmps122;go_wp2_with fail;exact bodyPost_ret (v:=.tuple #[.agg #[.int .i64 0,.bool false,.bool false],.bool false]) (by simp[results,results122,go_sem]) rfl ⟨rfl,bl⟩
def AZ (o n:Int):Bool:=if o=1 then AA n else if o=2 then idx n 2 else if obj o then idx n 64 else if o=25 then idx n 16 else if o=26 then idx n 32 else true
theorem anJ {o n:Int} (h1:¬o=1) (h2:¬o=2) (h3:¬o=22) (h4:¬o=23) (h5:¬o=24) (h6:¬o=25) (h7:¬o=26):AZ o n=true:=by
 unfold AZ;rw[if_neg h1,if_neg h2,if_neg (by unfold obj;simp;omega),if_neg h6,if_neg h7]
theorem atl {p:Prop} (h:p:=by
 rintro e w1 ⟨rfl,rfl⟩;exact dS
 ):p:=h
theorem atM {p:Prop} (h:p:=by
 go_enter func123,ntmps123;go_wp2_with fail;refine(F7 n 64 _).mono ?_;exact atl
 ):p:=h
theorem anh (o:Int) (s:ByteArray) (n:Int) (p:Option Addr) (m c:Nat) (w:ag):Calls ai 123 #[.agg #[.int .i64 o,.string s,.int .i64 n,.slice p m c]] w (Gives (.bool (AZ o n)) w):=by
 by_cases h1:o=1
 · subst h1;go_enter func123,ntmps123;go_wp2_with fail;refine(DU n _).mono ?_;exact atl
 by_cases h2:o=2
 · subst h2;go_enter func123,ntmps123;go_wp2_with fail;refine(F7 n 2 _).mono ?_;exact atl
 by_cases h3:o=22
 · subst h3;exact atM
 by_cases h4:o=23
 · subst h4;exact atM
 by_cases h5:o=24
 · subst h5;exact atM
 by_cases h6:o=25
 · subst h6;go_enter func123,ntmps123;go_wp2_with fail;refine(F7 n 16 _).mono ?_;exact atl
 by_cases h7:o=26
 · subst h7;go_enter func123,ntmps123;go_wp2_with fail;refine(F7 n 32 _).mono ?_;exact atl
 rw[anJ h1 h2 h3 h4 h5 h6 h7];have t1:(o==1)=false:=beq_eq_false_iff_ne.2 h1;have t2:(o==2)=false:=beq_eq_false_iff_ne.2 h2;have t3:(o==22)=false:=beq_eq_false_iff_ne.2 h3;have t4:(o==23)=false:=beq_eq_false_iff_ne.2 h4;have t5:(o==24)=false:=beq_eq_false_iff_ne.2 h5;have t6:(o==25)=false:=beq_eq_false_iff_ne.2 h6;have t7:(o==26)=false:=beq_eq_false_iff_ne.2 h7;clear h1 h2 h3 h4 h5 h6 h7;go_enter func123,ntmps123;exact dS
theorem abp {c:Bool} {o:Int} (h:known c o=true):gT o=zR o:=by
 unfold known at h;unfold gT at h ⊢;unfold zR;by_cases g:o<1∨26<o
 · rw[if_pos g] at h;cases h
 · rw[if_neg g]
theorem UX {c:Bool} {o:Int} (h:known c o=true):wV c o=named c o:=by
 unfold known at h;unfold wV named;cases c
 · simp
 · by_cases g:o=3
   · subst g;revert h;decide
   · simp[g]
theorem adq {c:Bool} {o:Int} (h:known c o=true):zQ c o=numbered c o:=by
 unfold known at h;unfold zQ numbered counted;cases c
 · have h2:o<=24:=by
    simp at h
    exact h.2
   have g1:¬o=25:=by omega
   have g2:¬o=26:=by omega
   simp[g1,g2]
 · simp[Bool.or_assoc]
theorem anI {c:Bool} {o n:Int} {s:List UInt8} {m:Nat} (h:rA c o s n m=false):AZ o n = !fG c o n:=by
 unfold rA at h;simp only[Bool.or_eq_false_iff] at h;obtain⟨⟨⟨hk,-⟩,hn⟩,-⟩:=h;have hk:known c o=true:=by simpa using hk
 rcases ZV o with h|h
 · rcases h with rfl|rfl|rfl|rfl|rfl|rfl|rfl|rfl|rfl|rfl|rfl|rfl|rfl|rfl|rfl|rfl|rfl|rfl|rfl|rfl|rfl|rfl|rfl|rfl|rfl|rfl
   all_goals cases c
   all_goals
    simp[known,gT,numbered,counted,obj,AZ,fG,idx,most] at hk hn ⊢
   all_goals first|done|(subst hn;decide)|(by_cases a1:0<=n <;> by_cases a2:n<2 <;> simp[a1,a2] <;> omega)|(by_cases a1:0<=n <;> by_cases a2:n<64 <;> simp[a1,a2] <;> omega)|(by_cases a1:0<=n <;> by_cases a2:n<16 <;> simp[a1,a2] <;> omega)|(by_cases a1:0<=n <;> by_cases a2:n<32 <;> simp[a1,a2] <;> omega)|trace_state
 · unfold known gT at hk;rw[if_pos h] at hk;cases hk
end Ex
namespace Ex
open Go.RowKit Go.Shelf Go.Sort
attribute [local go_sem] Oper.semAt_some
theorem Kp.app {n₀ T B:Nat} {W w1:ag} {v v':ay} {l:List Nm} {tmp:Obj} (hn:n₀<=W.heap.size) (hB:n₀<=B) (hT:B<T) (hrow:Fb n₀ W v l) (hgrow:(W.alloc tmp).grownBy w1 v.ownBlock) (hbel:au n₀ W (w1.setCell ⟨B,0,ah⟩ v')):Kp n₀ T W (w1.setCell ⟨B,0,ah⟩ v'):=
 ⟨hbel, fun k c fr hk hc => by
   have hkl:=(Array.getElem?_eq_some_iff.1 hc).1;rw[(grownBy_setCell' w1 B v').block k (Nat.lt_of_lt_of_le hkl (ak cz hgrow.size)) (fun e=>by cases e;omega)];rw[hgrow.block k vD (fun e=>by
    rcases hrow.2 with⟨rfl,_⟩|⟨g',cap,cur,rfl,_,hgb,_⟩
    · simp[Value.ownBlock] at e
    · obtain rfl:g'=k:=by simpa [Value.ownBlock] using e.symm
      rw[hgb] at hc
      cases hc)]
   exact(Below.heap_alloc W tmp k hkl).trans hc⟩
end Ex
end Go.Proofs.YthnillhnjhalmaaGreatDoor
