/-
  Parts of this proof: The contracts of Same and of the library's Equal. The contracts of Same.
-/
import Derived.Test.YthnillhnjhalmaaGreatDoorYPBase
open List renaming getElem?_eq_getElem->ae
set_option linter.unusedVariables false
set_option maxRecDepth 100000
set_option maxHeartbeats 8000000
open Go.Lib (hid)
namespace Go.Proofs.YthnillhnjhalmaaGreatDoor
namespace Ex
open Go.RowKit
open Na (bs)
theorem bW.any {G:Nat->Prop} {w:World} {o o2 n n2:Int} {s s2:ByteArray} {l:List Ex} {p:Option Addr} {m:Nat} (h:bW G w (.mk o s n l) p m):bW G w (.mk o2 s2 n2 l) p m:=qN.2 (qN.1 h)
theorem acO {o o2 n n2:Int} {s s2:ByteArray} {l l2:List Ex}:same (.mk o s n l) (.mk o2 s2 n2 l2)=(decide (o=o2)&&decide (bs s=bs s2)&&decide (n=n2)&&jY l l2):=by rw[same]
theorem Um {l l2:List Ex} {k:Nat} {x y:Ex} (hx:l[k]?=some x) (hy:l2[k]?=some y) (h:same x y=false):jY l l2=false:=by
 cases g:jY l l2 with
 | false=>rfl
 | true=>
  have:=J5 g;subst this;rw[hx] at hy;cases hy
  rw[N_] at h;cases h
theorem Ul {l l2:List Ex} (h:¬l.length=l2.length):jY l l2=false:=by
 cases g:jY l l2 with
 | false=>rfl
 | true=>exact absurd (aor g) h
theorem take_same {l l2:List Ex} {k:Nat} {x y:Ex} (hx:l[k]?=some x) (hy:l2[k]?=some y) (h:same x y=true) (g:l.take k=l2.take k):l.take (k+1)=l2.take (k+1):=by rw[take_one hx,take_one hy,same_eq h,g]
abbrev nE:ByteArray:=⟨#[]⟩
theorem ajs (l:List Ex) (ih:∀x∈l,∀(y:Ex) (p:Option Addr) (m c:Nat) (p2:Option Addr) (m2 c2:Nat) (w:World),In w x p m->In w y p2 m2->Calls Tryz.prog 167 #[.agg #[.int .i64 x.o,.string x.s,.int .i64 x.n,.slice p m c],.agg #[.int .i64 y.o,.string y.s,.int .i64 y.n,.slice p2 m2 c2]] w (Gives (.bool (same x y)) w))
 (l2:List Ex) (p:Option Addr) (m c:Nat) (p2:Option Addr) (m2 c2:Nat) (w:World) (h:In w (.mk 0 nE 0 l) p m) (h2:In w (.mk 0 nE 0 l2) p2 m2) :
 Calls Tryz.prog 200 #[.slice p m c,.slice p2 m2 c2,.func (.func 167) #[] #[]] w (Gives (.bool (jY l l2)) w):=by
 have HH:=hid h;have xg:=hid h2;have HI:=hid ih;obtain⟨hl,hm⟩:=h.len;obtain⟨hl2,hm2⟩:=h2.len;have HL:=hid hl;have HL2:=hid hl2;clear ih h h2 hl hl2;by_cases hmm:m=m2
 · subst hmm;go_enter Tryz.func200,Tryz.ntmps200;go_wp2_with fail;go_loopw [17] (fun i wr=>∃k:Nat,k<=m/\Hid (l.take k=l2.take k)/\i=.int .i64 (k:Nat)/\Hid (Below w.heap.size w wr)) (fun i _=>m-(intOf i).toNat)
   case atStart=>exact⟨0,Nat.zero_le _,hid rfl,rfl,hid bl⟩
   case round=>
    obtain⟨k,hk,HT0,rfl,HW⟩:=hrel;have k0:(0:Int)<=(k:Int):=by omega
    rcases Nat.lt_or_ge k m with h|h
    · have k1:(k:Int)<(m:Int):=by omega
      obtain⟨b,o',rfl,-,hG,hcell⟩:=HH.out.kids bU;have hkl:k<l.length:=by rw[HL.out];omega
      obtain⟨q,j,c',hc4,dP⟩:=hcell.out k hkl;have hmem:l[k]∈l:=List.getElem_mem hkl;have hgx:l[k]?=some l[k]:=ae hkl;obtain⟨x,hx⟩:∃x,l[k]=x:=⟨_,rfl⟩
      rw[hx] at hc4 dP hmem hgx;obtain⟨e0,e1,e2,e3⟩:=hc4.on HW.out hG;have ng:=hid dP;have HX:=hid hgx;have HM:=hid hmem;clear hcell hc4 dP hx hmem hgx hkl;obtain⟨b',o'',rfl,-,hG',hcell'⟩:=xg.out.kids bU;have oG:k<l2.length:=by rw[HL2.out];omega
      obtain⟨q',j',c'',xF,xG⟩:=hcell'.out k oG;have xH:l2[k]∈l2:=List.getElem_mem oG;have hgx2:l2[k]?=some l2[k]:=ae oG;obtain⟨y,hy⟩:∃y,l2[k]=y:=⟨_,rfl⟩
      rw[hy] at xF xG xH hgx2;obtain⟨f0,f1,f2,f3⟩:=xF.on HW.out hG';have Lh:=hid xG;have iX:=hid hgx2;have WO:=hid xH;clear hcell' xF xG hy xH hgx2 oG;have HS:=hid (Um HX.out iX.out);have HE:=hid (take_same HX.out iX.out);have HI1:=hid (fun W=>HI.out x HM.out y q j c' q' j' c'' W);obtain⟨E,hE⟩:∃E,same x y=E:=⟨_,rfl⟩
      rw[hE] at HI1 HS HE;clear hE;have hb1:b'<wr.heap.size:=Nat.lt_of_lt_of_le hG' HW.out.size;go_wp2_with fail;refine(HI1.out _ (ng.out.on rq) (Lh.out.on rq)).mono ?_;rintro e w2 ⟨rfl,hb2⟩;have HW2:Hid (Below w.heap.size w w2):=hid rq;clear hb2 HI1
      cases E with
      | true=>
       have HR:=hid (HE.out rfl HT0.out);exact KU
      | false=>
       have HR:=hid (HS.out rfl);go_wp2_with fail;go_ret;exact⟨by rw[HR.out];rfl,HW2.out⟩
    · exact afv
 · rw[Ul Ht];have t1:((m:Int)==(m2:Int))=false:=beq_eq_false_iff_ne.2 bU;have t2:((m:Int) != (m2:Int))=true:=bne_iff_ne.2 bU;clear hmm;go_enter Tryz.func200,Tryz.ntmps200;exact dS
theorem VG {p:Prop} (h:p:=by
 go_enter Tryz.func167,Tryz.ntmps167;exact dS
 ):p:=h
theorem zK (e:Ex):∀(y:Ex) (p:Option Addr) (m c:Nat) (p2:Option Addr) (m2 c2:Nat) (w:World),In w e p m->In w y p2 m2->Calls Tryz.prog 167 #[.agg #[.int .i64 e.o,.string e.s,.int .i64 e.n,.slice p m c],.agg #[.int .i64 y.o,.string y.s,.int .i64 y.n,.slice p2 m2 c2]] w (Gives (.bool (same e y)) w):=by
 induction e using Ex.ind with
 | h o s n l ih=>
  intro y p m c p2 m2 c2 w h h2;obtain⟨o2,s2,n2,l2⟩:=y;have HE:=hid fun W=>ajs l ih l2 p m c p2 m2 c2 W;have HH:=hid (h.any (o2:=0) (n2:=0) (s2:=nE));have xg:=hid (h2.any (o2:=0) (n2:=0) (s2:=nE));rw[acO];simp only[Ex.o,Ex.s,Ex.n];clear h h2 ih;by_cases t1:o=o2
  · by_cases t2:bs s=bs s2
    · by_cases t3:n=n2
      · rw[decide_eq_true t1,decide_eq_true t2,decide_eq_true t3,Bool.true_and,Bool.true_and,Bool.true_and];have u1:(o==o2)=true:=beq_iff_eq.2 t1;have u2:=nS t2;have u3:(n==n2)=true:=beq_iff_eq.2 t3;clear t1 t2 t3;obtain⟨E,hE⟩:∃E,jY l l2=E:=⟨_,rfl⟩
        rw[hE] at HE ⊢;clear hE;go_enter Tryz.func167,Tryz.ntmps167;go_wp2_with fail;refine(HE.out _ (HH.out.on bl) (xg.out.on bl)).mono ?_;exact CJ
      · rw[decide_eq_true t1,decide_eq_true t2,decide_eq_false t3,Bool.true_and,Bool.true_and,Bool.false_and];have u1:(o==o2)=true:=beq_iff_eq.2 t1;have u2:=nS t2;have u3:(n==n2)=false:=beq_eq_false_iff_ne.2 t3;clear t1 t2 t3;exact VG
    · rw[decide_eq_true t1,decide_eq_false t2,Bool.true_and,Bool.false_and,Bool.false_and];have u1:(o==o2)=true:=beq_iff_eq.2 t1;have u2:=pE t2;clear t1 t2;exact VG
  · rw[decide_eq_false t1,Bool.false_and,Bool.false_and,Bool.false_and];have u1:(o==o2)=false:=beq_eq_false_iff_ne.2 t1;clear t1;exact VG
end Ex
namespace Sm
open Go.RowKit
open Ex (Ex)
attribute [local go_sem] cs0 cs1 cs2 wo wu wy wB wC wD wE vQ vR vS vT vU vV vW vX vY vZ v_
theorem Zr:∀(n:Nat) (l m:List Int),n<=l.length->n<=m.length->(Di.rH (fun i=>l.getD i 0) (fun i=>m.getD i 0) n=true↔l.take n=m.take n)
 | 0,l,m,_,_=>by simp[Di.rH]
 | n+1,l,m,h1,h2=>by
  have ih:=Zr n l m bU bU;rw[Di.rH,Bool.and_eq_true,ih,adi (show n<l.length by omega),adi (show n<m.length by omega)];have e1:l.getD n 0=l[n]:=by simp[List.getD,ae (show n<l.length by omega)]
  have e2:m.getD n 0=m[n]:=by simp[List.getD,ae (show n<m.length by omega)]
  rw[beq_iff_eq,e1,e2];constructor
  · rintro⟨a,b⟩;rw[a,b]
  · intro h;have:=List.append_inj h vD;exact⟨this.1,by simpa using this.2⟩
where adi {l:List Int} {k:Nat} (h:k<l.length):l.take (k+1)=l.take k++[l[k]]:=Ex.apQ h
theorem Zo (l m:List Int):Di.nk l.length m.length (fun i=>l.getD i 0) (fun i=>m.getD i 0)=decide (l=m):=by
 unfold Di.nk;by_cases h:l.length=m.length
 · rw[beq_iff_eq.2 h,Bool.true_and];have:=Zr l.length l m (Nat.le_refl _) bU;rw[List.take_length,h,List.take_length] at this;rw[h];by_cases e:l=m
   · rw[decide_eq_true e];exact this.2 e
   · rw[decide_eq_false e]
     cases hh:Di.rH (fun i=>l.getD i 0) (fun i=>m.getD i 0) m.length with
     | false=>rfl
     | true=>exact absurd (this.1 hh) e
 · rw[beq_eq_false_iff_ne.2 h,Bool.false_and,decide_eq_false (fun e=>h (by rw[e]))]
theorem NW (x y:Dt):Di.qU x.op x.a x.b x.n x.vs.length x.ws.length (fun i=>x.vs.getD i 0) (fun i=>x.ws.getD i 0) y.op y.a y.b y.n y.vs.length y.ws.length (fun i=>y.vs.getD i 0) (fun i=>y.ws.getD i 0)=lW x y:=by
 unfold Di.qU lW;rw[Zo,Zo];rfl
theorem ap3 {w:World} (x y:St) (P Q:Pl):Hid (∀W,Below ((w.alloc (.cells (cs x P) 58)).alloc (.cells (cs y Q) 58)).heap.size ((w.alloc (.cells (cs x P) 58)).alloc (.cells (cs y Q) 58)) W->dG W w.heap.size x P/\dG W (w.heap.size+1) y Q):=hid fun W hb=>by
 have h1:dG (w.alloc (.cells (cs x P) 58)) w.heap.size x P:=Ak;have h2:=Ak (w:=w.alloc (.cells (cs x P) 58)) (x:=y) (P:=Q);have e:(w.alloc (.cells (cs x P) 58)).heap.size=w.heap.size+1:=by simp
 rw[e] at h2;exact⟨(h1.on bl).on hb,h2.on hb⟩
end Sm
end Go.Proofs.YthnillhnjhalmaaGreatDoor
