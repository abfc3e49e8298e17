/-
  Parts of this proof: The contracts of Same and of the library's Equal.
-/
import Derived.Test.YtbgodajefaahdaaGreatDoorYNuMath
set_option linter.unusedVariables false
open Go.Lib (hid)
namespace Go.Proofs.YtbgodajefaahdaaGreatDoor
namespace Ex
open Go.RowKit
open Na (bs)
set_option maxHeartbeats 1000000
theorem bW.any {G:Nat->Prop} {w:World} {o o2 n n2:Int} {s s2:ByteArray} {l:List Ex} {p:Option Addr} {m:Nat} (h:bW G w (.mk o s n l) p m):bW G w (.mk o2 s2 n2 l) p m:=ry.2 (ry.1 h)
theorem aeZ {o o2 n n2:Int} {s s2:ByteArray} {l l2:List Ex}:same (.mk o s n l) (.mk o2 s2 n2 l2)=(decide (o=o2)&&decide (bs s=bs s2)&&decide (n=n2)&&ky l l2):=by rw[same]
theorem VD {l l2:List Ex} {k:Nat} {x y:Ex} (hx:l[k]?=some x) (hy:l2[k]?=some y) (h:same x y=false):ky l l2=false:=by
 cases g:ky l l2 with
 | false=>rfl
 | true=>
  have:=KQ g;subst this;rw[hx] at hy;cases hy
  rw[VH] at h;cases h
theorem VA {l l2:List Ex} (h:¬l.length=l2.length):ky l l2=false:=by
 cases g:ky l l2 with
 | false=>rfl
 | true=>exact absurd (aqC g) h
theorem take_same {l l2:List Ex} {k:Nat} {x y:Ex} (hx:l[k]?=some x) (hy:l2[k]?=some y) (h:same x y=true) (g:l.take k=l2.take k):l.take (k+1)=l2.take (k+1):=by rw[take_one hx,take_one hy,same_eq h,g]
abbrev nE:ByteArray:=⟨#[]⟩
set_option maxRecDepth 100000 in
theorem al1 (l:List Ex) (ih:∀x∈l,∀(y:Ex) (p:Option Addr) (m c:Nat) (p2:Option Addr) (m2 c2:Nat) (w:World),In w x p m->In w y p2 m2->Calls Tryz.prog 136 #[.agg #[.int .i64 x.o,.string x.s,.int .i64 x.n,.slice p m c],.agg #[.int .i64 y.o,.string y.s,.int .i64 y.n,.slice p2 m2 c2]] w (Gives (.bool (same x y)) w))
 (l2:List Ex) (p:Option Addr) (m c:Nat) (p2:Option Addr) (m2 c2:Nat) (w:World) (h:In w (.mk 0 nE 0 l) p m) (h2:In w (.mk 0 nE 0 l2) p2 m2) :
 Calls Tryz.prog 171 #[.slice p m c,.slice p2 m2 c2,.func (.func 136) #[] #[]] w (Gives (.bool (ky l l2)) w):=by
 have HH:=hid h;have qm:=hid h2;have HI:=hid ih;obtain⟨hl,hm⟩:=h.len;obtain⟨hl2,hm2⟩:=h2.len;have HL:=hid hl;have HL2:=hid hl2;clear ih h h2 hl hl2;by_cases hmm:m=m2
 · subst hmm;go_enter Tryz.func171,Tryz.ntmps171;go_wp2_with fail;go_loopw [17] (fun i wr=>∃k:Nat,k<=m/\Hid (l.take k=l2.take k)/\i=.int .i64 (k:Nat)/\Hid (Below w.heap.size w wr)) (fun i _=>m-(intOf i).toNat)
   case atStart=>exact⟨0,Nat.zero_le _,hid rfl,rfl,hid bl⟩
   case round=>
    obtain⟨k,hk,HT0,rfl,HW⟩:=hrel;have k0:(0:Int)<=(k:Int):=by omega
    rcases Nat.lt_or_ge k m with h|h
    · have k1:(k:Int)<(m:Int):=by omega
      obtain⟨b,o',rfl,-,hG,hcell⟩:=HH.out.kids (by omega);have hkl:k<l.length:=by rw[HL.out];omega
      obtain⟨q,j,c',hc4,kL⟩:=hcell.out k hkl;have hmem:l[k]∈l:=List.getElem_mem hkl;have hgx:l[k]?=some l[k]:=List.getElem?_eq_getElem hkl;obtain⟨x,hx⟩:∃x,l[k]=x:=⟨_,rfl⟩
      rw[hx] at hc4 kL hmem hgx;obtain⟨e0,e1,e2,e3⟩:=hc4.on HW.out hG;have Ad:=hid kL;have HX:=hid hgx;have HM:=hid hmem;clear hcell hc4 kL hx hmem hgx hkl;obtain⟨b',o'',rfl,-,hG',hcell'⟩:=qm.out.kids (by omega);have dM:k<l2.length:=by rw[HL2.out];omega
      obtain⟨q',j',c'',yg,yj⟩:=hcell'.out k dM;have yn:l2[k]∈l2:=List.getElem_mem dM;have hgx2:l2[k]?=some l2[k]:=List.getElem?_eq_getElem dM;obtain⟨y,hy⟩:∃y,l2[k]=y:=⟨_,rfl⟩
      rw[hy] at yg yj yn hgx2;obtain⟨f0,f1,f2,f3⟩:=yg.on HW.out hG';have Iy:=hid yj;have dV:=hid hgx2;have YD:=hid yn;clear hcell' yg yj hy yn hgx2 dM;have HS:=hid (VD HX.out dV.out);have HE:=hid (take_same HX.out dV.out);have HI1:=hid (fun W=>HI.out x HM.out y q j c' q' j' c'' W);obtain⟨E,hE⟩:∃E,same x y=E:=⟨_,rfl⟩
      rw[hE] at HI1 HS HE;clear hE;have hb1:b'<wr.heap.size:=Nat.lt_of_lt_of_le hG' HW.out.size;go_wp2_with fail;refine(HI1.out _ (Ad.out.on (by have bU:=HW.out;exact bl)) (Iy.out.on (by have bU:=HW.out;exact bl))).mono ?_;rintro e w2 ⟨rfl,hb2⟩;have HW2:Hid (Below w.heap.size w w2):=hid (by have bU:=HW.out;exact bl);clear hb2 HI1
      cases E with
      | true=>
       have HR:=hid (HE.out rfl HT0.out);go_wp2_with fail;go_roundw
       case rel=>exact⟨k+1,by omega,HR,by go_num,HW2⟩
       case measure=>simp[intOf];omega
      | false=>
       have HR:=hid (HS.out rfl);go_wp2_with fail;go_ret;exact⟨by rw[HR.out];rfl,HW2.out⟩
    · obtain rfl:m=k:=by omega
      have HR:Hid (ky l l2=true):=hid (by
       have h1:=HT0.out;rw[List.take_of_length_le (by rw[HL.out];exact Nat.le_refl _),List.take_of_length_le (by rw[HL2.out];exact Nat.le_refl _)] at h1;rw[h1];exact G_ _)
      go_wp2_with fail;go_ret;exact⟨by rw[HR.out];rfl,HW.out⟩
 · rw[VA (by rw[HL.out,HL2.out];exact hmm)];have t1:((m:Int)==(m2:Int))=false:=beq_eq_false_iff_ne.2 (by omega);have t2:((m:Int) != (m2:Int))=true:=bne_iff_ne.2 (by omega);clear hmm;go_enter Tryz.func171,Tryz.ntmps171;go_wp2_with fail;go_ret;exact⟨rfl,bl⟩
theorem XX {p:Prop} (h:p:=by
 go_enter Tryz.func136,Tryz.ntmps136;go_wp2_with fail;go_ret;exact⟨rfl,bl⟩
 ):p:=h
set_option maxRecDepth 100000 in
theorem zQ (e:Ex):∀(y:Ex) (p:Option Addr) (m c:Nat) (p2:Option Addr) (m2 c2:Nat) (w:World),In w e p m->In w y p2 m2->Calls Tryz.prog 136 #[.agg #[.int .i64 e.o,.string e.s,.int .i64 e.n,.slice p m c],.agg #[.int .i64 y.o,.string y.s,.int .i64 y.n,.slice p2 m2 c2]] w (Gives (.bool (same e y)) w):=by
 induction e using Ex.ind with
 | h o s n l ih=>
  intro y p m c p2 m2 c2 w h h2;obtain⟨o2,s2,n2,l2⟩:=y;have HE:=hid fun W=>al1 l ih l2 p m c p2 m2 c2 W;have HH:=hid (h.any (o2:=0) (n2:=0) (s2:=nE));have qm:=hid (h2.any (o2:=0) (n2:=0) (s2:=nE));rw[aeZ];simp only[Ex.o,Ex.s,Ex.n];clear h h2 ih;by_cases t1:o=o2
  · by_cases t2:bs s=bs s2
    · by_cases t3:n=n2
      · rw[decide_eq_true t1,decide_eq_true t2,decide_eq_true t3,Bool.true_and,Bool.true_and,Bool.true_and];have u1:(o==o2)=true:=beq_iff_eq.2 t1;have u2:=vo t2;have u3:(n==n2)=true:=beq_iff_eq.2 t3;clear t1 t2 t3;obtain⟨E,hE⟩:∃E,ky l l2=E:=⟨_,rfl⟩
        rw[hE] at HE ⊢;clear hE;go_enter Tryz.func136,Tryz.ntmps136;go_wp2_with fail;refine(HE.out _ (HH.out.on bl) (qm.out.on bl)).mono ?_;rintro e w2 ⟨rfl,hb2⟩;go_wp2_with fail;go_ret;exact⟨rfl,bl⟩
      · rw[decide_eq_true t1,decide_eq_true t2,decide_eq_false t3,Bool.true_and,Bool.true_and,Bool.false_and];have u1:(o==o2)=true:=beq_iff_eq.2 t1;have u2:=vo t2;have u3:(n==n2)=false:=beq_eq_false_iff_ne.2 t3;clear t1 t2 t3;exact XX
    · rw[decide_eq_true t1,decide_eq_false t2,Bool.true_and,Bool.false_and,Bool.false_and];have u1:(o==o2)=true:=beq_iff_eq.2 t1;have u2:=xZ t2;clear t1 t2;exact XX
  · rw[decide_eq_false t1,Bool.false_and,Bool.false_and,Bool.false_and];have u1:(o==o2)=false:=beq_eq_false_iff_ne.2 t1;clear t1;exact XX
end Ex
end Go.Proofs.YtbgodajefaahdaaGreatDoor
