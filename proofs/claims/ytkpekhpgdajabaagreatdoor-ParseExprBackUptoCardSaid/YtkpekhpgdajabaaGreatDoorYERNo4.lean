/-
  Parts of this proof: The reference's check of a node, by forms.
-/
import Derived.Test.YtkpekhpgdajabaaGreatDoorYQRrk
open Go.Lib renaming hid->ae
set_option linter.unusedVariables false
set_option maxRecDepth 100000
set_option maxHeartbeats 4000000
open Go.Lib (hid)
namespace Go.Proofs.YtkpekhpgdajabaaGreatDoor
namespace Ex
open Go.RowKit
open Na (bs fB)
set_option linter.unusedSimpArgs false
theorem FV {p:Prop} (h:p:=by
 exact BK
 ):p:=h
theorem pV {p:Prop} (h:p:=by omega):p:=h
theorem amd (l:List Ex) (ih:nu false l) (s:ByteArray) (n:Int) (p:Option Addr) (m c:Nat) (w:World) (h:In w (.mk (3) s n l) p m) (hs:Sz (.mk (3) s n l)):Calls Tryz.prog 22 #[.agg #[.int .i64 (3),.string s,.int .i64 n,.slice p m c],.bool false] w (Gives (.int .i64 (bad false (pre (.mk (3) s n l)))) w):=by
 have HH:=ae h;have HI:=ae ih;obtain⟨hl,hm⟩:=h.len;have HL:=ae hl;have HS:=ae hs;have hsz:=hs.self;rw[oM,hl];clear ih h hl hs;have hA:fH (3)=0:=rfl;have hB:obj (3)=false:=rfl;have HA:=ae (fun W=>oJ hA W);have HB:=ae (fun W=>oZ hB W);have hkn:known false (3)=true:=rfl;have hnm:named false (3)=true:=rfl;have hct:counted false (3)=false:=rfl;have hnb:numbered false (3)=false:=rfl;by_cases hn0:n=0;rotate_left
 · have f0:(n==0)=false:=beq_eq_false_iff_ne.2 hn0;have HV:=ae (show nd false (3) (bs s) n m=1 from L9 hnb hn0);rw[HV.out,if_neg bR];clear hkn hnm hct hnb hA hB hn0;exact FV
 subst hn0;by_cases fq:(m:Int)=0;rotate_left
 · have g0:((m:Int)==0)=false:=beq_eq_false_iff_ne.2 fq;have g1:((m:Int) != 0)=true:=bne_iff_ne.2 fq;have HV:=ae (show nd false (3) (bs s) 0 m=1 from w_ hA fq);rw[HV.out,if_neg bR];clear hkn hnm hct hnb hA hB;exact FV
 obtain rfl:m=0:=by omega
 have hfair:=wZ (s:=bs s) (n:=0) (m:=0) hkn hnm hnb hA (.inl rfl) (.inr rfl) rfl;have hR:eG false (3) 0=false:=by unfold eG;rw[hct];simp
 rw[hfair.trans (show _=fB (bs s) by rw[hR];rfl)];have ze:=ae (fun W=>aa5 (s:=s) rfl pV W);obtain⟨X,hX⟩:∃X,fB (bs s)=X:=⟨_,rfl⟩
 rw[hX] at ze ⊢;by_cases hX0:X=0
 · subst hX0;rw[if_pos rfl];clear hkn hnm hct hnb hA hB hfair hR hX;go_enter Tryz.func22,Tryz.ntmps22;go_wp2_with (first|(go_at_call 43;refine(HA.out _).mono ?_;rintro e w1 ⟨rfl,rfl⟩)|(go_at_call 44;refine(HB.out _).mono ?_;rintro e w1 ⟨rfl,rfl⟩))
   go_quiet (fail)
   go_wp2_with fail;refine(ze.out _).mono ?_;rintro e w2 ⟨rfl,hb2⟩;obtain⟨b0,b1,b2,b3⟩:dR w2 w.heap.size (3) s 0 p 0 c:=dR.on hb2 (J7 f_ _);go_wp2_with fail;go_loopw [10] (fun i wr=>∃k:Nat,k<=0/\Hid (bad false (eD (l.take k))=0)/\i=.int .i64 (k:Nat)/\Hid (Below w.heap.size w wr)/\Hid (dR wr w.heap.size (3) s 0 p 0 c)) (fun i _=>0-(intOf i).toNat)
   case atStart=>exact⟨0,Nat.zero_le _,ae yc,rfl,ae bl,ae ⟨b0,b1,b2,b3⟩⟩
   case round=>
    exact UJ
 · rw[if_neg hX0];have x1:(X==0)=false:=beq_eq_false_iff_ne.2 hX0;clear hkn hnm hct hnb hA hB hfair hR hX;go_enter Tryz.func22,Tryz.ntmps22;go_wp2_with (first|(go_at_call 43;refine(HA.out _).mono ?_;rintro e w1 ⟨rfl,rfl⟩)|(go_at_call 44;refine(HB.out _).mono ?_;rintro e w1 ⟨rfl,rfl⟩))
   go_quiet (fail)
   go_wp2_with fail;refine(ze.out _).mono ?_;rintro e w2 ⟨rfl,hb2⟩;obtain⟨b0,b1,b2,b3⟩:dR w2 w.heap.size (3) s 0 p 0 c:=dR.on hb2 (J7 f_ _);go_wp2_with fail;refine(ze.out _).mono ?_;rintro e w3 ⟨rfl,hb3⟩;exact dX
theorem al8 (l:List Ex) (ih:nu false l) (o:Int) (h22:22<=o) (YX:o<=24) (s:ByteArray) (n:Int) (p:Option Addr) (m c:Nat) (w:World) (h:In w (.mk o s n l) p m) (hs:Sz (.mk o s n l)):Calls Tryz.prog 22 #[.agg #[.int .i64 (o),.string s,.int .i64 n,.slice p m c],.bool false] w (Gives (.int .i64 (bad false (pre (.mk o s n l)))) w):=by
 have HH:=ae h;have HI:=ae ih;obtain⟨hl,hm⟩:=h.len;have HL:=ae hl;have HS:=ae hs;have hsz:=hs.self;rw[oM,hl];clear ih h hl hs;obtain⟨A,hA⟩:∃A,fH o=A:=⟨_,rfl⟩
 have hA1:0<=A:=by unfold fH at hA;split at hA <;> (try split at hA) <;> (try split at hA) <;> omega
 have hB:obj o=true:=by unfold obj;simp;omega
 have HA:=ae (fun W=>oJ hA W);have HB:=ae (fun W=>oZ hB W);have t1:(o==1)=false:=beq_eq_false_iff_ne.2 pV;have t2:(o==2)=false:=beq_eq_false_iff_ne.2 pV;have t3:(o==3)=false:=beq_eq_false_iff_ne.2 pV;have t25:(o==25)=false:=beq_eq_false_iff_ne.2 pV;have t26:(o==26)=false:=beq_eq_false_iff_ne.2 pV;have u3:(o != 3)=true:=bne_iff_ne.2 pV;have v3:¬o=3:=by omega
 have hkn:known false o=true:=by unfold known;rw[hA];rw[decide_eq_true hA1];simp;omega
 have hnm:named false o=true:=by unfold named;rw[hB];simp
 have hct:counted false o=false:=by unfold counted;rw[hB];simp
 have hnb:numbered false o=false:=by unfold numbered;rw[hct];simp;omega
 by_cases hn0:n=0;rotate_left
 · have f0:(n==0)=false:=beq_eq_false_iff_ne.2 hn0;have HV:=ae (show nd false o (bs s) n m=1 from L9 hnb hn0);rw[HV.out,if_neg bR];clear hkn hnm hct hnb hA hB hn0;exact FV
 subst hn0;by_cases fq:(m:Int)=A;rotate_left
 · have g0:((m:Int)==A)=false:=beq_eq_false_iff_ne.2 fq;have g1:((m:Int) != A)=true:=bne_iff_ne.2 fq;have HV:=ae (show nd false o (bs s) 0 m=1 from w_ hA fq);rw[HV.out,if_neg bR];clear hkn hnm hct hnb hA hB;exact FV
 subst fq;have hfair:=wZ (s:=bs s) (n:=0) (m:=m) hkn hnm hnb hA (.inl rfl) (.inr rfl) rfl;have hR:eG false o 0=false:=by unfold eG;rw[hct];simp;omega
 rw[hfair.trans (show _=fB (bs s) by rw[hR];rfl)];have ze:=ae (fun W=>aa5 (s:=s) rfl pV W);obtain⟨X,hX⟩:∃X,fB (bs s)=X:=⟨_,rfl⟩
 rw[hX] at ze ⊢;by_cases hX0:X=0
 · subst hX0;rw[if_pos rfl];clear hkn hnm hct hnb hA hB hfair hR hX;go_enter Tryz.func22,Tryz.ntmps22;go_wp2_with (first|(go_at_call 43;refine(HA.out _).mono ?_;rintro e w1 ⟨rfl,rfl⟩)|(go_at_call 44;refine(HB.out _).mono ?_;rintro e w1 ⟨rfl,rfl⟩))
   go_quiet (fail)
   go_wp2_with fail;refine(ze.out _).mono ?_;rintro e w2 ⟨rfl,hb2⟩;obtain⟨b0,b1,b2,b3⟩:dR w2 w.heap.size o s 0 p m c:=dR.on hb2 (J7 f_ _);go_wp2_with fail;go_loopw [10] (fun i wr=>∃k:Nat,k<=m/\Hid (bad false (eD (l.take k))=0)/\i=.int .i64 (k:Nat)/\Hid (Below w.heap.size w wr)/\Hid (dR wr w.heap.size o s 0 p m c)) (fun i _=>m-(intOf i).toNat)
   case atStart=>exact⟨0,Nat.zero_le _,ae yc,rfl,ae bl,ae ⟨b0,b1,b2,b3⟩⟩
   case round=>
    obtain⟨k,hk,HT0,rfl,HW,ig⟩:=hrel;obtain⟨b0,b1,b2,b3⟩:=ig.out;have k0:(0:Int)<=(k:Int):=by omega
    rcases Nat.lt_or_ge k m with h|h
    · have k1:(k:Int)<(m:Int):=by omega
      obtain⟨b,o',rfl,-,hG,hcell⟩:=HH.out.kids pV;have hkl:k<l.length:=by rw[HL.out];omega
      obtain⟨q,j,c',hc4,eH⟩:=hcell.out k hkl;have hmem:l[k]∈l:=List.getElem_mem hkl;have hgx:l[k]?=some l[k]:=List.getElem?_eq_getElem hkl;obtain⟨x,hx⟩:∃x,l[k]=x:=⟨_,rfl⟩
      rw[hx] at hc4 eH hmem hgx;obtain⟨e0,e1,e2,e3⟩:=hc4.on HW.out hG;have mO:=ae eH;have HX:=ae hgx;have HM:=ae hmem;clear hcell hc4 eH hx hmem hgx hkl;have Gp:=ae (JY (c:=false) HX.out HT0.out);have HE:=ae (Gy (c:=false) HX.out HT0.out);have HI1:=HI.out x HM.out q j c' wr (mO.out.on HW.out) (HS.out.kid HM.out);obtain⟨E,hE⟩:∃E,bad false (pre x)=E:=⟨_,rfl⟩
      exact UD
    · exact UL
 · rw[if_neg hX0];have x1:(X==0)=false:=beq_eq_false_iff_ne.2 hX0;clear hkn hnm hct hnb hA hB hfair hR hX;go_enter Tryz.func22,Tryz.ntmps22;go_wp2_with (first|(go_at_call 43;refine(HA.out _).mono ?_;rintro e w1 ⟨rfl,rfl⟩)|(go_at_call 44;refine(HB.out _).mono ?_;rintro e w1 ⟨rfl,rfl⟩))
   go_quiet (fail)
   go_wp2_with fail;refine(ze.out _).mono ?_;rintro e w2 ⟨rfl,hb2⟩;obtain⟨b0,b1,b2,b3⟩:dR w2 w.heap.size o s 0 p m c:=dR.on hb2 (J7 f_ _);go_wp2_with fail;refine(ze.out _).mono ?_;rintro e w3 ⟨rfl,hb3⟩;exact dX
theorem ame (l:List Ex) (ih:nu true l) (s:ByteArray) (n:Int) (p:Option Addr) (m c:Nat) (w:World) (h:In w (.mk (3) s n l) p m) (hs:Sz (.mk (3) s n l)):Calls Tryz.prog 22 #[.agg #[.int .i64 (3),.string s,.int .i64 n,.slice p m c],.bool true] w (Gives (.int .i64 (bad true (pre (.mk (3) s n l)))) w):=by
 have HH:=ae h;have HI:=ae ih;obtain⟨hl,hm⟩:=h.len;have HL:=ae hl;have HS:=ae hs;have hsz:=hs.self;rw[oM,hl];clear ih h hl hs;have hA:fH (3)=0:=rfl;have hB:obj (3)=false:=rfl;have HA:=ae (fun W=>oJ hA W);have HB:=ae (fun W=>oZ hB W);have hkn:known true (3)=false:=rfl;have HV:=ae (show nd true (3) (bs s) n m=1 from Fa hkn);rw[HV.out,if_neg bR];clear hkn hA hB;exact FV
theorem al5 (l:List Ex) (ih:nu true l) (o:Int) (h1:o<1) (s:ByteArray) (n:Int) (p:Option Addr) (m c:Nat) (w:World) (h:In w (.mk o s n l) p m) (hs:Sz (.mk o s n l)):Calls Tryz.prog 22 #[.agg #[.int .i64 (o),.string s,.int .i64 n,.slice p m c],.bool true] w (Gives (.int .i64 (bad true (pre (.mk o s n l)))) w):=by
 have HH:=ae h;have HI:=ae ih;obtain⟨hl,hm⟩:=h.len;have HL:=ae hl;have HS:=ae hs;have hsz:=hs.self;rw[oM,hl];clear ih h hl hs;obtain⟨A,hA⟩:∃A,fH o=A:=⟨_,rfl⟩
 have hA1:A<0:=by unfold fH at hA;rw[if_pos pV] at hA;omega
 have hB:obj o=false:=by unfold obj;simp;omega
 have HA:=ae (fun W=>oJ hA W);have HB:=ae (fun W=>oZ hB W);have t1:(o==1)=false:=beq_eq_false_iff_ne.2 pV;have t2:(o==2)=false:=beq_eq_false_iff_ne.2 pV;have t3:(o==3)=false:=beq_eq_false_iff_ne.2 pV;have t25:(o==25)=false:=beq_eq_false_iff_ne.2 pV;have t26:(o==26)=false:=beq_eq_false_iff_ne.2 pV;have u3:(o != 3)=true:=bne_iff_ne.2 pV;have v3:¬o=3:=by omega
 have hkn:known true o=false:=by unfold known;rw[hA];rw[decide_eq_false pV];rfl
 have HV:=ae (show nd true o (bs s) n m=1 from Fa hkn);rw[HV.out,if_neg bR];clear hkn hA hB;exact FV
end Ex
end Go.Proofs.YtkpekhpgdajabaaGreatDoor
