/-
  Parts of this proof: The reference's check of a node, by forms.
-/
import Derived.Test.YtkpekhpgdajabaaGreatDoorYQRrk
open Go.Lib renaming hid->ae
set_option linter.unusedVariables false
set_option maxRecDepth 100000
set_option maxHeartbeats 4000000
open Go.Lib (hid)
namespace Go.Proofs.YtkpekhpgdajabaaGreatDoor
namespace Ex
open Go.RowKit
open Na (bs)
set_option linter.unusedSimpArgs false
theorem Ur {p:Prop} (h:p:=by
 exact BK
 ):p:=h
theorem adk {p:Prop} (h:p:=by
 exact adT
 ):p:=h
theorem al9 (l:List Ex) (ih:nu true l) (o:Int) (h22:22<=o) (YX:o<=24) (s:ByteArray) (n:Int) (p:Option Addr) (m c:Nat) (w:World) (h:In w (.mk o s n l) p m) (hs:Sz (.mk o s n l)):Calls Tryz.prog 22 #[.agg #[.int .i64 (o),.string s,.int .i64 n,.slice p m c],.bool true] w (Gives (.int .i64 (bad true (pre (.mk o s n l)))) w):=by
 have HH:=ae h;have HI:=ae ih;obtain⟨hl,hm⟩:=h.len;have HL:=ae hl;have HS:=ae hs;have hsz:=hs.self;rw[oM,hl];clear ih h hl hs;obtain⟨A,hA⟩:∃A,fH o=A:=⟨_,rfl⟩
 have hA1:0<=A:=by unfold fH at hA;split at hA <;> (try split at hA) <;> (try split at hA) <;> omega
 have hB:obj o=true:=by unfold obj;simp;omega
 have HA:=ae (fun W=>oJ hA W);have HB:=ae (fun W=>oZ hB W);have t1:(o==1)=false:=beq_eq_false_iff_ne.2 bT;have t2:(o==2)=false:=beq_eq_false_iff_ne.2 bT;have t3:(o==3)=false:=beq_eq_false_iff_ne.2 bT;have t25:(o==25)=false:=beq_eq_false_iff_ne.2 bT;have t26:(o==26)=false:=beq_eq_false_iff_ne.2 bT;have u3:(o != 3)=true:=bne_iff_ne.2 bT;have v3:¬o=3:=by omega
 have hkn:known true o=true:=by unfold known;rw[hA];rw[decide_eq_true hA1];simp;omega
 have hnm:named true o=false:=by unfold named;rw[hB];simp
 have hct:counted true o=true:=by unfold counted;rw[hB];simp
 have hnb:numbered true o=true:=by unfold numbered;rw[hct];simp
 by_cases hs0:bs s=[]
 rotate_left
 · have e0:=zt hs0;have HV:=ae (show nd true o (bs s) n m=1 from zO hnm hs0);rw[HV.out,if_neg bR];clear hkn hnm hct hnb hA hB hs0;exact Ur
 have e0:=zw hs0;by_cases fq:(m:Int)=A;rotate_left
 · have g0:((m:Int)==A)=false:=beq_eq_false_iff_ne.2 fq;have g1:((m:Int) != A)=true:=bne_iff_ne.2 fq;have HV:=ae (show nd true o (bs s) n m=1 from w_ hA fq);rw[HV.out,if_neg bR];clear hkn hnm hct hnb hA hB hs0;exact Ur
 subst fq;have hfair:=wZ (s:=bs s) (n:=n) (m:=m) hkn hnm hnb hA (.inr hs0) (.inl rfl) rfl;obtain⟨M,hM⟩:∃M,most o=M:=⟨_,rfl⟩
 have Ee:=ae (fun W=>RF hM W);by_cases hn0:n<0
 · have f0:decide (n<0)=true:=decide_eq_true hn0;have hR:eG true o n=true:=by unfold eG;rw[hct,hM,decide_eq_true hn0];simp
   exact adk
 have f0:decide (n<0)=false:=decide_eq_false hn0;by_cases hn1:M<n
 · have f1:decide (M<n)=true:=decide_eq_true hn1;have hR:eG true o n=true:=by unfold eG;rw[hct,hM,f0,f1];simp
   exact adk
 have f1:decide (M<n)=false:=decide_eq_false hn1;have hR:eG true o n=false:=by unfold eG;rw[hct,hM,f0,f1];simp;omega
 rw[hfair.trans (show _=(0:Int) by rw[hR];rfl),if_pos rfl];clear hkn hnm hct hnb hA hB hfair hs0 hR hM;go_enter Tryz.func22,Tryz.ntmps22;go_wp2_with (first|(go_at_call 43;refine(HA.out _).mono ?_;rintro e w1 ⟨rfl,rfl⟩)|(go_at_call 44;refine(HB.out _).mono ?_;rintro e w1 ⟨rfl,rfl⟩))
 go_quiet ((go_at_call 46;exact Calls.quiet_of_same (Ee.out _)))
 go_wp2_with fail;go_loopw [10] (fun i wr=>∃k:Nat,k<=m/\Hid (bad true (eD (l.take k))=0)/\i=.int .i64 (k:Nat)/\Hid (Below w.heap.size w wr)/\Hid (dR wr w.heap.size o s n p m c)) (fun i _=>m-(intOf i).toNat)
 case atStart=>exact⟨0,Nat.zero_le _,ae yc,rfl,ae bl,ae f_⟩
 case round=>
  obtain⟨k,hk,HT0,rfl,HW,ig⟩:=hrel;obtain⟨b0,b1,b2,b3⟩:=ig.out;have k0:(0:Int)<=(k:Int):=by omega
  rcases Nat.lt_or_ge k m with h|h
  · have k1:(k:Int)<(m:Int):=by omega
    obtain⟨b,o',rfl,-,hG,hcell⟩:=HH.out.kids bT;have hkl:k<l.length:=by rw[HL.out];omega
    obtain⟨q,j,c',hc4,eH⟩:=hcell.out k hkl;have hmem:l[k]∈l:=List.getElem_mem hkl;have hgx:l[k]?=some l[k]:=List.getElem?_eq_getElem hkl;obtain⟨x,hx⟩:∃x,l[k]=x:=⟨_,rfl⟩
    rw[hx] at hc4 eH hmem hgx;obtain⟨e0,e1,e2,e3⟩:=hc4.on HW.out hG;have mO:=ae eH;have HX:=ae hgx;have HM:=ae hmem;clear hcell hc4 eH hx hmem hgx hkl;have Gp:=ae (JY (c:=true) HX.out HT0.out);have HE:=ae (Gy (c:=true) HX.out HT0.out);have HI1:=HI.out x HM.out q j c' wr (mO.out.on HW.out) (HS.out.kid HM.out);obtain⟨E,hE⟩:∃E,bad true (pre x)=E:=⟨_,rfl⟩
    exact UD
  · exact UL
theorem al3 (l:List Ex) (ih:nu true l) (o:Int) (Lg:26<o) (s:ByteArray) (n:Int) (p:Option Addr) (m c:Nat) (w:World) (h:In w (.mk o s n l) p m) (hs:Sz (.mk o s n l)):Calls Tryz.prog 22 #[.agg #[.int .i64 (o),.string s,.int .i64 n,.slice p m c],.bool true] w (Gives (.int .i64 (bad true (pre (.mk o s n l)))) w):=by
 have HH:=ae h;have HI:=ae ih;obtain⟨hl,hm⟩:=h.len;have HL:=ae hl;have HS:=ae hs;have hsz:=hs.self;rw[oM,hl];clear ih h hl hs;obtain⟨A,hA⟩:∃A,fH o=A:=⟨_,rfl⟩
 have hA1:A<0:=by unfold fH at hA;rw[if_pos bT] at hA;omega
 have hB:obj o=false:=by unfold obj;simp;omega
 have HA:=ae (fun W=>oJ hA W);have HB:=ae (fun W=>oZ hB W);have t1:(o==1)=false:=beq_eq_false_iff_ne.2 bT;have t2:(o==2)=false:=beq_eq_false_iff_ne.2 bT;have t3:(o==3)=false:=beq_eq_false_iff_ne.2 bT;have t25:(o==25)=false:=beq_eq_false_iff_ne.2 bT;have t26:(o==26)=false:=beq_eq_false_iff_ne.2 bT;have u3:(o != 3)=true:=bne_iff_ne.2 bT;have v3:¬o=3:=by omega
 have hkn:known true o=false:=by unfold known;rw[hA];rw[decide_eq_false bT];rfl
 have HV:=ae (show nd true o (bs s) n m=1 from Fa hkn);rw[HV.out,if_neg bR];clear hkn hA hB;exact Ur
end Ex
namespace Ex
open Go.RowKit
open Na (bs)
set_option linter.unusedSimpArgs false
theorem NK {p:Prop} (h:p:=by
 exact adT
 ):p:=h
theorem NL {p:Prop} (h:p:=by
 rw[HV.out,if_neg bR];clear hkn hnm hct hnb hA hB hs0;exact BK
 ):p:=h
theorem adl {p:Prop} (h:p:=by
 exact UK
 ):p:=h
theorem amc (l:List Ex) (ih:nu true l) (s:ByteArray) (n:Int) (p:Option Addr) (m c:Nat) (w:World) (h:In w (.mk (25) s n l) p m) (hs:Sz (.mk (25) s n l)):Calls Tryz.prog 22 #[.agg #[.int .i64 (25),.string s,.int .i64 n,.slice p m c],.bool true] w (Gives (.int .i64 (bad true (pre (.mk (25) s n l)))) w):=by
 have HH:=ae h;have HI:=ae ih;obtain⟨hl,hm⟩:=h.len;have HL:=ae hl;have HS:=ae hs;have hsz:=hs.self;rw[oM,hl];clear ih h hl hs;have hA:fH (25)=0:=rfl;have hB:obj (25)=false:=rfl;have HA:=ae (fun W=>oJ hA W);have HB:=ae (fun W=>oZ hB W);have hkn:known true (25)=true:=rfl;have hnm:named true (25)=false:=rfl;have hct:counted true (25)=true:=rfl;have hnb:numbered true (25)=true:=rfl;by_cases hs0:bs s=[]
 rotate_left
 · have e0:=zt hs0;have HV:=ae (show nd true (25) (bs s) n m=1 from zO hnm hs0);exact NL
 have e0:=zw hs0;by_cases fq:(m:Int)=0;rotate_left
 · have g0:((m:Int)==0)=false:=beq_eq_false_iff_ne.2 fq;have g1:((m:Int) != 0)=true:=bne_iff_ne.2 fq;have HV:=ae (show nd true (25) (bs s) n m=1 from w_ hA fq);exact NL
 obtain rfl:m=0:=by omega
 have hfair:=wZ (s:=bs s) (n:=n) (m:=0) hkn hnm hnb hA (.inr hs0) (.inl rfl) rfl;obtain⟨M,hM⟩:∃M,most (25)=M:=⟨_,rfl⟩
 have Ee:=ae (fun W=>RF hM W);by_cases hn0:n<0
 · have f0:decide (n<0)=true:=decide_eq_true hn0;have hR:eG true (25) n=true:=by unfold eG;rw[hct,hM,decide_eq_true hn0];simp
   exact NK
 have f0:decide (n<0)=false:=decide_eq_false hn0;by_cases hn1:M<n
 · have f1:decide (M<n)=true:=decide_eq_true hn1;have hR:eG true (25) n=true:=by unfold eG;rw[hct,hM,f0,f1];simp
   exact NK
 have f1:decide (M<n)=false:=decide_eq_false hn1;have hR:eG true (25) n=false:=by unfold eG;rw[hct,hM,f0,f1];simp
 rw[hfair.trans (show _=(0:Int) by rw[hR];rfl),if_pos rfl];clear hkn hnm hct hnb hA hB hfair hs0 hR hM;go_enter Tryz.func22,Tryz.ntmps22;go_wp2_with (first|(go_at_call 43;refine(HA.out _).mono ?_;rintro e w1 ⟨rfl,rfl⟩)|(go_at_call 44;refine(HB.out _).mono ?_;rintro e w1 ⟨rfl,rfl⟩))
 go_quiet ((go_at_call 46;exact Calls.quiet_of_same (Ee.out _)))
 go_wp2_with fail;go_loopw [10] (fun i wr=>∃k:Nat,k<=0/\Hid (bad true (eD (l.take k))=0)/\i=.int .i64 (k:Nat)/\Hid (Below w.heap.size w wr)/\Hid (dR wr w.heap.size (25) s n p 0 c)) (fun i _=>0-(intOf i).toNat)
 case atStart=>exact⟨0,Nat.zero_le _,ae yc,rfl,ae bl,ae f_⟩
 case round=>
  exact adl
theorem ami (l:List Ex) (ih:nu true l) (s:ByteArray) (n:Int) (p:Option Addr) (m c:Nat) (w:World) (h:In w (.mk (26) s n l) p m) (hs:Sz (.mk (26) s n l)):Calls Tryz.prog 22 #[.agg #[.int .i64 (26),.string s,.int .i64 n,.slice p m c],.bool true] w (Gives (.int .i64 (bad true (pre (.mk (26) s n l)))) w):=by
 have HH:=ae h;have HI:=ae ih;obtain⟨hl,hm⟩:=h.len;have HL:=ae hl;have HS:=ae hs;have hsz:=hs.self;rw[oM,hl];clear ih h hl hs;have hA:fH (26)=0:=rfl;have hB:obj (26)=false:=rfl;have HA:=ae (fun W=>oJ hA W);have HB:=ae (fun W=>oZ hB W);have hkn:known true (26)=true:=rfl;have hnm:named true (26)=false:=rfl;have hct:counted true (26)=true:=rfl;have hnb:numbered true (26)=true:=rfl;by_cases hs0:bs s=[]
 rotate_left
 · have e0:=zt hs0;have HV:=ae (show nd true (26) (bs s) n m=1 from zO hnm hs0);exact NL
 have e0:=zw hs0;by_cases fq:(m:Int)=0;rotate_left
 · have g0:((m:Int)==0)=false:=beq_eq_false_iff_ne.2 fq;have g1:((m:Int) != 0)=true:=bne_iff_ne.2 fq;have HV:=ae (show nd true (26) (bs s) n m=1 from w_ hA fq);exact NL
 obtain rfl:m=0:=by omega
 have hfair:=wZ (s:=bs s) (n:=n) (m:=0) hkn hnm hnb hA (.inr hs0) (.inl rfl) rfl;obtain⟨M,hM⟩:∃M,most (26)=M:=⟨_,rfl⟩
 have Ee:=ae (fun W=>RF hM W);by_cases hn0:n<0
 · have f0:decide (n<0)=true:=decide_eq_true hn0;have hR:eG true (26) n=true:=by unfold eG;rw[hct,hM,decide_eq_true hn0];simp
   exact NK
 have f0:decide (n<0)=false:=decide_eq_false hn0;by_cases hn1:M<n
 · have f1:decide (M<n)=true:=decide_eq_true hn1;have hR:eG true (26) n=true:=by unfold eG;rw[hct,hM,f0,f1];simp
   exact NK
 have f1:decide (M<n)=false:=decide_eq_false hn1;have hR:eG true (26) n=false:=by unfold eG;rw[hct,hM,f0,f1];simp
 rw[hfair.trans (show _=(0:Int) by rw[hR];rfl),if_pos rfl];clear hkn hnm hct hnb hA hB hfair hs0 hR hM;go_enter Tryz.func22,Tryz.ntmps22;go_wp2_with (first|(go_at_call 43;refine(HA.out _).mono ?_;rintro e w1 ⟨rfl,rfl⟩)|(go_at_call 44;refine(HB.out _).mono ?_;rintro e w1 ⟨rfl,rfl⟩))
 go_quiet ((go_at_call 46;exact Calls.quiet_of_same (Ee.out _)))
 go_wp2_with fail;go_loopw [10] (fun i wr=>∃k:Nat,k<=0/\Hid (bad true (eD (l.take k))=0)/\i=.int .i64 (k:Nat)/\Hid (Below w.heap.size w wr)/\Hid (dR wr w.heap.size (26) s n p 0 c)) (fun i _=>0-(intOf i).toNat)
 case atStart=>exact⟨0,Nat.zero_le _,ae yc,rfl,ae bl,ae f_⟩
 case round=>
  exact adl
end Ex
end Go.Proofs.YtkpekhpgdajabaaGreatDoor
