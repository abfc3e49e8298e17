/-
  Parts of this proof: The reference's check of a node, by forms.
-/
import Derived.Test.YtkpekhpgdajabaaGreatDoorYQRrk
set_option linter.unusedVariables false
set_option maxRecDepth 100000
set_option maxHeartbeats 4000000
open Go.Lib (hid)
namespace Go.Proofs.YtkpekhpgdajabaaGreatDoor
namespace Ex
open Go.RowKit
open Na (bs)
set_option linter.unusedSimpArgs false
theorem Uq {p:Prop} (h:p:=by
 exact BK
 ):p:=h
theorem adi {p:Prop} (h:p:=by
 exact UD
 ):p:=h
theorem adj {p:Prop} (h:p:=by
 exact UL
 ):p:=h
theorem NJ {p:Prop} (h:p:=by
 rw[HV.out,if_neg bR];clear hkn hnm hct hnb hA hB hs0;exact Uq
 ):p:=h
theorem al6 (l:List Ex) (ih:nu false l) (o:Int) (h4:4<=o) (h21:o<=21) (s:ByteArray) (n:Int) (p:Option Addr) (m c:Nat) (w:World) (h:In w (.mk o s n l) p m) (hs:Sz (.mk o s n l)):Calls Tryz.prog 22 #[.agg #[.int .i64 (o),.string s,.int .i64 n,.slice p m c],.bool false] w (Gives (.int .i64 (bad false (pre (.mk o s n l)))) w):=by
 have HH:=hid h;have HI:=hid ih;obtain⟨hl,hm⟩:=h.len;have HL:=hid hl;have HS:=hid hs;have hsz:=hs.self;rw[oM,hl];clear ih h hl hs;obtain⟨A,hA⟩:∃A,fH o=A:=⟨_,rfl⟩
 have hA1:0<=A:=by unfold fH at hA;split at hA <;> (try split at hA) <;> (try split at hA) <;> omega
 have hB:obj o=false:=by unfold obj;simp;omega
 have HA:=hid (fun W=>oJ hA W);have HB:=hid (fun W=>oZ hB W);have t1:(o==1)=false:=beq_eq_false_iff_ne.2 bT;have t2:(o==2)=false:=beq_eq_false_iff_ne.2 bT;have t3:(o==3)=false:=beq_eq_false_iff_ne.2 bT;have t25:(o==25)=false:=beq_eq_false_iff_ne.2 bT;have t26:(o==26)=false:=beq_eq_false_iff_ne.2 bT;have u3:(o != 3)=true:=bne_iff_ne.2 bT;have v3:¬o=3:=by omega
 have hkn:known false o=true:=by unfold known;rw[hA];rw[decide_eq_true hA1];simp;omega
 have hnm:named false o=false:=by unfold named;rw[hB];simp;omega
 have hct:counted false o=false:=by unfold counted;rw[hB];simp
 have hnb:numbered false o=false:=by unfold numbered;rw[hct];simp;omega
 by_cases hs0:bs s=[]
 rotate_left
 · have e0:=zt hs0;have HV:=hid (show nd false o (bs s) n m=1 from zO hnm hs0);exact NJ
 have e0:=zw hs0;by_cases hn0:n=0;rotate_left
 · have f0:(n==0)=false:=beq_eq_false_iff_ne.2 hn0;have HV:=hid (show nd false o (bs s) n m=1 from L9 hnb hn0);rw[HV.out,if_neg bR];clear hkn hnm hct hnb hA hB hn0 hs0;exact Uq
 subst hn0;by_cases fq:(m:Int)=A;rotate_left
 · have g0:((m:Int)==A)=false:=beq_eq_false_iff_ne.2 fq;have g1:((m:Int) != A)=true:=bne_iff_ne.2 fq;have HV:=hid (show nd false o (bs s) 0 m=1 from w_ hA fq);exact NJ
 subst fq;have hfair:=wZ (s:=bs s) (n:=0) (m:=m) hkn hnm hnb hA (.inr hs0) (.inr rfl) rfl;have hR:eG false o 0=false:=by unfold eG;rw[hct];simp;omega
 rw[hfair.trans (show _=(0:Int) by rw[hR];rfl),if_pos rfl];clear hkn hnm hct hnb hA hB hfair hs0 hR;go_enter Tryz.func22,Tryz.ntmps22;go_wp2_with (first|(go_at_call 43;refine(HA.out _).mono ?_;rintro e w1 ⟨rfl,rfl⟩)|(go_at_call 44;refine(HB.out _).mono ?_;rintro e w1 ⟨rfl,rfl⟩))
 go_quiet (fail)
 go_wp2_with fail;go_loopw [10] (fun i wr=>∃k:Nat,k<=m/\Hid (bad false (eD (l.take k))=0)/\i=.int .i64 (k:Nat)/\Hid (Below w.heap.size w wr)/\Hid (dR wr w.heap.size o s 0 p m c)) (fun i _=>m-(intOf i).toNat)
 case atStart=>exact⟨0,Nat.zero_le _,hid yc,rfl,hid bl,hid f_⟩
 case round=>
  obtain⟨k,hk,HT0,rfl,HW,ig⟩:=hrel;obtain⟨b0,b1,b2,b3⟩:=ig.out;have k0:(0:Int)<=(k:Int):=by omega
  rcases Nat.lt_or_ge k m with h|h
  · have k1:(k:Int)<(m:Int):=by omega
    obtain⟨b,o',rfl,-,hG,hcell⟩:=HH.out.kids bT;have hkl:k<l.length:=by rw[HL.out];omega
    obtain⟨q,j,c',hc4,eH⟩:=hcell.out k hkl;have hmem:l[k]∈l:=List.getElem_mem hkl;have hgx:l[k]?=some l[k]:=List.getElem?_eq_getElem hkl;obtain⟨x,hx⟩:∃x,l[k]=x:=⟨_,rfl⟩
    rw[hx] at hc4 eH hmem hgx;obtain⟨e0,e1,e2,e3⟩:=hc4.on HW.out hG;have mO:=hid eH;have HX:=hid hgx;have HM:=hid hmem;clear hcell hc4 eH hx hmem hgx hkl;have Gp:=hid (JY (c:=false) HX.out HT0.out);have HE:=hid (Gy (c:=false) HX.out HT0.out);have HI1:=HI.out x HM.out q j c' wr (mO.out.on HW.out) (HS.out.kid HM.out);obtain⟨E,hE⟩:∃E,bad false (pre x)=E:=⟨_,rfl⟩
    exact adi
  · exact adj
theorem al7 (l:List Ex) (ih:nu true l) (o:Int) (h4:4<=o) (h21:o<=21) (s:ByteArray) (n:Int) (p:Option Addr) (m c:Nat) (w:World) (h:In w (.mk o s n l) p m) (hs:Sz (.mk o s n l)):Calls Tryz.prog 22 #[.agg #[.int .i64 (o),.string s,.int .i64 n,.slice p m c],.bool true] w (Gives (.int .i64 (bad true (pre (.mk o s n l)))) w):=by
 have HH:=hid h;have HI:=hid ih;obtain⟨hl,hm⟩:=h.len;have HL:=hid hl;have HS:=hid hs;have hsz:=hs.self;rw[oM,hl];clear ih h hl hs;obtain⟨A,hA⟩:∃A,fH o=A:=⟨_,rfl⟩
 have hA1:0<=A:=by unfold fH at hA;split at hA <;> (try split at hA) <;> (try split at hA) <;> omega
 have hB:obj o=false:=by unfold obj;simp;omega
 have HA:=hid (fun W=>oJ hA W);have HB:=hid (fun W=>oZ hB W);have t1:(o==1)=false:=beq_eq_false_iff_ne.2 bT;have t2:(o==2)=false:=beq_eq_false_iff_ne.2 bT;have t3:(o==3)=false:=beq_eq_false_iff_ne.2 bT;have t25:(o==25)=false:=beq_eq_false_iff_ne.2 bT;have t26:(o==26)=false:=beq_eq_false_iff_ne.2 bT;have u3:(o != 3)=true:=bne_iff_ne.2 bT;have v3:¬o=3:=by omega
 have hkn:known true o=true:=by unfold known;rw[hA];rw[decide_eq_true hA1];simp;omega
 have hnm:named true o=false:=by unfold named;rw[hB];simp
 have hct:counted true o=false:=by unfold counted;rw[hB];simp;omega
 have hnb:numbered true o=false:=by unfold numbered;rw[hct];simp;omega
 by_cases hs0:bs s=[]
 rotate_left
 · have e0:=zt hs0;have HV:=hid (show nd true o (bs s) n m=1 from zO hnm hs0);exact NJ
 have e0:=zw hs0;by_cases hn0:n=0;rotate_left
 · have f0:(n==0)=false:=beq_eq_false_iff_ne.2 hn0;have HV:=hid (show nd true o (bs s) n m=1 from L9 hnb hn0);rw[HV.out,if_neg bR];clear hkn hnm hct hnb hA hB hn0 hs0;exact Uq
 subst hn0;by_cases fq:(m:Int)=A;rotate_left
 · have g0:((m:Int)==A)=false:=beq_eq_false_iff_ne.2 fq;have g1:((m:Int) != A)=true:=bne_iff_ne.2 fq;have HV:=hid (show nd true o (bs s) 0 m=1 from w_ hA fq);exact NJ
 subst fq;have hfair:=wZ (s:=bs s) (n:=0) (m:=m) hkn hnm hnb hA (.inr hs0) (.inr rfl) rfl;have hR:eG true o 0=false:=by unfold eG;rw[hct];simp;omega
 rw[hfair.trans (show _=(0:Int) by rw[hR];rfl),if_pos rfl];clear hkn hnm hct hnb hA hB hfair hs0 hR;go_enter Tryz.func22,Tryz.ntmps22;go_wp2_with (first|(go_at_call 43;refine(HA.out _).mono ?_;rintro e w1 ⟨rfl,rfl⟩)|(go_at_call 44;refine(HB.out _).mono ?_;rintro e w1 ⟨rfl,rfl⟩))
 go_quiet (fail)
 go_wp2_with fail;go_loopw [10] (fun i wr=>∃k:Nat,k<=m/\Hid (bad true (eD (l.take k))=0)/\i=.int .i64 (k:Nat)/\Hid (Below w.heap.size w wr)/\Hid (dR wr w.heap.size o s 0 p m c)) (fun i _=>m-(intOf i).toNat)
 case atStart=>exact⟨0,Nat.zero_le _,hid yc,rfl,hid bl,hid f_⟩
 case round=>
  obtain⟨k,hk,HT0,rfl,HW,ig⟩:=hrel;obtain⟨b0,b1,b2,b3⟩:=ig.out;have k0:(0:Int)<=(k:Int):=by omega
  rcases Nat.lt_or_ge k m with h|h
  · have k1:(k:Int)<(m:Int):=by omega
    obtain⟨b,o',rfl,-,hG,hcell⟩:=HH.out.kids bT;have hkl:k<l.length:=by rw[HL.out];omega
    obtain⟨q,j,c',hc4,eH⟩:=hcell.out k hkl;have hmem:l[k]∈l:=List.getElem_mem hkl;have hgx:l[k]?=some l[k]:=List.getElem?_eq_getElem hkl;obtain⟨x,hx⟩:∃x,l[k]=x:=⟨_,rfl⟩
    rw[hx] at hc4 eH hmem hgx;obtain⟨e0,e1,e2,e3⟩:=hc4.on HW.out hG;have mO:=hid eH;have HX:=hid hgx;have HM:=hid hmem;clear hcell hc4 eH hx hmem hgx hkl;have Gp:=hid (JY (c:=true) HX.out HT0.out);have HE:=hid (Gy (c:=true) HX.out HT0.out);have HI1:=HI.out x HM.out q j c' wr (mO.out.on HW.out) (HS.out.kid HM.out);obtain⟨E,hE⟩:∃E,bad true (pre x)=E:=⟨_,rfl⟩
    exact adi
  · exact adj
end Ex
end Go.Proofs.YtkpekhpgdajabaaGreatDoor
