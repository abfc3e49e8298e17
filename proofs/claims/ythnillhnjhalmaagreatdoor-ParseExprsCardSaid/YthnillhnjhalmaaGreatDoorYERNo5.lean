/-
  Parts of this proof: The reference's check of a node, by forms.
-/
import Derived.Test.YthnillhnjhalmaaGreatDoorYERNod
open Go.Lib renaming hid->ae
set_option linter.unusedVariables false
set_option maxRecDepth 100000
set_option maxHeartbeats 4000000
open Go.Lib (hid)
namespace Go.Proofs.YthnillhnjhalmaaGreatDoor
namespace Ex
open Go.RowKit
open Na (bs)
set_option linter.unusedSimpArgs false
theorem Vx {p:Prop} (h:p:=by
 exact CG
 ):p:=h
theorem ayn {p:Prop} (h:p:=by
 exact afs
 ):p:=h
theorem anU (l:List Ex) (ih:nL true l) (o:Int) (h22:22<=o) (h24:o<=24) (s:ByteArray) (n:Int) (p:Option Addr) (m c:Nat) (w:World) (h:In w (.mk o s n l) p m) (hs:Sz (.mk o s n l)):Calls Tryz.prog 79 #[.agg #[.int .i64 (o),.string s,.int .i64 n,.slice p m c],.bool true] w (Gives (.int .i64 (bad true (pre (.mk o s n l)))) w):=by
 have HH:=ae h;have HI:=ae ih;obtain⟨hl,hm⟩:=h.len;have HL:=ae hl;have HS:=ae hs;have hsz:=hs.self;rw[pg,hl];clear ih h hl hs;obtain⟨A,hA⟩:∃A,gT o=A:=⟨_,rfl⟩
 have hA1:0<=A:=by unfold gT at hA;split at hA <;> (try split at hA) <;> (try split at hA) <;> omega
 have hB:obj o=true:=by unfold obj;simp;omega
 have HA:=ae (fun W=>oZ hA W);have HB:=ae (fun W=>pK hB W);have t1:(o==1)=false:=beq_eq_false_iff_ne.2 bU;have t2:(o==2)=false:=beq_eq_false_iff_ne.2 bU;have t3:(o==3)=false:=beq_eq_false_iff_ne.2 bU;have t25:(o==25)=false:=beq_eq_false_iff_ne.2 bU;have t26:(o==26)=false:=beq_eq_false_iff_ne.2 bU;have u3:(o != 3)=true:=bne_iff_ne.2 bU;have v3:¬o=3:=by omega
 have hkn:known true o=true:=by unfold known;rw[hA];rw[decide_eq_true hA1];simp;omega
 have hnm:named true o=false:=by unfold named;rw[hB];simp
 have hct:counted true o=true:=by unfold counted;rw[hB];simp
 have hnb:numbered true o=true:=by unfold numbered;rw[hct];simp
 by_cases hs0:bs s=[]
 rotate_left
 · have e0:=Ap hs0;have HV:=ae (show nd true o (bs s) n m=1 from AP hnm hs0);rw[HV.out,if_neg bS];clear hkn hnm hct hnb hA hB hs0;exact Vx
 have e0:=Aq hs0;by_cases fH:(m:Int)=A;rotate_left
 · have g0:((m:Int)==A)=false:=beq_eq_false_iff_ne.2 fH;have g1:((m:Int) != A)=true:=bne_iff_ne.2 fH;have HV:=ae (show nd true o (bs s) n m=1 from xS hA fH);rw[HV.out,if_neg bS];clear hkn hnm hct hnb hA hB hs0;exact Vx
 subst fH;have hfair:=xR (s:=bs s) (n:=n) (m:=m) hkn hnm hnb hA (.inr hs0) (.inl rfl) rfl;obtain⟨M,hM⟩:∃M,most o=M:=⟨_,rfl⟩
 have E_:=ae (fun W=>TH hM W);by_cases hn0:n<0
 · have f0:decide (n<0)=true:=decide_eq_true hn0;have hR:fG true o n=true:=by unfold fG;rw[hct,hM,decide_eq_true hn0];simp
   exact ayn
 have f0:decide (n<0)=false:=decide_eq_false hn0;by_cases hn1:M<n
 · have f1:decide (M<n)=true:=decide_eq_true hn1;have hR:fG true o n=true:=by unfold fG;rw[hct,hM,f0,f1];simp
   exact ayn
 have f1:decide (M<n)=false:=decide_eq_false hn1;have hR:fG true o n=false:=by unfold fG;rw[hct,hM,f0,f1];simp;omega
 rw[hfair.trans (show _=(0:Int) by rw[hR];rfl),if_pos rfl];clear hkn hnm hct hnb hA hB hfair hs0 hR hM;go_enter Tryz.func79,Tryz.ntmps79;go_wp2_with (first|(go_at_call 128;refine(HA.out _).mono ?_;rintro e w1 ⟨rfl,rfl⟩)|(go_at_call 129;refine(HB.out _).mono ?_;rintro e w1 ⟨rfl,rfl⟩))
 go_quiet ((go_at_call 131;exact Calls.quiet_of_same (E_.out _)))
 go_wp2_with fail;go_loopw [10] (fun i wr=>∃k:Nat,k<=m/\Hid (bad true (fA (l.take k))=0)/\i=.int .i64 (k:Nat)/\Hid (Below w.heap.size w wr)/\Hid (dW wr w.heap.size o s n p m c)) (fun i _=>m-(intOf i).toNat)
 case atStart=>exact⟨0,Nat.zero_le _,ae y7,rfl,ae bl,ae gK⟩
 case round=>
  obtain⟨k,hk,HT0,rfl,HW,iH⟩:=hrel;obtain⟨b0,b1,b2,b3⟩:=iH.out;have k0:(0:Int)<=(k:Int):=by omega
  rcases Nat.lt_or_ge k m with h|h
  · have k1:(k:Int)<(m:Int):=by omega
    obtain⟨b,o',rfl,-,hG,hcell⟩:=HH.out.kids bU;have hkl:k<l.length:=by rw[HL.out];omega
    obtain⟨q,j,c',hc4,dP⟩:=hcell.out k hkl;have hmem:l[k]∈l:=List.getElem_mem hkl;have hgx:l[k]?=some l[k]:=List.getElem?_eq_getElem hkl;obtain⟨x,hx⟩:∃x,l[k]=x:=⟨_,rfl⟩
    rw[hx] at hc4 dP hmem hgx;obtain⟨e0,e1,e2,e3⟩:=hc4.on HW.out hG;have ng:=ae dP;have HX:=ae hgx;have HM:=ae hmem;clear hcell hc4 dP hx hmem hgx hkl;have Ia:=ae (LP (c:=true) HX.out HT0.out);have HE:=ae (Io (c:=true) HX.out HT0.out);have HI1:=HI.out x HM.out q j c' wr (ng.out.on HW.out) (HS.out.kid HM.out);obtain⟨E,hE⟩:∃E,bad true (pre x)=E:=⟨_,rfl⟩
    exact Wn
  · exact Wu
theorem anO (l:List Ex) (ih:nL true l) (o:Int) (MX:26<o) (s:ByteArray) (n:Int) (p:Option Addr) (m c:Nat) (w:World) (h:In w (.mk o s n l) p m) (hs:Sz (.mk o s n l)):Calls Tryz.prog 79 #[.agg #[.int .i64 (o),.string s,.int .i64 n,.slice p m c],.bool true] w (Gives (.int .i64 (bad true (pre (.mk o s n l)))) w):=by
 have HH:=ae h;have HI:=ae ih;obtain⟨hl,hm⟩:=h.len;have HL:=ae hl;have HS:=ae hs;have hsz:=hs.self;rw[pg,hl];clear ih h hl hs;obtain⟨A,hA⟩:∃A,gT o=A:=⟨_,rfl⟩
 have hA1:A<0:=by unfold gT at hA;rw[if_pos bU] at hA;omega
 have hB:obj o=false:=by unfold obj;simp;omega
 have HA:=ae (fun W=>oZ hA W);have HB:=ae (fun W=>pK hB W);have t1:(o==1)=false:=beq_eq_false_iff_ne.2 bU;have t2:(o==2)=false:=beq_eq_false_iff_ne.2 bU;have t3:(o==3)=false:=beq_eq_false_iff_ne.2 bU;have t25:(o==25)=false:=beq_eq_false_iff_ne.2 bU;have t26:(o==26)=false:=beq_eq_false_iff_ne.2 bU;have u3:(o != 3)=true:=bne_iff_ne.2 bU;have v3:¬o=3:=by omega
 have hkn:known true o=false:=by unfold known;rw[hA];rw[decide_eq_false bU];rfl
 have HV:=ae (show nd true o (bs s) n m=1 from Gm hkn);rw[HV.out,if_neg bS];clear hkn hA hB;exact Vx
end Ex
namespace Ex
open Go.RowKit
open Na (bs)
set_option linter.unusedSimpArgs false
theorem ayh {p:Prop} (h:p:=by
 exact afs
 ):p:=h
theorem O8 {p:Prop} (h:p:=by
 rw[HV.out,if_neg bS];clear hkn hnm hct hnb hA hB hs0;exact CG
 ):p:=h
theorem aen {p:Prop} (h:p:=by
 exact Ws
 ):p:=h
theorem anY (l:List Ex) (ih:nL true l) (s:ByteArray) (n:Int) (p:Option Addr) (m c:Nat) (w:World) (h:In w (.mk (25) s n l) p m) (hs:Sz (.mk (25) s n l)):Calls Tryz.prog 79 #[.agg #[.int .i64 (25),.string s,.int .i64 n,.slice p m c],.bool true] w (Gives (.int .i64 (bad true (pre (.mk (25) s n l)))) w):=by
 have HH:=ae h;have HI:=ae ih;obtain⟨hl,hm⟩:=h.len;have HL:=ae hl;have HS:=ae hs;have hsz:=hs.self;rw[pg,hl];clear ih h hl hs;have hA:gT (25)=0:=rfl;have hB:obj (25)=false:=rfl;have HA:=ae (fun W=>oZ hA W);have HB:=ae (fun W=>pK hB W);have hkn:known true (25)=true:=rfl;have hnm:named true (25)=false:=rfl;have hct:counted true (25)=true:=rfl;have hnb:numbered true (25)=true:=rfl;by_cases hs0:bs s=[]
 rotate_left
 · have e0:=Ap hs0;have HV:=ae (show nd true (25) (bs s) n m=1 from AP hnm hs0);exact O8
 have e0:=Aq hs0;by_cases fH:(m:Int)=0;rotate_left
 · have g0:((m:Int)==0)=false:=beq_eq_false_iff_ne.2 fH;have g1:((m:Int) != 0)=true:=bne_iff_ne.2 fH;have HV:=ae (show nd true (25) (bs s) n m=1 from xS hA fH);exact O8
 obtain rfl:m=0:=by omega
 have hfair:=xR (s:=bs s) (n:=n) (m:=0) hkn hnm hnb hA (.inr hs0) (.inl rfl) rfl;obtain⟨M,hM⟩:∃M,most (25)=M:=⟨_,rfl⟩
 have E_:=ae (fun W=>TH hM W);by_cases hn0:n<0
 · have f0:decide (n<0)=true:=decide_eq_true hn0;have hR:fG true (25) n=true:=by unfold fG;rw[hct,hM,decide_eq_true hn0];simp
   exact ayh
 have f0:decide (n<0)=false:=decide_eq_false hn0;by_cases hn1:M<n
 · have f1:decide (M<n)=true:=decide_eq_true hn1;have hR:fG true (25) n=true:=by unfold fG;rw[hct,hM,f0,f1];simp
   exact ayh
 have f1:decide (M<n)=false:=decide_eq_false hn1;have hR:fG true (25) n=false:=by unfold fG;rw[hct,hM,f0,f1];simp
 rw[hfair.trans (show _=(0:Int) by rw[hR];rfl),if_pos rfl];clear hkn hnm hct hnb hA hB hfair hs0 hR hM;go_enter Tryz.func79,Tryz.ntmps79;go_wp2_with (first|(go_at_call 128;refine(HA.out _).mono ?_;rintro e w1 ⟨rfl,rfl⟩)|(go_at_call 129;refine(HB.out _).mono ?_;rintro e w1 ⟨rfl,rfl⟩))
 go_quiet ((go_at_call 131;exact Calls.quiet_of_same (E_.out _)))
 go_wp2_with fail;go_loopw [10] (fun i wr=>∃k:Nat,k<=0/\Hid (bad true (fA (l.take k))=0)/\i=.int .i64 (k:Nat)/\Hid (Below w.heap.size w wr)/\Hid (dW wr w.heap.size (25) s n p 0 c)) (fun i _=>0-(intOf i).toNat)
 case atStart=>exact⟨0,Nat.zero_le _,ae y7,rfl,ae bl,ae gK⟩
 case round=>
  exact aen
theorem an4 (l:List Ex) (ih:nL true l) (s:ByteArray) (n:Int) (p:Option Addr) (m c:Nat) (w:World) (h:In w (.mk (26) s n l) p m) (hs:Sz (.mk (26) s n l)):Calls Tryz.prog 79 #[.agg #[.int .i64 (26),.string s,.int .i64 n,.slice p m c],.bool true] w (Gives (.int .i64 (bad true (pre (.mk (26) s n l)))) w):=by
 have HH:=ae h;have HI:=ae ih;obtain⟨hl,hm⟩:=h.len;have HL:=ae hl;have HS:=ae hs;have hsz:=hs.self;rw[pg,hl];clear ih h hl hs;have hA:gT (26)=0:=rfl;have hB:obj (26)=false:=rfl;have HA:=ae (fun W=>oZ hA W);have HB:=ae (fun W=>pK hB W);have hkn:known true (26)=true:=rfl;have hnm:named true (26)=false:=rfl;have hct:counted true (26)=true:=rfl;have hnb:numbered true (26)=true:=rfl;by_cases hs0:bs s=[]
 rotate_left
 · have e0:=Ap hs0;have HV:=ae (show nd true (26) (bs s) n m=1 from AP hnm hs0);exact O8
 have e0:=Aq hs0;by_cases fH:(m:Int)=0;rotate_left
 · have g0:((m:Int)==0)=false:=beq_eq_false_iff_ne.2 fH;have g1:((m:Int) != 0)=true:=bne_iff_ne.2 fH;have HV:=ae (show nd true (26) (bs s) n m=1 from xS hA fH);exact O8
 obtain rfl:m=0:=by omega
 have hfair:=xR (s:=bs s) (n:=n) (m:=0) hkn hnm hnb hA (.inr hs0) (.inl rfl) rfl;obtain⟨M,hM⟩:∃M,most (26)=M:=⟨_,rfl⟩
 have E_:=ae (fun W=>TH hM W);by_cases hn0:n<0
 · have f0:decide (n<0)=true:=decide_eq_true hn0;have hR:fG true (26) n=true:=by unfold fG;rw[hct,hM,decide_eq_true hn0];simp
   exact ayh
 have f0:decide (n<0)=false:=decide_eq_false hn0;by_cases hn1:M<n
 · have f1:decide (M<n)=true:=decide_eq_true hn1;have hR:fG true (26) n=true:=by unfold fG;rw[hct,hM,f0,f1];simp
   exact ayh
 have f1:decide (M<n)=false:=decide_eq_false hn1;have hR:fG true (26) n=false:=by unfold fG;rw[hct,hM,f0,f1];simp
 rw[hfair.trans (show _=(0:Int) by rw[hR];rfl),if_pos rfl];clear hkn hnm hct hnb hA hB hfair hs0 hR hM;go_enter Tryz.func79,Tryz.ntmps79;go_wp2_with (first|(go_at_call 128;refine(HA.out _).mono ?_;rintro e w1 ⟨rfl,rfl⟩)|(go_at_call 129;refine(HB.out _).mono ?_;rintro e w1 ⟨rfl,rfl⟩))
 go_quiet ((go_at_call 131;exact Calls.quiet_of_same (E_.out _)))
 go_wp2_with fail;go_loopw [10] (fun i wr=>∃k:Nat,k<=0/\Hid (bad true (fA (l.take k))=0)/\i=.int .i64 (k:Nat)/\Hid (Below w.heap.size w wr)/\Hid (dW wr w.heap.size (26) s n p 0 c)) (fun i _=>0-(intOf i).toNat)
 case atStart=>exact⟨0,Nat.zero_le _,ae y7,rfl,ae bl,ae gK⟩
 case round=>
  exact aen
end Ex
end Go.Proofs.YthnillhnjhalmaaGreatDoor
