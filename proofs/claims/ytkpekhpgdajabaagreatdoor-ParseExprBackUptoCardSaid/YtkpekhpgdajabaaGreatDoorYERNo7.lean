/-
  Parts of this proof: The reference's check of a node, by forms.
-/
import Derived.Test.YtkpekhpgdajabaaGreatDoorYQRrk
set_option linter.unusedVariables false
set_option maxHeartbeats 4000000
open Go.Lib (hid)
namespace Go.Proofs.YtkpekhpgdajabaaGreatDoor
namespace Ex
open Go.RowKit
open Na (bs)
set_option linter.unusedSimpArgs false
theorem adm {p:Prop} (h:p:=by
 go_enter Tryz.func22,Tryz.ntmps22;go_wp2_with (first|(go_at_call 43;refine(HA.out _).mono ?_;rintro e w1 ⟨rfl,rfl⟩)|(go_at_call 44;refine(HB.out _).mono ?_;rintro e w1 ⟨rfl,rfl⟩))
 go_quiet (fail)
 go_wp2_with fail;go_loopw [10] (fun i wr=>∃k:Nat,k<=0/\Hid (bad true (eD (l.take k))=0)/\i=.int .i64 (k:Nat)/\Hid (Below w.heap.size w wr)/\Hid (dR wr w.heap.size o s n p 0 c)) (fun i _=>0-(intOf i).toNat)
 case atStart=>exact⟨0,Nat.zero_le _,hid yc,rfl,hid bl,hid f_⟩
 case round=>
  exact UK
 ):p:=h
theorem adn {p:Prop} (h:p:=by
 rw[HV.out,if_neg bR];clear hkn hnm hct hnb hA hB hs0 h2;exact BK
 ):p:=h
set_option maxRecDepth 100000 in
theorem amg (l:List Ex) (ih:nu true l) (o:Int) (h2:o=2) (s:ByteArray) (n:Int) (p:Option Addr) (m c:Nat) (w:World) (h:In w (.mk o s n l) p m) (hs:Sz (.mk o s n l)):Calls Tryz.prog 22 #[.agg #[.int .i64 o,.string s,.int .i64 n,.slice p m c],.bool true] w (Gives (.int .i64 (bad true (pre (.mk o s n l)))) w):=by
 have HH:=hid h;have HI:=hid ih;obtain⟨hl,hm⟩:=h.len;have HL:=hid hl;have HS:=hid hs;have hsz:=hs.self;rw[oM,hl];clear ih h hl hs;have hA:fH o=0:=by rw[h2];rfl
 have hB:obj o=false:=by rw[h2];rfl
 have t1:(o==1)=false:=by rw[h2];rfl
 have t2:(o==2)=true:=by rw[h2];rfl
 have t3:(o==3)=false:=by rw[h2];rfl
 have t25:(o==25)=false:=by rw[h2];rfl
 have t26:(o==26)=false:=by rw[h2];rfl
 have u3:(o != 3)=true:=by rw[h2];rfl
 have v3:¬o=3:=by omega
 have Jb:o<=24:=by omega
 have HA:=hid (fun W=>oJ hA W);have HB:=hid (fun W=>oZ hB W);have hkn:known true o=true:=by rw[h2];rfl
 have hnm:named true o=false:=by rw[h2];rfl
 have hct:counted true o=false:=by rw[h2];rfl
 have hnb:numbered true o=true:=by rw[h2];rfl
 by_cases hs0:bs s=[]
 rotate_left
 · have e0:=zt hs0;have HV:=hid (show nd true o (bs s) n m=1 from zO hnm hs0);exact adn
 have e0:=zw hs0;by_cases fq:(m:Int)=0;rotate_left
 · have g0:((m:Int)==0)=false:=beq_eq_false_iff_ne.2 fq;have g1:((m:Int) != 0)=true:=bne_iff_ne.2 fq;have HV:=hid (show nd true o (bs s) n m=1 from w_ hA fq);exact adn
 obtain rfl:m=0:=by omega
 have hfair:=wZ (s:=bs s) (n:=n) (m:=0) hkn hnm hnb hA (.inr hs0) (.inl rfl) rfl;by_cases hn0:n=0
 · have f0:(n==0)=true:=beq_iff_eq.2 hn0;have f2:(n != 0)=false:=by simp[bne,f0]
   have hR:eG true o n=false:=by rw[h2,hn0];rfl
   rw[hfair.trans (show _=(0:Int) by rw[hR];rfl),if_pos rfl];clear hkn hnm hct hnb hA hB hfair hs0 hR h2 hn0;exact adm
 by_cases hn1:n=1
 · have f0:(n==0)=false:=beq_eq_false_iff_ne.2 hn0;have f1:(n==1)=true:=beq_iff_eq.2 hn1;have f2:(n != 0)=true:=by simp[bne,f0]
   have f3:(n != 1)=false:=by simp[bne,f1]
   have hR:eG true o n=false:=by rw[h2,hn1];rfl
   rw[hfair.trans (show _=(0:Int) by rw[hR];rfl),if_pos rfl];clear hkn hnm hct hnb hA hB hfair hs0 hR hn0 hn1 h2;exact adm
 have f0:(n==0)=false:=beq_eq_false_iff_ne.2 hn0;have f1:(n==1)=false:=beq_eq_false_iff_ne.2 hn1;have f2:(n != 0)=true:=by simp[bne,f0]
 have f3:(n != 1)=true:=by simp[bne,f1]
 have hR:eG true o n=true:=by rw[h2];unfold eG;simp[hn0,hn1]
 exact adU
end Ex
end Go.Proofs.YtkpekhpgdajabaaGreatDoor
