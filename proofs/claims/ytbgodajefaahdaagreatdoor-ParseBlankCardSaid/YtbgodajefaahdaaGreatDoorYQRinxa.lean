/-
  Parts of this proof: The contract of the reference's sameInts.
-/
import Derived.Test.YtbgodajefaahdaaGreatDoorYEBasexa
import Derived.Test.YtbgodajefaahdaaGreatDoorYQMathxa
import Derived.Test.YtbgodajefaahdaaGreatDoorYQClo
set_option linter.unusedVariables false
open Go.Lib (hid)
namespace Go.Proofs.YtbgodajefaahdaaGreatDoor
namespace Md
open Go.RowKit
open Ex (Lo Gives iB)
open Sm (Ints)
set_option maxHeartbeats 2000000
set_option maxRecDepth 100000 in
theorem aqs {l l2:List Int} {p p2:Option Addr} {m m2 c c2:Nat} {w:World} (hl:Hid (Ints (Lo w.heap.size) w l p m)) (hl2:Hid (Ints (Lo w.heap.size) w l2 p2 m2)) :
 Calls Tryz.prog 49 #[.slice p m c,.slice p2 m2 c2] w (Gives (.bool (dC dG l l2)) w):=by
 obtain⟨hlm,hm,-⟩:=hl.out;obtain⟨kM,hm2,-⟩:=hl2.out;have HL:=hid hlm;have HL2:=hid kM;have t3:(m:Int)<=9223372036854775807:=by omega
 by_cases hmm:m=m2;rotate_left 1
 · have HN:=hid (r_ (f:=dG) (l:=l) (m:=l2) (by omega));have u1:((m:Int)==(m2:Int))=false:=beq_eq_false_iff_ne.2 (by omega);have u2:((m:Int) != (m2:Int))=true:=bne_iff_ne.2 (by omega);have u3:(m==m2)=false:=beq_eq_false_iff_ne.2 hmm;have u4:(m != m2)=true:=bne_iff_ne.2 hmm;clear hlm hm kM hm2 t3;go_enter Tryz.func49,Tryz.ntmps49;go_wp2_with fail;go_ret;exact⟨by rw[HN.out];rfl,bl⟩
 subst hmm;clear hlm hm kM hm2;go_enter Tryz.func49,Tryz.ntmps49;go_wp2_with fail;go_loopw [5] (fun i wr=>∃k:Nat,k<=m/\i=.int .i64 (k:Nat)/\Hid (Below w.heap.size w wr)/\Hid (dC dG (l.take k) (l2.take k)=true)) (fun i _=>m-(intOf i).toNat)
 case atStart=>exact⟨0,Nat.zero_le _,rfl,hid (Below.refl _ _),hid rfl⟩
 case round=>
  obtain⟨k,hk,rfl,HW,HA⟩:=hrel;have k0:(0:Int)<=(k:Int):=by omega
  rcases Nat.lt_or_ge k m with h|h
  · have k1:(k:Int)<(m:Int):=by omega
    have hkl:k<l.length:=by rw[HL.out];exact h
    have dM:k<l2.length:=by rw[HL2.out];exact h
    have HX:=hid (List.getElem?_eq_getElem hkl);have dV:=hid (List.getElem?_eq_getElem dM);obtain⟨b,o,rfl,gD,hG,hc⟩:=(Ints.on HW.out hl.out).2.2.resolve_left (by omega);obtain⟨b2,o2,rfl,pV,hG2,hc2⟩:=(Ints.on HW.out hl2.out).2.2.resolve_left (by omega);have e1:=hc.out k hkl;have e2:=hc2.out k dM;obtain⟨x,hx⟩:∃x,l[k]=x:=⟨_,rfl⟩
    obtain⟨y,hy⟩:∃y,l2[k]=y:=⟨_,rfl⟩
    rw[hx] at HX e1;rw[hy] at dV e2;clear hx hy;clear hc hc2 hkl dM
    cases hr:dG x y
    · have H:=hid (pU HX.out dV.out hr);have qx:¬x=y:=of_decide_eq_false hr;have q1:(x==y)=false:=beq_eq_false_iff_ne.2 qx;have q2:(x != y)=true:=bne_iff_ne.2 qx;clear hr;go_wp2_with fail
      go_quiet (fail)
      go_wp2_with fail;go_ret;exact⟨iB H.out.symm,by have bU:=HW.out;exact bl⟩
    · have H:=hid (vk HX.out dV.out HA.out hr);have qx:x=y:=of_decide_eq_true hr;have q1:(x==y)=true:=beq_iff_eq.2 qx;have q2:(x != y)=false:=by rw[bne,q1];rfl
      clear hr;go_wp2_with fail
      go_quiet (fail)
      go_wp2_with fail;go_roundw
      case rel=>exact⟨k+1,by omega,by go_num,hid (by have bU:=HW.out;exact bl),H⟩
      case measure=>simp[intOf];omega
  · obtain rfl:m=k:=by omega
    have HT:=hid (show dC dG l l2=true by have h1:=HA.out;rwa [List.take_of_length_le (by rw[HL.out];exact Nat.le_refl _),List.take_of_length_le (by rw[HL2.out];exact Nat.le_refl _)] at h1);go_wp2_with fail;go_ret;exact⟨iB HT.out.symm,HW.out⟩
end Md
end Go.Proofs.YtbgodajefaahdaaGreatDoor
