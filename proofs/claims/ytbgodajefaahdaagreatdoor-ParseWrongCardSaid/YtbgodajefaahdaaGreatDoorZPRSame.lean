/-
  Parts of this proof: The contracts of the reference's Same and sameEx. The contracts of Join and Split, of the library .
-/
import Derived.Test.YtbgodajefaahdaaGreatDoorZPBase
import Derived.Test.YtbgodajefaahdaaGreatDoorZERSame
set_option linter.unusedVariables false
open Go.Lib (hid)
namespace Go.Proofs.YtbgodajefaahdaaGreatDoor.Sm
open Go.RowKit
open Go.Proofs.YtbgodajefaahdaaGreatDoor.Ex (Ex In Gives)
attribute [local go_sem] cs0 cs1 cs2 cs3 cs4 cs5 cs6 cs7 cs8 cs9 cs10 cs11 cs12 cs13 cs14 cs15 cs16 cs17 cs18 cs19 cs20
set_option maxHeartbeats 2000000
set_option maxRecDepth 100000 in
theorem rexprs_any (l:List Ex)
 (l2:List Ex) (p:Option Addr) (m c:Nat) (p2:Option Addr) (m2 c2:Nat) (w:World) (h:In w (.mk 0 nE 0 l) p m) (h2:In w (.mk 0 nE 0 l2) p2 m2) :
 Calls Tryz.prog 21 #[.slice p m c,.slice p2 m2 c2] w (Gives (.bool (Ex.sameL l l2)) w):=by
 have HH:=hid h;have HH2:=hid h2;obtain⟨hl,hm⟩:=h.len;obtain⟨hl2,hm2⟩:=h2.len;have HL:=hid hl;have HL2:=hid hl2;clear h h2 hl hl2;by_cases hmm:m=m2
 · subst hmm;go_enter Tryz.func21,Tryz.ntmps21;go_wp2_with fail;go_loopw [5] (fun i wr=>∃k:Nat,k<=m/\Hid (l.take k=l2.take k)/\i=.int .i64 (k:Nat)/\Hid (Below w.heap.size w wr)) (fun i _=>m-(intOf i).toNat)
   case atStart=>exact⟨0,Nat.zero_le _,hid rfl,rfl,hid bl⟩
   case round=>
    obtain⟨k,hk,HT0,rfl,HW⟩:=hrel;have k0:(0:Int)<=(k:Int):=by omega
    rcases Nat.lt_or_ge k m with h|h
    · have k1:(k:Int)<(m:Int):=by omega
      obtain⟨b,o',rfl,-,hG,hcell⟩:=HH.out.kids (by omega);have hkl:k<l.length:=by rw[HL.out];omega
      obtain⟨q,j,c',hc4,hkin⟩:=hcell.out k hkl;have hmem:l[k]∈l:=List.getElem_mem hkl;have hgx:l[k]?=some l[k]:=List.getElem?_eq_getElem hkl;obtain⟨x,hx⟩:∃x,l[k]=x:=⟨_,rfl⟩
      rw[hx] at hc4 hkin hmem hgx;obtain⟨e0,e1,e2,e3⟩:=hc4.on HW.out hG;have HKIN:=hid hkin;have HX:=hid hgx;have HM:=hid hmem;clear hcell hc4 hkin hx hmem hgx hkl;obtain⟨b',o'',rfl,-,hG',hcell'⟩:=HH2.out.kids (by omega);have hkl2:k<l2.length:=by rw[HL2.out];omega
      obtain⟨q',j',c'',hc4',hkin'⟩:=hcell'.out k hkl2;have hmem2:l2[k]∈l2:=List.getElem_mem hkl2;have hgx2:l2[k]?=some l2[k]:=List.getElem?_eq_getElem hkl2;obtain⟨y,hy⟩:∃y,l2[k]=y:=⟨_,rfl⟩
      rw[hy] at hc4' hkin' hmem2 hgx2;obtain⟨f0,f1,f2,f3⟩:=hc4'.on HW.out hG';have HKIN2:=hid hkin';have HX2:=hid hgx2;have HM2:=hid hmem2;clear hcell' hc4' hkin' hy hmem2 hgx2 hkl2;have HS:=hid (Ex.sameL_stop HX.out HX2.out);have HE:=hid (Ex.take_same HX.out HX2.out);have HI1:=hid (fun W=>Ex.rsame_any x y q j c' q' j' c'' W);obtain⟨E,hE⟩:∃E,Ex.same x y=E:=⟨_,rfl⟩
      rw[hE] at HI1 HS HE;clear hE;have hb1:b'<wr.heap.size:=Nat.lt_of_lt_of_le hG' HW.out.size;go_wp2_with fail;go_region_with (go_at_call 12;refine(HI1.out _ (HKIN.out.on (by have HBB:=HW.out;exact bl)) (HKIN2.out.on (by have HBB:=HW.out;exact bl))).mono ?_;rintro e w2 ⟨rfl,hb2⟩)
      all_goals
       have HW2:Hid (Below w.heap.size w w2):=hid (by have HBB:=HW.out;exact bl);clear hb2 HI1
       cases E with
       | true=>
        have HR:=hid (HE.out rfl HT0.out);go_wp2_with fail;go_roundw
        case rel=>exact⟨k+1,by omega,HR,by go_num,HW2⟩
        case measure=>simp[intOf];omega
       | false=>
        have HR:=hid (HS.out rfl);go_wp2_with fail;go_ret;exact⟨by rw[HR.out];rfl,HW2.out⟩
    · obtain rfl:m=k:=by omega
      have HR:Hid (Ex.sameL l l2=true):=hid (by
       have h1:=HT0.out;rw[List.take_of_length_le (by rw[HL.out];exact Nat.le_refl _),List.take_of_length_le (by rw[HL2.out];exact Nat.le_refl _)] at h1;rw[h1];exact Ex.sameL_self _)
      go_wp2_with fail;go_ret;exact⟨by rw[HR.out];rfl,HW.out⟩
 · rw[Ex.sameL_far (by rw[HL.out,HL2.out];exact hmm)];have t1:((m:Int)==(m2:Int))=false:=beq_eq_false_iff_ne.2 (by omega);have t2:((m:Int) != (m2:Int))=true:=bne_iff_ne.2 (by omega);clear hmm;go_enter Tryz.func21,Tryz.ntmps21;go_wp2_with fail;go_ret;exact⟨rfl,bl⟩
end Go.Proofs.YtbgodajefaahdaaGreatDoor.Sm
namespace Go.Proofs.YtbgodajefaahdaaGreatDoor.Na
open Go.RowKit
set_option maxHeartbeats 2000000
theorem byte_is {c:UInt8} {n:Nat} (hn:n<256):(c=UInt8.ofNat n)↔((c.toNat:Int)=(n:Int)):=by
 constructor
 · rintro rfl;rw[UInt8.toNat_ofNat'];omega
 · intro h
   apply UInt8.toNat_inj.1
   rw[UInt8.toNat_ofNat'];omega
end Go.Proofs.YtbgodajefaahdaaGreatDoor.Na
