/-
  Parts of this proof: The contracts of checkSchedule and checkResource. The contract of the reference's Keyword. The contract of the law's upto.
-/
import Derived.Test.YtbgodajefaahdaaGreatDoorZQScp
import Derived.Test.YtbgodajefaahdaaGreatDoorZTUpt
import Derived.Test.YtbgodajefaahdaaGreatDoorZQEach
import Derived.Test.YtbgodajefaahdaaGreatDoorZPRSame
set_option linter.unusedVariables false
open Go.Lib (hid)
namespace Go.Proofs.YtbgodajefaahdaaGreatDoor.Md
open Go.RowKit Go.Maps
open Go.Proofs.YtbgodajefaahdaaGreatDoor.Sm (orE orE_no orE_yes orE_right orE_assoc)
open Go.Proofs.YtbgodajefaahdaaGreatDoor.Ex (Lo Gives take_one ret_int)
set_option maxHeartbeats 4000000
def lastC:Option Chg->List Chg->Option Chg
 | p,[]=>p
 | _,c::t=>lastC (some c) t
theorem lastC_snoc:∀{p:Option Chg} {a:List Chg} {x:Chg},lastC p (a++[x])=some x
 | p,[],x=>rfl
 | p,c::t,x=>by rw[List.cons_append,lastC];exact lastC_snoc
theorem chgL_snoc {cy:Int}:∀{p:Option Chg} {a:List Chg} {x:Chg},chgL cy p (a++[x])=orE (chgL cy p a) (chgE cy (lastC p a) x)
 | p,[],x=>by
  show orE (chgE cy p x) (chgL cy (some x) [])=orE 0 (chgE cy p x)
  rw[orE_yes];exact orE_right _
 | p,c::t,x=>by rw[List.cons_append,chgL,chgL,chgL_snoc,orE_assoc];rfl
theorem chgL_app {cy:Int}:∀{p:Option Chg} {a b:List Chg},chgL cy p (a++b)=orE (chgL cy p a) (chgL cy (lastC p a) b)
 | p,[],b=>orE_yes.symm
 | p,c::t,b=>by rw[List.cons_append,chgL,chgL,chgL_app,orE_assoc];rfl
def prevC (l:List Chg) (k:Nat):Option Chg:=lastC none (l.take k)
theorem prev_succ {l:List Chg} {j:Nat} {y:Chg} (h:l[j]?=some y):prevC l (j+1)=some y:=by unfold prevC;rw[take_one h,lastC_snoc]
theorem chgL_next {cy:Int} {l:List Chg} {k:Nat} {x:Chg} (hx:l[k]?=some x) (h:chgL cy none (l.take k)=0) (h1:chgE cy (prevC l k) x=0):chgL cy none (l.take (k+1))=0:=by
 rw[take_one hx,chgL_snoc,h,orE_yes];exact h1
theorem chgL_stop {cy:Int} {l:List Chg} {k:Nat} {x:Chg} (hx:l[k]?=some x) (h:chgL cy none (l.take k)=0) (h1:¬chgE cy (prevC l k) x=0):chgL cy none l=chgE cy (prevC l k) x:=by
 obtain⟨hk,e⟩:=List.getElem?_eq_some_iff.1 hx;have h2:=List.take_append_drop k l;rw[List.drop_eq_getElem_cons hk,e] at h2;have h3:=chgL_app (cy:=cy) (p:=none) (a:=l.take k) (b:=x::l.drop (k+1));rw[h2,h,orE_yes,chgL] at h3;rw[h3];exact orE_no h1
theorem zEW_0 {p:Prop} (h:p:=by
 go_wp2_with fail;go_ret;exact⟨ret_int HN.out.symm,by have HBB:=HW.out;exact bl⟩
 ):p:=h
theorem zEW_1 {p:Prop} (h:p:=by
 go_enter Tryz.func159,Tryz.ntmps159;go_wp2_with fail;go_ret;exact⟨rfl,bl⟩
 ):p:=h
set_option maxRecDepth 100000 in
theorem checkSchedule_any (l:List Chg) (p:Option Addr) (m c:Nat) (cy:Int) (w:World) (hl:Rw 2 RChg (Lo w.heap.size) w l p m):Calls Tryz.prog 159 #[.slice p m c,.int .i64 cy] w (Gives (.int .i64 (schE l cy)) w):=by
 have HH:=hid hl;obtain⟨hlm,hm⟩:=hl.len;have HL:=hid hlm;clear hl;by_cases hm0:m=0
 · subst hm0;by_cases hc:cy=0
   · subst hc;rw[show schE l 0=0 by unfold schE;rw[hlm];rfl];clear hlm hm;exact zEW_1
   · have c1:(cy==0)=false:=beq_eq_false_iff_ne.2 hc;rw[show schE l cy=1 by unfold schE;rw[hlm,if_pos rfl,if_neg hc]];clear hlm hm hc;exact zEW_1
 have e1:((m:Int)==0)=false:=beq_eq_false_iff_ne.2 (by omega);by_cases h20:20<m
 · have e2:decide ((20:Int)<(m:Int))=true:=decide_eq_true (by omega);have e3:(20:Int)<(m:Int):=by omega
   rw[show schE l cy=6 by unfold schE;rw[hlm,if_neg hm0,if_pos h20]];clear hlm hm hm0 h20;exact zEW_1
 have e2:decide ((20:Int)<(m:Int))=false:=decide_eq_false (by omega);have e3:(m:Int)<=20:=by omega
 obtain⟨r,hr⟩:∃r,btw 1 cy 1000000000=r:=⟨_,rfl⟩
 have CB:=hid (fun W=>between_gives hr W);have HE:Hid (schE l cy=if r then chgL cy none l else 2):=hid (by unfold schE;rw[hlm,if_neg hm0,if_neg h20,hr])
 cases r with
 | false=>
  rw[show schE l cy=2 from HE.out];clear hlm hm hm0 h20 hr;go_enter Tryz.func159,Tryz.ntmps159;go_wp2_with fail;refine(CB.out _).mono ?_;rintro e w2 ⟨rfl,rfl⟩;go_wp2_with fail;go_ret;exact⟨rfl,bl⟩
 | true=>
  rw[show schE l cy=chgL cy none l from HE.out];have hcy:1<=cy/\cy<=1000000000:=by
   unfold btw at hr
   simpa using hr
  have cy1:=hcy.1;have cy2:=hcy.2;clear hlm hm hm0 h20 hr hcy;go_enter Tryz.func159,Tryz.ntmps159;go_wp2_with fail;refine(CB.out _).mono ?_;rintro e w2 ⟨rfl,rfl⟩;go_wp2_with fail;go_loopw [29] (fun i wr=>∃k:Nat,k<=m/\i=.int .i64 (k:Nat)/\Hid (Below w.heap.size w wr)/\Hid (chgL cy none (l.take k)=0)) (fun i _=>m-(intOf i).toNat)
  case atStart=>exact⟨0,Nat.zero_le _,rfl,hid bl,hid rfl⟩
  case round=>
   obtain⟨k,hk,rfl,HW,HA⟩:=hrel;have k0:(0:Int)<=(k:Int):=by omega
   rcases Nat.lt_or_ge k m with h|h
   · have k1:(k:Int)<(m:Int):=by omega
     have hkl:k<l.length:=by rw[HL.out];exact h
     have hgx:=List.getElem?_eq_getElem hkl;obtain⟨b,o,rfl,hbG,hG,hcell⟩:=(HH.out.below RChg.map HW.out).rows (by omega);obtain⟨d,hds,hat,hR⟩:=hcell.out k hkl;have HCL:=hcell;obtain⟨x,hx⟩:∃x,l[k]=x:=⟨_,rfl⟩
     rw[hx] at hgx hR;have a0:=hat.get (r:=0) (v:=.int .i64 x.t) (by rw[hR];rfl);have a1:=hat.get (r:=1) (v:=.int .i64 x.u) (by rw[hR];rfl);rw[show o+k*2+0=o+k*2 by omega] at a0;have HX:=hid hgx;have HG:=hid hG;obtain⟨q1,hq1⟩:∃r,btw 0 x.t (cy-1)=r:=⟨_,rfl⟩
     obtain⟨q2,hq2⟩:∃r,isU x.u=r:=⟨_,rfl⟩
     have C1:=hid (fun W=>between_gives hq1 W);have C2:=hid (fun W=>(show Calls Tryz.prog 158 #[.int .i64 x.u] W (Stay (.bool q2) W) by rw[← hq2];exact isUnits_any _ W));have HEx:Hid (∀pr,chgE cy pr x=if q1&&q2 then (match pr with|none=>0|some d=>if x.t<=d.t then 12 else 0) else 2):=hid (fun pr=>by unfold chgE;rw[hq1,hq2];cases pr <;> rfl);clear hcell hds hat hR hgx hx hkl hq1 hq2
     cases q1 with
     | false=>
      have HN:=hid (chgL_stop HX.out HA.out (by rw[HEx.out];simp));rw[show chgE cy (prevC l k) x=2 by rw[HEx.out];rfl] at HN;clear HEx;go_wp2_with fail;refine(C1.out _).mono ?_;rintro e w3 ⟨rfl,rfl⟩;exact zEW_0
     | true=>
      cases q2 with
      | false=>
       have HN:=hid (chgL_stop HX.out HA.out (by rw[HEx.out];simp));rw[show chgE cy (prevC l k) x=2 by rw[HEx.out];rfl] at HN;clear HEx;go_wp2_with fail;refine(C1.out _).mono ?_;rintro e w3 ⟨rfl,rfl⟩;go_wp2_with fail;refine(C2.out _).mono ?_;rintro e w3 ⟨rfl,rfl⟩;exact zEW_0
      | true=>
       rcases Nat.eq_zero_or_pos k with hk0|hk0
       · subst hk0;rw[show o+0*2=o by omega] at a0 a1;have HN:=hid (chgL_next HX.out HA.out (by rw[HEx.out];rfl));clear HEx;go_wp2_with fail;refine(C1.out _).mono ?_;rintro e w3 ⟨rfl,rfl⟩;go_wp2_with fail;refine(C2.out _).mono ?_;rintro e w3 ⟨rfl,rfl⟩;go_wp2_with fail
         go_quiet (fail)
         go_wp2_with fail;go_roundw
         case rel=>exact⟨0+1,by omega,by go_num,hid (by have HBB:=HW.out;exact bl),HN⟩
         case measure=>simp[intOf];omega
       · obtain⟨j,hj⟩:∃j,k=j+1:=⟨k-1,by omega⟩
         have hjl:j<l.length:=by rw[HL.out];omega
         obtain⟨d,hds,hat,hR⟩:=HCL.out j hjl;have hgy:=List.getElem?_eq_getElem hjl;obtain⟨y,hy⟩:∃y,l[j]=y:=⟨_,rfl⟩
         rw[hy] at hgy hR;have f0:=hat.get (r:=0) (v:=.int .i64 y.t) (by rw[hR];rfl);rw[show o+j*2+0=o+j*2 by omega] at f0;have HP:Hid (prevC l k=some y):=hid (by rw[hj];exact prev_succ hgy);have HO:Hid (k=j+1):=hid hj;have g1:(k:Int)-1=(j:Int):=by omega
         have g2:(0:Int)<=(j:Int):=by omega
         have g3:(j:Int)<(m:Int):=by omega
         have g4:IntKind.i64.wrap (j:Int)=(j:Int):=by rw[IntKind.wrap_i64];omega
         have g5:decide ((0:Int)<(k:Int))=true:=decide_eq_true (by omega);have g6:decide (0<k)=true:=decide_eq_true hk0;clear hjl hds hat hR hgy hy hj HCL;by_cases hxy:x.t<=y.t
         · have HN:=hid (chgL_stop HX.out HA.out (by rw[HEx.out,HP.out];simp[hxy]));rw[show chgE cy (prevC l k) x=12 by rw[HEx.out,HP.out];exact if_pos hxy] at HN;have g7:=decide_eq_true hxy;clear HEx HP;go_wp2_with fail;refine(C1.out _).mono ?_;rintro e w3 ⟨rfl,rfl⟩;go_wp2_with fail;refine(C2.out _).mono ?_;rintro e w3 ⟨rfl,rfl⟩;go_wp2_with fail
           go_quiet (fail)
           exact zEW_0
         · have HN:=hid (chgL_next HX.out HA.out (by rw[HEx.out,HP.out];exact if_neg hxy));have g7:=decide_eq_false hxy;clear HEx HP;go_wp2_with fail;refine(C1.out _).mono ?_;rintro e w3 ⟨rfl,rfl⟩;go_wp2_with fail;refine(C2.out _).mono ?_;rintro e w3 ⟨rfl,rfl⟩;go_wp2_with fail
           go_quiet (fail)
           go_wp2_with fail;go_roundw
           case rel=>exact⟨k+1,by omega,by go_num,hid (by have HBB:=HW.out;exact bl),HN⟩
           case measure=>simp[intOf];omega
   · obtain rfl:m=k:=by omega
     have HT:=hid (show chgL cy none l=0 by have h1:=HA.out;rwa [List.take_of_length_le (by rw[HL.out];exact Nat.le_refl _)] at h1);go_wp2_with fail;go_ret;exact⟨ret_int HT.out.symm,HW.out⟩
end Go.Proofs.YtbgodajefaahdaaGreatDoor.Md
namespace Go.Proofs.YtbgodajefaahdaaGreatDoor.Na
open Go.RowKit
set_option maxHeartbeats 2000000
def mkS (l:List UInt8):ByteArray:=⟨l.toArray⟩
theorem bs_mk (l:List UInt8):bs (mkS l)=l:=rfl
end Go.Proofs.YtbgodajefaahdaaGreatDoor.Na
namespace Go.Proofs.YtbgodajefaahdaaGreatDoor.Ps
open Go.RowKit
open Go.Proofs.YtbgodajefaahdaaGreatDoor.Lx (bs bs_inj bs_len mkS bs_mk head_mk)
open Go.Proofs.YtbgodajefaahdaaGreatDoor.Na (byte_is)
open Go.Proofs.YtbgodajefaahdaaGreatDoor.Ex (Gives)
set_option maxHeartbeats 1000000
theorem upT_step {l:List UInt8} {k:Nat} (hk:k<l.length) (m:Int):upT (l.drop k) m=if l[k]=10 then (if m-1=0 then [] else l[k]::upT (l.drop (k+1)) (m-1)) else l[k]::upT (l.drop (k+1)) m:=by
 rw[List.drop_eq_getElem_cons hk,upT]
theorem up_next {l:List UInt8} {k:Nat} (hk:k<l.length) {n m:Int} (h:upT l n=l.take k++upT (l.drop k) m) (g:¬l[k]=10):upT l n=l.take (k+1)++upT (l.drop (k+1)) m:=by
 rw[h,upT_step hk,if_neg g,List.take_succ_eq_append_getElem hk,List.append_assoc];rfl
theorem up_feed {l:List UInt8} {k:Nat} (hk:k<l.length) {n m:Int} (h:upT l n=l.take k++upT (l.drop k) m) (g:l[k]=10) (hm:¬m-1=0):upT l n=l.take (k+1)++upT (l.drop (k+1)) (m-1):=by
 rw[h,upT_step hk,if_pos g,if_neg hm,List.take_succ_eq_append_getElem hk,List.append_assoc];rfl
theorem up_last {l:List UInt8} {k:Nat} (hk:k<l.length) {n m:Int} (h:upT l n=l.take k++upT (l.drop k) m) (g:l[k]=10) (hm:m-1=0):upT l n=l.take k:=by
 rw[h,upT_step hk,if_pos g,if_pos hm,List.append_nil]
theorem up_all {l:List UInt8} {n m:Int} (h:upT l n=l.take l.length++upT (l.drop l.length) m):upT l n=l:=by
 rw[h,List.take_length,List.drop_length,upT,List.append_nil]
set_option maxRecDepth 100000 in
theorem upto_any (s:ByteArray) (n:Int) (w:World) (hs:s.size<=1000000000) (h1:1<=n) (h2:n<=1000000000000):Calls Tryz.prog 10 #[.string s,.int .i64 n] w (Gives (.string (mkS (upT (bs s) n))) w):=by
 have hs':(s.size:Int)<=9223372036854775807:=by omega
 have H0:Hid (upT (bs s) n=(bs s).take 0++upT ((bs s).drop 0) n):=hid (by simp);obtain⟨U,hU⟩:∃U,upT (bs s) n=U:=⟨_,rfl⟩
 have HU:=hid hU;rw[hU] at H0 ⊢;clear hU;go_enter Tryz.func10,Tryz.ntmps10;go_wp2_with fail;go_loop [1,5] (fun vn vi=>∃(k:Nat) (m:Int),k<=s.size/\vi=.int .i64 (k:Nat)/\vn=.int .i64 m/\1<=m/\m<=1000000000000/\Hid (U=(bs s).take k++upT ((bs s).drop k) m)) (fun vn vi=>s.size-(intOf vi).toNat)
 case atStart=>exact⟨0,n,Nat.zero_le _,rfl,rfl,h1,h2,H0⟩
 case round=>
  obtain⟨k,m,hk,rfl,rfl,m1,m2,HG⟩:=hrel;clear H0 h1 h2;have d1:(0:Int)<=(k:Int):=by omega
  rcases Nat.lt_or_ge k s.size with h|h
  · have hks:k<(bs s).length:=by rw[bs_len];exact h
    have d2:(k:Int)<(s.size:Int):=by omega
    have c4:(k:Int)<=(s.size:Int):=by omega
    by_cases g:(bs s)[k]=10
    · have q:(((s[k]).toNat:Int)==10)=true:=beq_iff_eq.2 ((byte_is (n:=10) (by decide)).1 g);have hw:IntKind.i64.wrap (m-1)=m-1:=by rw[IntKind.wrap_i64];omega
      by_cases gm:m-1=0
      · have HL:Hid (mkS U=s.extract 0 k):=hid (by rw[← HU.out,up_last hks (HU.out.trans HG.out) g gm,head_mk]);obtain rfl:m=1:=by omega
        clear HG HU g gm;go_wp2_with fail;go_ret;exact⟨by rw[HL.out];rfl,Below.refl _ _⟩
      · have HN:=hid (HU.out.symm.trans (up_feed hks (HU.out.trans HG.out) g gm));have q2:((m-1)==0)=false:=beq_eq_false_iff_ne.2 gm;have gm2:1<=m-1:=by omega
        clear HG g gm;go_wp2_with fail;go_round
        case rel=>exact⟨k+1,m-1,by omega,by go_num,by first|rfl|go_num,by omega,by omega,HN⟩
        case measure=>simp[intOf];omega
    · have q:(((s[k]).toNat:Int)==10)=false:=beq_eq_false_iff_ne.2 (fun e=>g ((byte_is (n:=10) (by decide)).2 e));have HN:=hid (HU.out.symm.trans (up_next hks (HU.out.trans HG.out) g));clear HG g;go_wp2_with fail;go_round
      case rel=>exact⟨k+1,m,by omega,by go_num,rfl,m1,m2,HN⟩
      case measure=>simp[intOf];omega
  · obtain rfl:k=s.size:=by omega
    have HL:Hid (mkS U=s):=hid (by
     have e:=HU.out.trans HG.out;rw[← bs_len] at e;exact bs_inj (by rw[bs_mk,← HU.out];exact up_all e))
    have d3:decide ((s.size:Int)<(s.size:Int))=false:=decide_eq_false (by omega);clear HG HU h;go_wp2_with fail;go_ret;exact⟨by rw[HL.out];rfl,Below.refl _ _⟩
end Go.Proofs.YtbgodajefaahdaaGreatDoor.Ps
