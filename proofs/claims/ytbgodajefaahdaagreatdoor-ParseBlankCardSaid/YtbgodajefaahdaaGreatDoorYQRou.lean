/-
  Parts of this proof: The contracts of the library's Grow and Concat a.
-/
import Derived.Test.YtbgodajefaahdaaGreatDoorYQOwn
import Derived.Test.YtbgodajefaahdaaGreatDoorYECheckN
import Derived.Test.YtbgodajefaahdaaGreatDoorYQEach
open List renaming length_append->ae
set_option linter.unusedVariables false
open Go.Lib (hid)
namespace Go.Proofs.YtbgodajefaahdaaGreatDoor
namespace Md
open Go.RowKit Go.Maps
open Ex (Lo)
set_option maxHeartbeats 4000000
set_option maxRecDepth 100000 in
theorem amV (n:Nat) (w:World) (hn:n<=1000000):Calls Tryz.prog 190 #[.slice none 0 0,.int .i64 n] w fun e w'=>∃v,e=.returned v/\mI 179 2 dH w.heap.size w' v []/\Below w.heap.size w w':=by
 rcases Nat.eq_zero_or_pos n with h0|h0
 · subst h0;go_enter Tryz.func190,Tryz.ntmps190;go_wp2_with fail;go_ret;exact⟨_,rfl,mI.nil,Below.refl _ _⟩
 · obtain⟨i0,z0,hi0,hz0,hz1,hz3,hz2⟩:=ED.info;have hrun:=fun ty=>Lib.run_append_nil_zeros (P:=Tryz.prog) w 117 3 ty 179 i0 z0 .i64 .i64 Tryz.underlying117 Tryz.underlying3 hi0 hz0 n h0 (by omega) (by omega) (by
    have:=Nat.mul_le_mul (show n<=1000000 from hn) hz2;omega)
   have hG:=grownCap_ge w n 0 179;have hG2:=grownCap_le_maxLen w n 0 179 (by unfold maxLen;omega)
   generalize grownCap w n 0 179=G at hrun hG hG2;have hm:=World.ownsRow_made (base:=w.heap.size) (e:=179) (size:=2) w.drew (Builtin.zeroCells z0.cells n++Builtin.zeroCells z0.cells (G-n)) G (Nat.le_refl _) hG2 (by
    rw[Array.size_append,size_zeroCells,size_zeroCells,hz3];omega)
   unfold maxLen at hG2;have HM:Hid (mI 179 2 dH w.heap.size (w.drew.alloc (.cells (Builtin.zeroCells z0.cells n++Builtin.zeroCells z0.cells (G-n)) 179)) (.slice (some ⟨w.heap.size,0,none⟩) 0 G) []):=hid ⟨[],rfl,fun i h=>absurd h (Nat.not_lt_zero _),hm⟩;clear hm
   generalize Builtin.zeroCells z0.cells n++Builtin.zeroCells z0.cells (G-n)=cs at hrun HM;go_enter Tryz.func190,Tryz.ntmps190;go_wp2_with (at_builtin;refine Lib.wpList_append_run _ rfl _ _ _ _ rfl _ _ rfl rfl _ _ (hrun _) ?_)
   all_goals
    go_ret;exact⟨_,rfl,HM.out,bl⟩
def zg (ls:Nat->List d_):Nat->List d_
 | 0=>[]
 | j+1=>zg ls j++ls j
theorem ajD {ls:Nat->List d_} {j k:Nat} (h:j<=k):(zg ls j).length<=(zg ls k).length:=by
 induction k with
 | zero => obtain rfl : j = 0 := by omega
           exact Nat.le_refl _
 | succ m ih=>
  by_cases e:j=m+1
  · subst e;exact Nat.le_refl _
  · refine Nat.le_trans (ih (by omega)) ?_;rw[zg,ae];omega
def Rb (w:World) (ls:Nat->List d_) (j:Nat) (v:Value) (wr:World):Prop:=mI 179 2 dH w.heap.size wr v (zg ls j)/\Below w.heap.size w wr
set_option maxRecDepth 100000 in
theorem akD (b o k c:Nat) (pp:Nat->Option Addr) (pn pc:Nat->Nat) (ls:Nat->List d_) (w:World) (hk:k<=9223372036854775807) (hb:b<w.heap.size)
 (hc:Hid (∀j,j<k->w.cell? ⟨b,o+j,none⟩=some (.slice (pp j) (pn j) (pc j)))) (hE:Hid (∀j,j<k->Rw 2 dH (Lo w.heap.size) w (ls j) (pp j) (pn j))) (hN:(zg ls k).length<=1000000) :
 Calls Tryz.prog 161 #[.slice (some ⟨b,o,none⟩) k c] w fun e w'=>∃v,e=.returned v/\Rb w ls k v w':=by
 have HM:=hid fun(j:Nat) (h:j<=k)=>ajD (ls:=ls) h;have HS:=hid fun(j:Nat) (h:j<k)=>(hE.out j h).1;go_enter Tryz.func161,Tryz.ntmps161;go_wp2_with fail;go_loop [3,11] (fun s i=>∃j m:Nat,j<=k/\i=.int .i64 j/\s=.int .i64 m/\Hid (m=(zg ls j).length)) (fun _ i=>k-(intOf i).toNat)
 case atStart=>exact⟨0,0,Nat.zero_le _,rfl,rfl,hid rfl⟩
 case round=>
  obtain⟨j,m,hj,rfl,rfl,HT⟩:=hrel;have c1:(0:Int)<=(j:Int):=by omega
  have m1:(0:Int)<=(m:Int):=by omega
  rcases Nat.lt_or_ge j k with h|h
  · have c2:(j:Int)<(k:Int):=by omega
    have e1:=hc.out j h;have m2:(m:Int)+(pn j:Int)<=1000000:=by have h1:=HT.out;have h2:=HM.out (j+1) h;have h3:=HS.out j h;rw[zg,ae] at h2;omega
    have m3:(0:Int)<=(pn j:Int):=by omega
    have m4:¬(m:Int)+(pn j:Int)<0:=by omega
    go_wp2_with fail;go_round
    case rel=>exact⟨j+1,m+pn j,by omega,by go_num,by go_num,hid (by rw[HT.out,zg,ae,HS.out j h])⟩
    case measure=>simp[intOf];omega
  · obtain rfl:k=j:=by omega
    have hm:m<=1000000:=by have:=HT.out;omega
    have c2:(k:Int)<=(k:Int):=by omega
    go_wp2_with fail;refine(amV m _ hm).mono ?_;rintro e w1 ⟨v1,rfl,ho1,hb1⟩;have HO:=hid ho1;clear ho1;go_wp2_with fail;go_loopw [6,27] (fun v i wr=>∃j:Nat,j<=k/\i=.int .i64 j/\Rb w ls j v wr) (fun _ i _=>k-(intOf i).toNat)
    case atStart=>exact⟨0,Nat.zero_le _,rfl,HO.out,hb1⟩
    case round=>
     obtain⟨j,hj,rfl,HR⟩:=hrel;have c1:(0:Int)<=(j:Int):=by omega
     rcases Nat.lt_or_ge j k with h|h
     · have c2:(j:Int)<(k:Int):=by omega
       obtain⟨ho,hbr⟩:=HR;have e1:=(hbr.cell (p:=⟨b,o+j,none⟩) hb).trans (hc.out j h);obtain⟨v2,w2,hrun,ho2,hg2⟩:=mI.app ED dH.map Bj ho ((hE.out j h).below dH.map hbr) (pc j) hbr.size (by have h2:=HM.out (j+1) h;have h3:=HS.out j h;rw[zg,ae] at h2;omega);have Ru:Hid (Rb w ls (j+1) v2 w2):=hid ⟨ho2,ho.below hg2 hbr (Nat.le_refl _) hbr.size⟩;clear ho ho2 hg2;go_wp2_with (at_builtin;refine Lib.wpList_append_run _ rfl _ _ _ _ rfl _ _ rfl rfl _ _ hrun ?_)
       go_roundw
       case rel=>exact⟨j+1,by omega,by go_num,Ru.out⟩
       case measure=>simp[intOf];omega
     · obtain rfl:k=j:=by omega
       have H3:=hid HR;clear HR;go_wp2_with fail;go_ret;exact⟨_,rfl,H3.out⟩
theorem akC (b:Nat) (p1 p2:Option Addr) (m1 c1 m2 c2:Nat) (l1 l2:List d_) (w:World) (hb:b<w.heap.size) (h0:w.cell? ⟨b,0,none⟩=some (.slice p1 m1 c1)) (h1:w.cell? ⟨b,1,none⟩=some (.slice p2 m2 c2))
 (hl1:Rw 2 dH (Lo w.heap.size) w l1 p1 m1) (hl2:Rw 2 dH (Lo w.heap.size) w l2 p2 m2) (hN:m1+m2<=1000000) :
 Calls Tryz.prog 161 #[.slice (some ⟨b,0,none⟩) 2 2] w fun e w'=>∃v,e=.returned v/\mI 179 2 dH w.heap.size w' v (l1++l2)/\Below w.heap.size w w':=by
 have e1:=hl1.1;have e2:=hl2.1;refine akD b 0 2 2 (fun j=>if j=0 then p1 else p2) (fun j=>if j=0 then m1 else m2) (fun j=>if j=0 then c1 else c2) (fun j=>if j=0 then l1 else l2) w (by omega) hb (hid fun j hj=>?_) (hid fun j hj=>?_) ?_
 · have h:j=0∨j=1:=by omega
   rcases h with rfl|rfl
   · exact h0
   · exact h1
 · have h:j=0∨j=1:=by omega
   rcases h with rfl|rfl
   · exact hl1
   · exact hl2
 · show(([]++l1)++l2).length<=_
   rw[List.nil_append,ae];omega
end Md
end Go.Proofs.YtbgodajefaahdaaGreatDoor
