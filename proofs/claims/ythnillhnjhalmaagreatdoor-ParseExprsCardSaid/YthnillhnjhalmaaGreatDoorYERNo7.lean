/-
  Parts of this proof: The reference's check of a node, by forms. The contract of Uses. The contracts of the library's Grow and Concat a.
-/
import Derived.Test.YthnillhnjhalmaaGreatDoorYERNod
import Derived.Test.YthnillhnjhalmaaGreatDoorYECheckN
import Derived.Test.YthnillhnjhalmaaGreatDoorYPWalk
import Derived.Test.YthnillhnjhalmaaGreatDoorYTSzS
open Go.Proofs.Tryz
open List renaming length_append->ae
set_option linter.unusedVariables false
set_option maxRecDepth 100000
set_option maxHeartbeats 8000000
open Go.Lib (hid)
namespace Go.Proofs.YthnillhnjhalmaaGreatDoor
namespace Ex
open Go.RowKit
open Na (bs)
set_option linter.unusedSimpArgs false
theorem aeo {p:Prop} (h:p:=by
 go_enter func79,ntmps79;go_wp2_with (first|(go_at_call 128;refine(HA.out _).mono ?_;rintro e w1 ⟨rfl,rfl⟩)|(go_at_call 129;refine(HB.out _).mono ?_;rintro e w1 ⟨rfl,rfl⟩))
 go_quiet (fail)
 go_wp2_with fail;go_loopw [10] (fun i wr=>∃k:Nat,k<=0/\Hid (bad true (fA (l.take k))=0)/\i=.int .i64 (k:Nat)/\Hid (Below w.heap.size w wr)/\Hid (dW wr w.heap.size o s n p 0 c)) (fun i _=>0-(intOf i).toNat)
 case atStart=>exact⟨0,Nat.zero_le _,hid y7,rfl,hid bl,hid gK⟩
 case round=>
  exact Ws
 ):p:=h
theorem aep {p:Prop} (h:p:=by
 rw[HV.out,if_neg bS];clear hkn hnm hct hnb hA hB hs0 h2;exact CG
 ):p:=h
theorem an2 (l:List Ex) (ih:nL true l) (o:Int) (h2:o=2) (s:ByteArray) (n:Int) (p:Option Addr) (m c:Nat) (w:World) (h:In w (.mk o s n l) p m) (hs:Sz (.mk o s n l)):Calls Tryz.prog 79 #[.agg #[.int .i64 o,.string s,.int .i64 n,.slice p m c],.bool true] w (Gives (.int .i64 (bad true (pre (.mk o s n l)))) w):=by
 have HH:=hid h;have HI:=hid ih;obtain⟨hl,hm⟩:=h.len;have HL:=hid hl;have HS:=hid hs;have hsz:=hs.self;rw[pg,hl];clear ih h hl hs;have hA:gT o=0:=by rw[h2];rfl
 have hB:obj o=false:=by rw[h2];rfl
 have t1:(o==1)=false:=by rw[h2];rfl
 have t2:(o==2)=true:=by rw[h2];rfl
 have t3:(o==3)=false:=by rw[h2];rfl
 have t25:(o==25)=false:=by rw[h2];rfl
 have t26:(o==26)=false:=by rw[h2];rfl
 have u3:(o != 3)=true:=by rw[h2];rfl
 have v3:¬o=3:=by omega
 have Cu:o<=24:=by omega
 have HA:=hid (fun W=>oZ hA W);have HB:=hid (fun W=>pK hB W);have hkn:known true o=true:=by rw[h2];rfl
 have hnm:named true o=false:=by rw[h2];rfl
 have hct:counted true o=false:=by rw[h2];rfl
 have hnb:numbered true o=true:=by rw[h2];rfl
 by_cases hs0:bs s=[]
 rotate_left
 · have e0:=Ap hs0;have HV:=hid (show nd true o (bs s) n m=1 from AP hnm hs0);exact aep
 have e0:=Aq hs0;by_cases fH:(m:Int)=0;rotate_left
 · have g0:((m:Int)==0)=false:=beq_eq_false_iff_ne.2 fH;have g1:((m:Int) != 0)=true:=bne_iff_ne.2 fH;have HV:=hid (show nd true o (bs s) n m=1 from xS hA fH);exact aep
 obtain rfl:m=0:=by omega
 have hfair:=xR (s:=bs s) (n:=n) (m:=0) hkn hnm hnb hA (.inr hs0) (.inl rfl) rfl;by_cases hn0:n=0
 · have f0:(n==0)=true:=beq_iff_eq.2 hn0;have f2:(n != 0)=false:=by simp[bne,f0]
   have hR:fG true o n=false:=by rw[h2,hn0];rfl
   rw[hfair.trans (show _=(0:Int) by rw[hR];rfl),if_pos rfl];clear hkn hnm hct hnb hA hB hfair hs0 hR h2 hn0;exact aeo
 by_cases hn1:n=1
 · have f0:(n==0)=false:=beq_eq_false_iff_ne.2 hn0;have f1:(n==1)=true:=beq_iff_eq.2 hn1;have f2:(n != 0)=true:=by simp[bne,f0]
   have f3:(n != 1)=false:=by simp[bne,f1]
   have hR:fG true o n=false:=by rw[h2,hn1];rfl
   rw[hfair.trans (show _=(0:Int) by rw[hR];rfl),if_pos rfl];clear hkn hnm hct hnb hA hB hfair hs0 hR hn0 hn1 h2;exact aeo
 have f0:(n==0)=false:=beq_eq_false_iff_ne.2 hn0;have f1:(n==1)=false:=beq_eq_false_iff_ne.2 hn1;have f2:(n != 0)=true:=by simp[bne,f0]
 have f3:(n != 1)=true:=by simp[bne,f1]
 have hR:fG true o n=true:=by rw[h2];unfold fG;simp[hn0,hn1]
 exact aft
end Ex
namespace Sm
open Go.RowKit Go.Shelf Go.Sort
open Ex (Nm Fb)
attribute [local go_sem] Oper.semAt_some
attribute [local go_sem] cs0 cs1 cs2 wo wu wy wB wC wD wE vQ vR vS vT vU vV vW vX vY vZ v_
theorem dG.own {β:Type} (g:Nat) (x:St) (P:Pl):Own (fun(_:β) W=>dG W g x P):=fun _ A B row hs hg hr=>by
 refine(hg.block g hs.lt (fun e=>?_)).trans hs;obtain⟨o,ho,hc⟩:=hr g e.symm;rw[show A.heap[g]?=_ from hs] at ho;cases ho
 cases hc
theorem Kp.app {n₀ T B:Nat} {W w1:World} {v v':Value} {l:List Nm} {tmp:Obj} (hn:n₀<=W.heap.size) (hB:n₀<=B) (hT:B<T) (hrow:Fb n₀ W v l) (hgrow:(W.alloc tmp).grownBy w1 v.ownBlock) (hbel:Below n₀ W (w1.setCell ⟨B,0,none⟩ v')):Kp n₀ T W (w1.setCell ⟨B,0,none⟩ v'):=
 ⟨hbel, fun k c fr hk hc => by
   have hkl:=(Array.getElem?_eq_some_iff.1 hc).1;rw[(grownBy_setCell' w1 B v').block k (Nat.lt_of_lt_of_le hkl (Nat.le_trans cz hgrow.size)) (fun e=>by cases e;omega)];rw[hgrow.block k vD (fun e=>by
    rcases hrow.2 with⟨rfl,_⟩|⟨g',cap,cur,rfl,_,hgb,_⟩
    · simp[Value.ownBlock] at e
    · obtain rfl:g'=k:=by simpa [Value.ownBlock] using e.symm
      rw[hgb] at hc
      cases hc)]
   exact(Below.heap_alloc W tmp k hkl).trans hc⟩
end Sm
namespace Md
open Go.RowKit Go.Maps
open Ex (Lo)
theorem akb (n:Nat) (w:World) (hn:n<=1000000):Calls Tryz.prog 221 #[.slice none 0 0,.int .i64 n] w fun e w'=>∃v,e=.returned v/\lM 239 2 dI w.heap.size w' v []/\Below w.heap.size w w':=by
 rcases Nat.eq_zero_or_pos n with h0|h0
 · subst h0;go_enter func221,ntmps221;go_wp2_with fail;go_ret;exact⟨_,rfl,lM.nil,Below.refl _ _⟩
 · obtain⟨i0,z0,hi0,hz0,hz1,hz3,hz2⟩:=DV.info;have hrun:=fun ty=>Lib.run_append_nil_zeros (P:=Tryz.prog) w 208 3 ty 239 i0 z0 .i64 .i64 underlying208 underlying3 hi0 hz0 n h0 bU bU (by
    have:=Nat.mul_le_mul (show n<=1000000 from hn) hz2;omega)
   have hG:=grownCap_ge w n 0 239;have hG2:=grownCap_le_maxLen w n 0 239 Py
   generalize grownCap w n 0 239=G at hrun hG hG2;have hm:=World.ownsRow_made (base:=w.heap.size) (e:=239) (size:=2) w.drew (Builtin.zeroCells z0.cells n++Builtin.zeroCells z0.cells (G-n)) G (Nat.le_refl _) hG2 (by
    rw[Array.size_append,size_zeroCells,size_zeroCells,hz3];omega)
   unfold maxLen at hG2;have HM:Hid (lM 239 2 dI w.heap.size (w.drew.alloc (.cells (Builtin.zeroCells z0.cells n++Builtin.zeroCells z0.cells (G-n)) 239)) (.slice (some ⟨w.heap.size,0,none⟩) 0 G) []):=hid ⟨[],rfl,fun i h=>absurd h (Nat.not_lt_zero _),hm⟩;clear hm
   generalize Builtin.zeroCells z0.cells n++Builtin.zeroCells z0.cells (G-n)=cs at hrun HM;go_enter func221,ntmps221;go_wp2_with (at_builtin;refine Lib.wpList_append_run _ rfl _ _ _ _ rfl _ _ rfl rfl _ _ (hrun _) ?_)
   all_goals
    go_ret;exact⟨_,rfl,HM.out,bl⟩
def zg (ls:Nat->List eZ):Nat->List eZ
 | 0=>[]
 | j+1=>zg ls j++ls j
theorem ahg {ls:Nat->List eZ} {j k:Nat} (h:j<=k):(zg ls j).length<=(zg ls k).length:=by
 induction k with
 | zero => obtain rfl : j = 0 := by omega
           exact Nat.le_refl _
 | succ m ih=>
  by_cases e:j=m+1
  · subst e;exact Nat.le_refl _
  · refine Nat.le_trans (ih bU) ?_;rw[zg,ae];omega
def PK (w:World) (ls:Nat->List eZ) (j:Nat) (v:Value) (wr:World):Prop:=lM 239 2 dI w.heap.size wr v (zg ls j)/\Below w.heap.size w wr
theorem aih (b o k c:Nat) (pp:Nat->Option Addr) (pn pc:Nat->Nat) (ls:Nat->List eZ) (w:World) (hk:k<=9223372036854775807) (hb:b<w.heap.size)
 (hc:Hid (∀j,j<k->w.cell? ⟨b,o+j,none⟩=some (.slice (pp j) (pn j) (pc j)))) (hE:Hid (∀j,j<k->Rw 2 dI (Lo w.heap.size) w (ls j) (pp j) (pn j))) (hN:(zg ls k).length<=1000000) :
 Calls Tryz.prog 190 #[.slice (some ⟨b,o,none⟩) k c] w fun e w'=>∃v,e=.returned v/\PK w ls k v w':=by
 have HM:=hid fun(j:Nat) (h:j<=k)=>ahg (ls:=ls) h;have HS:=hid fun(j:Nat) (h:j<k)=>(hE.out j h).1;go_enter func190,ntmps190;go_wp2_with fail;go_loop [3,11] (fun s i=>∃j m:Nat,j<=k/\i=.int .i64 j/\s=.int .i64 m/\Hid (m=(zg ls j).length)) (fun _ i=>k-(intOf i).toNat)
 case atStart=>exact⟨0,0,Nat.zero_le _,rfl,rfl,hid rfl⟩
 case round=>
  obtain⟨j,m,hj,rfl,rfl,HT⟩:=hrel;have c1:(0:Int)<=(j:Int):=by omega
  have m1:(0:Int)<=(m:Int):=by omega
  rcases Nat.lt_or_ge j k with h|h
  · have c2:(j:Int)<(k:Int):=by omega
    have e1:=hc.out j h;have m2:(m:Int)+(pn j:Int)<=1000000:=by have h1:=HT.out;have h2:=HM.out (j+1) h;have h3:=HS.out j h;rw[zg,ae] at h2;omega
    have m3:(0:Int)<=(pn j:Int):=by omega
    have m4:¬(m:Int)+(pn j:Int)<0:=by omega
    go_wp2_with fail;go_round
    case rel=>exact⟨j+1,m+pn j,by omega,by go_num,by go_num,hid (by rw[HT.out,zg,ae,HS.out j h])⟩
    case measure=>simp[intOf];omega
  · obtain rfl:k=j:=by omega
    have hm:m<=1000000:=by have:=HT.out;omega
    have c2:(k:Int)<=(k:Int):=by omega
    go_wp2_with fail;refine(akb m _ hm).mono ?_;rintro e w1 ⟨v1,rfl,ho1,hb1⟩;have HO:=hid ho1;clear ho1;go_wp2_with fail;go_loopw [6,27] (fun v i wr=>∃j:Nat,j<=k/\i=.int .i64 j/\PK w ls j v wr) (fun _ i _=>k-(intOf i).toNat)
    case atStart=>exact⟨0,Nat.zero_le _,rfl,HO.out,hb1⟩
    case round=>
     obtain⟨j,hj,rfl,HR⟩:=hrel;have c1:(0:Int)<=(j:Int):=by omega
     rcases Nat.lt_or_ge j k with h|h
     · have c2:(j:Int)<(k:Int):=by omega
       obtain⟨ho,hbr⟩:=HR;have e1:=(hbr.cell (p:=⟨b,o+j,none⟩) hb).trans (hc.out j h);obtain⟨v2,w2,hrun,ho2,hg2⟩:=lM.app DV dI.map A9 ho ((hE.out j h).below dI.map hbr) (pc j) hbr.size (by have h2:=HM.out (j+1) h;have h3:=HS.out j h;rw[zg,ae] at h2;omega);have P5:Hid (PK w ls (j+1) v2 w2):=hid ⟨ho2,ho.below hg2 hbr (Nat.le_refl _) hbr.size⟩;clear ho ho2 hg2;go_wp2_with (at_builtin;refine Lib.wpList_append_run _ rfl _ _ _ _ rfl _ _ rfl rfl _ _ hrun ?_)
       go_roundw
       case rel=>exact⟨j+1,by omega,by go_num,P5.out⟩
       case measure=>simp[intOf];omega
     · obtain rfl:k=j:=by omega
       have H3:=hid HR;clear HR;go_wp2_with fail;go_ret;exact⟨_,rfl,H3.out⟩
theorem aif (b:Nat) (p1 p2:Option Addr) (m1 c1 m2 c2:Nat) (l1 l2:List eZ) (w:World) (hb:b<w.heap.size) (h0:w.cell? ⟨b,0,none⟩=some (.slice p1 m1 c1)) (h1:w.cell? ⟨b,1,none⟩=some (.slice p2 m2 c2))
 (hl1:Rw 2 dI (Lo w.heap.size) w l1 p1 m1) (hl2:Rw 2 dI (Lo w.heap.size) w l2 p2 m2) (hN:m1+m2<=1000000) :
 Calls Tryz.prog 190 #[.slice (some ⟨b,0,none⟩) 2 2] w fun e w'=>∃v,e=.returned v/\lM 239 2 dI w.heap.size w' v (l1++l2)/\Below w.heap.size w w':=by
 have e1:=hl1.1;have e2:=hl2.1;refine aih b 0 2 2 (fun j=>if j=0 then p1 else p2) (fun j=>if j=0 then m1 else m2) (fun j=>if j=0 then c1 else c2) (fun j=>if j=0 then l1 else l2) w bU hb (hid fun j hj=>?_) (hid fun j hj=>?_) ?_
 · have h:j=0∨j=1:=by omega
   rcases h with rfl|rfl
   · exact h0
   · exact h1
 · have h:j=0∨j=1:=by omega
   rcases h with rfl|rfl
   · exact hl1
   · exact hl2
 · show(([]++l1)++l2).length<=_
   rw[List.nil_append,ae];omega
end Md
end Go.Proofs.YthnillhnjhalmaaGreatDoor
