/-
  Parts of this proof: The contracts of package frac's small functions. Words for slices of ints in memory; the contract. The contracts of slices.Equal, of the reference'.
-/
import Derived.WalkSpells
import Derived.Lib.Hide
import Derived.WalkLawsBesides
import Derived.LoopTactic
import Derived.RegionTactic
import Derived.Deep.QuietTactic
import Derived.BigQuiet
import Derived.Outline
import Derived.Deep.DeepCutAuto
import Derived.Deep.CutBlock
import Derived.Deep.RegionHeld3
import Derived.Test.YtbgodajefaahdaaGreatDoorRows
import Derived.WalkKit
open Go renaming World->ae
open Go.RowKit renaming Below->af
open Go.Proofs.Tryz renaming prog->ag
open Go.Lib (hid)
namespace Go.Proofs.YtbgodajefaahdaaGreatDoor
section
open Go.RowKit
set_option maxHeartbeats 400000
theorem oG {k:IntKind} {a b:Int} (h:a=b):Ending.returned (.int k a)=.returned (.int k b):=by rw[h]
theorem iB {a b:Bool} (h:a=b):Ending.returned (.bool a)=.returned (.bool b):=by rw[h]
def Quiet (v:Value) (w:ae) (e:Ending) (w':ae):Prop:=e=.returned v/\∃n,w'=w.drewN n
def Gives (v:Value) (w:ae) (e:Ending) (w':ae):Prop:=e=.returned v/\af w.heap.size w w'
theorem below_drewN {B:Nat} {a w:ae} (h:af B a w) (n:Nat):af B a (w.drewN n):=⟨h.os,h.tape,h.output,h.size,h.block⟩
section
variable {a w w2:ae}
theorem ji {o:Obj} (h:af a.heap.size a w):af a.heap.size a (w.alloc o):=h.alloc h.size o
theorem wF {n:Nat} (h:af a.heap.size a w):af a.heap.size a (w.drewN n):=below_drewN h n
theorem qB (h:af a.heap.size a w):af a.heap.size a w.drew:=h.drew
theorem y_ {p:Addr} (h:af a.heap.size a w) (hp:a.heap.size<=p.block) (u:Value):af a.heap.size a (w.setCell p u):=h.setCell hp u
theorem tT (h:af a.heap.size a w) (hb:af w.heap.size w w2):af a.heap.size a w2:=h.trans (hb.mono h.size)
end
def two (w:ae) (b:Nat) (x y:Value):Prop:=w.cell? ⟨b,0,none⟩=some x/\w.cell? ⟨b,1,none⟩=some y/\w.frozen? ⟨b,0,none⟩=false/\w.frozen? ⟨b,1,none⟩=false/\b<w.heap.size
theorem two.call {w w2:ae} {b:Nat} {x y:Value} (h:two w b x y) (hb:af w.heap.size w w2):two w2 b x y:=by
 obtain⟨h1,h2,h3,h4,h5⟩:=h;exact⟨(hb.cell (p:=⟨b,0,none⟩) h5).trans h1,(hb.cell (p:=⟨b,1,none⟩) h5).trans h2,(hb.frozen (p:=⟨b,0,none⟩) h5).trans h3,(hb.frozen (p:=⟨b,1,none⟩) h5).trans h4,Nat.lt_of_lt_of_le h5 hb.size⟩
theorem two.on {w w2:ae} {b:Nat} {x y:Value} (hb:af w.heap.size w w2) (h:two w b x y):two w2 b x y:=h.call hb
theorem two.drew {w:ae} {b:Nat} {x y:Value} (h:two w b x y):two w.drew b x y:=h
theorem two.drewN {w:ae} {b:Nat} {x y:Value} (h:two w b x y) (n:Nat):two (w.drewN n) b x y:=h
theorem two.alloc {w:ae} {b:Nat} {x y:Value} {o:Obj} (h:two w b x y):two (w.alloc o) b x y:=h.call ((Below.refl _ _).alloc (Nat.le_refl _) o)
theorem two.new {w:ae} {x y:Value} {t:TypeId}:two (w.alloc (.cells #[x,y] t)) w.heap.size x y:=by
 refine⟨?_,?_,?_,?_,?_⟩ <;> first|(go_simp;done)|(simp;done)|(simp;omega)
theorem rq {w:ae} {g b o:Nat} {x y v:Value} (h:w.cell? ⟨b,o,none⟩=some v) (hne:b≠g):((w.setCell ⟨g,0,none⟩ x).setCell ⟨g,1,none⟩ y).cell? ⟨b,o,none⟩=some v:=by
 rw[World.cell?_setCell_other _ _ _ _ (fun e=>hne (by injection e with e;first|exact e|exact e.symm)),World.cell?_setCell_other _ _ _ _ (fun e=>hne (by injection e with e;first|exact e|exact e.symm))];exact h
theorem two.far {w:ae} {g b:Nat} {x y u v:Value} (h:two w b u v) (hne:b≠g):two ((w.setCell ⟨g,0,none⟩ x).setCell ⟨g,1,none⟩ y) b u v:=by
 obtain⟨h1,h2,h3,h4,h5⟩:=h;refine⟨rq h1 hne,rq h2 hne,?_,?_,by simp[World.setCell];exact h5⟩
 · go_simp
 · go_simp
theorem bq {p:Prop} (h:p:=by(repeat (first|(with_reducible exact Below.refl _ _)|(with_reducible assumption)|(with_reducible apply ji)|(with_reducible apply wF)|(with_reducible apply qB)|(with_reducible refine y_ ?_ (by first|(simp;done)|(simp;omega)) _)|(with_reducible refine tT ?_ (by assumption))))):p:=h
end
namespace Di
open Go.RowKit
set_option maxHeartbeats 1000000
def dG (lo n hi:Int):Bool:=decide (lo<=n)&&decide (n<=hi)
def tQ (lo hi:Int) (V:Nat->Int):Nat->Bool
 | 0=>true
 | k+1=>tQ lo hi V k&&dG lo (V k) hi
def sj (V W:Nat->Int):Nat->Bool
 | 0=>true
 | k+1=>sj V W k&&(V k==W k)
def oo (n m:Nat) (V W:Nat->Int):Bool:=n==m&&sj V W n
theorem aiH {lo hi:Int} {V:Nat->Int} {k n:Nat} (h:tQ lo hi V k=false) (hk:k<=n):tQ lo hi V n=false:=by
 induction n with
 | zero => obtain rfl : k = 0 := by omega
           exact h
 | succ m ih=>
  by_cases e:k=m+1
  · subst e;exact h
  · show(tQ lo hi V m&&_)=false
    rw[ih (by omega)];rfl
theorem alS {V W:Nat->Int} {k n:Nat} (h:sj V W k=false) (hk:k<=n):sj V W n=false:=by
 induction n with
 | zero => obtain rfl : k = 0 := by omega
           exact h
 | succ m ih=>
  by_cases e:k=m+1
  · subst e;exact h
  · show(sj V W m&&_)=false
    rw[ih (by omega)];rfl
def Row (w:ae) (p:Option Addr) (n:Nat) (V:Nat->Int):Prop:=
 n<=9223372036854775807/\(n=0∨∃b o,p=some ⟨b,o,none⟩/\b<w.heap.size/\Hid (∀i,i<n->w.cell? ⟨b,o+i,none⟩=some (.int .i64 (V i))))
theorem Row.on {w w2:ae} {p:Option Addr} {n:Nat} {V:Nat->Int} (hb:af w.heap.size w w2) (h:Row w p n V):Row w2 p n V:=by
 obtain⟨hl,h|⟨b,o,rfl,h1,h2⟩⟩:=h
 · exact⟨hl,.inl h⟩
 · exact⟨hl,.inr ⟨b,o,rfl,Nat.lt_of_lt_of_le h1 hb.size,hid fun i hi=>(hb.cell (p:=⟨b,o+i,none⟩) h1).trans (h2.out i hi)⟩⟩
theorem Row.alloc {w:ae} {o:Obj} {p:Option Addr} {n:Nat} {V:Nat->Int} (h:Row w p n V):Row (w.alloc o) p n V:=h.on ((Below.refl _ _).alloc (Nat.le_refl _) o)
theorem Row.drew {w:ae} {p:Option Addr} {n:Nat} {V:Nat->Int} (h:Row w p n V):Row w.drew p n V:=h
theorem Row.drewN {w:ae} {p:Option Addr} {n:Nat} {V:Nat->Int} (h:Row w p n V) (m:Nat):Row (w.drewN m) p n V:=h
theorem Cf (x y z:Int) (w:ae):Calls ag 173 #[.int .i64 x,.int .i64 y,.int .i64 z] w fun e w'=>e=.returned (.bool (dG x y z))/\w=w':=by
 by_cases h1:x<=y <;> by_cases h2:y<=z
 all_goals
  go_enter Tryz.func173,Tryz.ntmps173
  go_wp2
  go_ret;exact⟨iB (by simp[dG, *]),rfl⟩
theorem aiG {lo hi:Int} {V:Nat->Int} {k n:Nat} (h:k<n) (h2:dG lo (V k) hi=false):false=tQ lo hi V n:=
 (aiH (k:=k+1) (by show(_&&_)=false;rw[h2,Bool.and_false]) h).symm
theorem aiI {lo hi:Int} {V:Nat->Int} {k:Nat} (h1:tQ lo hi V k=true) (h2:dG lo (V k) hi=true):tQ lo hi V (k+1)=true:=by
 show(_&&_)=true;rw[h1,h2];rfl
theorem RY (lo hi:Int) (p:Option Addr) (n c:Nat) (V:Nat->Int) (w:ae) (hR:Row w p n V):Calls ag 174 #[.int .i64 lo,.slice p n c,.int .i64 hi] w fun e w'=>e=.returned (.bool (tQ lo hi V n))/\w=w':=by
 obtain⟨hl,h|⟨b,o,rfl,hb,hc⟩⟩:=hR
 · subst h;go_enter Tryz.func174,Tryz.ntmps174;go_wp2_with fail;go_loop [11] (fun i=>i=.int .i64 0) (fun _=>0)
   case atStart=>rfl
   case round=>
    obtain rfl:=hrel;go_wp2_with fail;go_ret;exact⟨rfl,rfl⟩
 · go_enter Tryz.func174,Tryz.ntmps174;go_wp2_with fail;go_loop [11] (fun i=>∃k:Nat,k<=n/\i=.int .i64 k/\Hid (tQ lo hi V k=true)) (fun i=>n-(intOf i).toNat)
   case atStart=>exact⟨0,Nat.zero_le _,rfl,hid rfl⟩
   case round=>
    obtain⟨k,hk,rfl,HA⟩:=hrel;rcases Nat.lt_or_ge k n with h|h
    · have e1:=hc.out k h;have c1:(0:Int)<=(k:Int):=by omega
      have c2:(k:Int)<(n:Int):=by omega
      cases hi':dG lo (V k) hi
      · have H:=hid hi';clear hi';go_wp2_with fail;refine(Cf _ _ _ _).mono ?_;rintro e w1 ⟨rfl,rfl⟩;rw[H.out];go_wp2_with fail;go_ret;exact⟨iB (aiG h H.out),rfl⟩
      · have H:=hid hi';clear hi';go_wp2_with fail;refine(Cf _ _ _ _).mono ?_;rintro e w1 ⟨rfl,rfl⟩;rw[H.out];go_wp2_with fail;go_round
        case rel=>exact⟨k+1,by omega,by go_num,hid (aiI HA.out H.out)⟩
        case measure=>simp[intOf];omega
    · obtain rfl:n=k:=by omega
      go_wp2_with fail;go_ret;exact⟨iB HA.out.symm,rfl⟩
end Di
namespace Di
open Go.RowKit
set_option maxHeartbeats 1000000
theorem alR {V W:Nat->Int} {k n:Nat} (h:k<n) (h2:(V k==W k)=false):sj V W n=false:=
 alS (k:=k+1) (by show(_&&_)=false;rw[h2,Bool.and_false]) h
theorem alT {V W:Nat->Int} {k:Nat} (h1:sj V W k=true) (h2:(V k==W k)=true):sj V W (k+1)=true:=by
 show(_&&_)=true;rw[h1,h2];rfl
theorem aba {V W:Nat->Int} {n:Nat}:oo n n V W=sj V W n:=by unfold oo;rw[beq_self_eq_true];rfl
theorem afR {p:Prop} (h:p:=by
 obtain⟨k,t,hk,rfl,rfl,HA⟩:=hrel;rcases Nat.lt_or_ge k n with h|h
 · have e1:=hc.out k h;have e2:=hc2.out k h;have c1:(0:Int)<=(k:Int):=by omega
   have c2:(k:Int)<(n:Int):=by omega
   have c3:IntKind.i64.wrap ((k:Int)+1)=((k+1:Nat):Int):=by rw[IntKind.wrap_i64];omega
   cases hi:(V k==W k)
   · have H:=hid hi;have hx:(V k != W k)=true:=by unfold bne;rw[hi];rfl
     clear hi;go_wp2_with fail
     go_quiet (fail)
     go_wp2_with fail;go_ret;exact⟨iB (alR h H.out).symm,_,(by first|rfl|exact World.drewN_drewN _ _ _)⟩
   · have H:=hid hi;have hx:(V k != W k)=false:=by unfold bne;rw[hi];rfl
     clear hi;go_wp2_with fail
     go_quiet (fail)
     go_wp2_with fail;go_roundw
     case rel=>exact⟨k+1,_,by omega,by go_num,(by first|rfl|exact World.drewN_drewN _ _ _),hid (alT HA.out H.out)⟩
     case measure=>simp[intOf];omega
 · obtain rfl:n=k:=by omega
   go_wp2_with fail;go_ret;exact⟨iB HA.out.symm,_,rfl⟩
 ):p:=h
theorem afS {p:Prop} (h:p:=by
 subst h;go_enter Tryz.func172,Tryz.ntmps172;go_wp2_with fail;go_loop [13] (fun i=>i=.int .i64 0) (fun _=>0)
 case atStart=>rfl
 case round=>
  obtain rfl:=hrel;go_wp2_with fail;go_ret;exact⟨rfl,0,rfl⟩
 ):p:=h
theorem Tw (p q:Option Addr) (n m c f:Nat) (V W:Nat->Int) (w:ae) (hp:Row w p n V) (hq:Row w q m W):Calls ag 172 #[.slice p n c,.slice q m f] w (Quiet (.bool (oo n m V W)) w):=by
 by_cases hnm:n=m
 · subst hnm;obtain⟨hl,h|⟨b,o,rfl,hb,hc⟩⟩:=hp
   · exact afS
   · obtain⟨-,h|⟨b2,o2,rfl,hb2,hc2⟩⟩:=hq
     · exact afS
     rw[aba];go_enter Tryz.func172,Tryz.ntmps172;go_wp2_with fail;go_loopw [13] (fun i wr=>∃k t:Nat,k<=n/\i=.int .i64 k/\wr=w.drewN t/\Hid (sj V W k=true)) (fun i _=>n-(intOf i).toNat)
     case atStart=>exact⟨0,0,Nat.zero_le _,rfl,rfl,hid rfl⟩
     case round=>
      exact afR
 · have hx:((n:Int) != (m:Int))=true:=by rw[bne_iff_ne];omega
   have hx2:(n != m)=true:=by rw[bne_iff_ne];exact hnm
   have hr:oo n m V W=false:=by unfold oo;rw[show(n==m)=false from by rw[beq_eq_false_iff_ne];exact hnm];rfl
   rw[hr];clear hr hp hq;go_enter Tryz.func172,Tryz.ntmps172;go_wp2_with fail;go_ret;exact⟨rfl,0,rfl⟩
theorem afT {p:Prop} (h:p:=by
 subst h;go_enter Tryz.func51,Tryz.ntmps51;go_wp2_with fail;go_loop [5] (fun i=>i=.int .i64 0) (fun _=>0)
 case atStart=>rfl
 case round=>
  obtain rfl:=hrel;go_wp2_with fail;go_ret;exact⟨rfl,0,rfl⟩
 ):p:=h
theorem Vs (p q:Option Addr) (n m c f:Nat) (V W:Nat->Int) (w:ae) (hp:Row w p n V) (hq:Row w q m W):Calls ag 51 #[.slice p n c,.slice q m f] w (Quiet (.bool (oo n m V W)) w):=by
 by_cases hnm:n=m
 · subst hnm;obtain⟨hl,h|⟨b,o,rfl,hb,hc⟩⟩:=hp
   · exact afT
   · obtain⟨-,h|⟨b2,o2,rfl,hb2,hc2⟩⟩:=hq
     · exact afT
     rw[aba];go_enter Tryz.func51,Tryz.ntmps51;go_wp2_with fail;go_loopw [5] (fun i wr=>∃k t:Nat,k<=n/\i=.int .i64 k/\wr=w.drewN t/\Hid (sj V W k=true)) (fun i _=>n-(intOf i).toNat)
     case atStart=>exact⟨0,0,Nat.zero_le _,rfl,rfl,hid rfl⟩
     case round=>
      exact afR
 · have hx:((n:Int) != (m:Int))=true:=by rw[bne_iff_ne];omega
   have hx2:(n != m)=true:=by rw[bne_iff_ne];exact hnm
   have hr:oo n m V W=false:=by unfold oo;rw[show(n==m)=false from by rw[beq_eq_false_iff_ne];exact hnm];rfl
   rw[hr];clear hr hp hq;go_enter Tryz.func51,Tryz.ntmps51;go_wp2_with fail;go_ret;exact⟨rfl,0,rfl⟩
def o_ (op a b n:Int) (lv lw:Nat) (V W:Nat->Int) (uj a2 b2 n2:Int) (oW sK:Nat) (V2 W2:Nat->Int):Bool:=
 op==uj&&(a==a2&&(b==b2&&(n==n2&&(oo lv oW V V2&&oo lw sK W W2))))
theorem zQ (op a b n:Int) (p:Option Addr) (lv c:Nat) (q:Option Addr) (lw f:Nat) (V W:Nat->Int) (uj a2 b2 n2:Int) (p2:Option Addr) (oW c2:Nat) (q2:Option Addr) (sK f2:Nat) (V2 W2:Nat->Int) (w:ae) (hV:Row w p lv V) (hW:Row w q lw W) (hV2:Row w p2 oW V2) (hW2:Row w q2 sK W2) :
 Calls ag 137 #[.agg #[.int .i64 op,.int .i64 a,.int .i64 b,.int .i64 n,.slice p lv c,.slice q lw f],.agg #[.int .i64 uj,.int .i64 a2,.int .i64 b2,.int .i64 n2,.slice p2 oW c2,.slice q2 sK f2]] w (Gives (.bool (o_ op a b n lv lw V W uj a2 b2 n2 oW sK V2 W2)) w):=by
 cases h0:(op==uj)
 · go_enter Tryz.func137,Tryz.ntmps137;go_wp2_with fail;go_ret;exact⟨iB (by simp only[o_,h0,Bool.false_and]),bq⟩
 cases h1:(a==a2)
 · go_enter Tryz.func137,Tryz.ntmps137;go_wp2_with fail;go_ret;exact⟨iB (by simp only[o_,h0,h1,Bool.false_and,Bool.and_false]),bq⟩
 cases h2:(b==b2)
 · go_enter Tryz.func137,Tryz.ntmps137;go_wp2_with fail;go_ret;exact⟨iB (by simp only[o_,h0,h1,h2,Bool.false_and,Bool.and_false]),bq⟩
 cases h3:(n==n2)
 · go_enter Tryz.func137,Tryz.ntmps137;go_wp2_with fail;go_ret;exact⟨iB (by simp only[o_,h0,h1,h2,h3,Bool.false_and,Bool.and_false]),bq⟩
 have hs:o_ op a b n lv lw V W uj a2 b2 n2 oW sK V2 W2=(oo lv oW V V2&&oo lw sK W W2):=by simp only[o_,h0,h1,h2,h3,Bool.true_and]
 rw[hs]
 cases h4:oo lv oW V V2
 · have H4:=hid h4;clear h4 hs;go_enter Tryz.func137,Tryz.ntmps137;go_wp2_with fail;refine(Tw p p2 lv oW c c2 V V2 _ hV.alloc.alloc hV2.alloc.alloc).mono ?_;rintro e w1 ⟨rfl,t1,rfl⟩;rw[H4.out];go_wp2_with fail;go_ret;exact⟨rfl,bq⟩
 · have H4:=hid h4;rw[Bool.true_and];clear h4 hs;go_enter Tryz.func137,Tryz.ntmps137;go_wp2_with fail;refine(Tw p p2 lv oW c c2 V V2 _ hV.alloc.alloc hV2.alloc.alloc).mono ?_;rintro e w1 ⟨rfl,t1,rfl⟩;rw[H4.out];go_wp2_with fail;refine(Tw q q2 lw sK f f2 W W2 _ (hW.alloc.alloc.drewN t1) (hW2.alloc.alloc.drewN t1)).mono ?_;rintro e w1 ⟨rfl,t2,rfl⟩;go_wp2_with fail;go_ret;exact⟨rfl,bq⟩
theorem Fb (op a b n:Int) (p:Option Addr) (lv c:Nat) (q:Option Addr) (lw f:Nat) (V W:Nat->Int) (uj a2 b2 n2:Int) (p2:Option Addr) (oW c2:Nat) (q2:Option Addr) (sK f2:Nat) (V2 W2:Nat->Int) (w:ae) (hV:Row w p lv V) (hW:Row w q lw W) (hV2:Row w p2 oW V2) (hW2:Row w q2 sK W2) :
 Calls ag 22 #[.agg #[.int .i64 op,.int .i64 a,.int .i64 b,.int .i64 n,.slice p lv c,.slice q lw f],.agg #[.int .i64 uj,.int .i64 a2,.int .i64 b2,.int .i64 n2,.slice p2 oW c2,.slice q2 sK f2]] w (Gives (.bool (o_ op a b n lv lw V W uj a2 b2 n2 oW sK V2 W2)) w):=by
 cases h0:(op==uj)
 · go_enter Tryz.func22,Tryz.ntmps22;go_wp2_with fail;go_ret;exact⟨iB (by simp only[o_,h0,Bool.false_and]),bq⟩
 cases h1:(a==a2)
 · go_enter Tryz.func22,Tryz.ntmps22;go_wp2_with fail;go_ret;exact⟨iB (by simp only[o_,h0,h1,Bool.false_and,Bool.and_false]),bq⟩
 cases h2:(b==b2)
 · go_enter Tryz.func22,Tryz.ntmps22;go_wp2_with fail;go_ret;exact⟨iB (by simp only[o_,h0,h1,h2,Bool.false_and,Bool.and_false]),bq⟩
 cases h3:(n==n2)
 · go_enter Tryz.func22,Tryz.ntmps22;go_wp2_with fail;go_ret;exact⟨iB (by simp only[o_,h0,h1,h2,h3,Bool.false_and,Bool.and_false]),bq⟩
 have hs:o_ op a b n lv lw V W uj a2 b2 n2 oW sK V2 W2=(oo lv oW V V2&&oo lw sK W W2):=by simp only[o_,h0,h1,h2,h3,Bool.true_and]
 rw[hs]
 cases h4:oo lv oW V V2
 · have H4:=hid h4;clear h4 hs;go_enter Tryz.func22,Tryz.ntmps22;go_wp2_with fail;refine(Vs p p2 lv oW c c2 V V2 _ hV.alloc.alloc hV2.alloc.alloc).mono ?_;rintro e w1 ⟨rfl,t1,rfl⟩;rw[H4.out];go_wp2_with fail;go_ret;exact⟨rfl,bq⟩
 · have H4:=hid h4;rw[Bool.true_and];clear h4 hs;go_enter Tryz.func22,Tryz.ntmps22;go_wp2_with fail;refine(Vs p p2 lv oW c c2 V V2 _ hV.alloc.alloc hV2.alloc.alloc).mono ?_;rintro e w1 ⟨rfl,t1,rfl⟩;rw[H4.out];go_wp2_with fail;refine(Vs q q2 lw sK f f2 W W2 _ (hW.alloc.alloc.drewN t1) (hW2.alloc.alloc.drewN t1)).mono ?_;rintro e w1 ⟨rfl,t2,rfl⟩;go_wp2_with fail;go_ret;exact⟨rfl,bq⟩
end Di
end Go.Proofs.YtbgodajefaahdaaGreatDoor
