/-
  Parts of this proof: The contracts of Same.
-/
import Derived.Test.YtbgodajefaahdaaGreatDoorZPBase
set_option linter.unusedVariables false
namespace Go.Proofs.YtbgodajefaahdaaGreatDoor.Sm
open Go.RowKit
open Go.Proofs.YtbgodajefaahdaaGreatDoor.Ex (Ex)
attribute [local go_sem] cs0 cs1 cs2 cs3 cs4 cs5 cs6 cs7 cs8 cs9 cs10 cs11 cs12 cs13 cs14 cs15 cs16 cs17 cs18 cs19 cs20
set_option maxHeartbeats 8000000
theorem eqTo_list:∀(n:Nat) (l m:List Int),n<=l.length->n<=m.length->(Di.eqTo (fun i=>l.getD i 0) (fun i=>m.getD i 0) n=true↔l.take n=m.take n)
 | 0,l,m,_,_=>by simp[Di.eqTo]
 | n+1,l,m,h1,h2=>by
  have ih:=eqTo_list n l m (by omega) (by omega);rw[Di.eqTo,Bool.and_eq_true,ih,take_snoc' (show n<l.length by omega),take_snoc' (show n<m.length by omega)];have e1:l.getD n 0=l[n]:=by simp[List.getD,List.getElem?_eq_getElem (show n<l.length by omega)]
  have e2:m.getD n 0=m[n]:=by simp[List.getD,List.getElem?_eq_getElem (show n<m.length by omega)]
  rw[beq_iff_eq,e1,e2];constructor
  · rintro⟨a,b⟩;rw[a,b]
  · intro h;have:=List.append_inj h (by simp;omega);exact⟨this.1,by simpa using this.2⟩
where take_snoc' {l:List Int} {k:Nat} (h:k<l.length):l.take (k+1)=l.take k++[l[k]]:=Ex.take_snoc h
theorem eqL_list (l m:List Int):Di.eqL l.length m.length (fun i=>l.getD i 0) (fun i=>m.getD i 0)=decide (l=m):=by
 unfold Di.eqL;by_cases h:l.length=m.length
 · rw[beq_iff_eq.2 h,Bool.true_and];have:=eqTo_list l.length l m (Nat.le_refl _) (by omega);rw[List.take_length,h,List.take_length] at this;rw[h];by_cases e:l=m
   · rw[decide_eq_true e];exact this.2 e
   · rw[decide_eq_false e]
     cases hh:Di.eqTo (fun i=>l.getD i 0) (fun i=>m.getD i 0) m.length with
     | false=>rfl
     | true=>exact absurd (this.1 hh) e
 · rw[beq_eq_false_iff_ne.2 h,Bool.false_and,decide_eq_false (fun e=>h (by rw[e]))]
theorem sameD_list (x y:Dt):Di.sameD x.op x.a x.b x.n x.vs.length x.ws.length (fun i=>x.vs.getD i 0) (fun i=>x.ws.getD i 0) y.op y.a y.b y.n y.vs.length y.ws.length (fun i=>y.vs.getD i 0) (fun i=>y.ws.getD i 0)=sameDt x y:=by
 unfold Di.sameD sameDt;rw[eqL_list,eqL_list];rfl
theorem two_far {w:World} (x y:St) (P Q:Pl):Hid (∀W,Below ((w.alloc (.cells (cs x P) 60)).alloc (.cells (cs y Q) 60)).heap.size ((w.alloc (.cells (cs x P) 60)).alloc (.cells (cs y Q) 60)) W->box21 W w.heap.size x P/\box21 W (w.heap.size+1) y Q):=Lib.hid fun W hb=>by
 have h1:box21 (w.alloc (.cells (cs x P) 60)) w.heap.size x P:=box_new21;have h2:=box_new21 (w:=w.alloc (.cells (cs x P) 60)) (x:=y) (P:=Q);have e:(w.alloc (.cells (cs x P) 60)).heap.size=w.heap.size+1:=by simp
 rw[e] at h2;exact⟨(h1.on bl).on hb,h2.on hb⟩
end Go.Proofs.YtbgodajefaahdaaGreatDoor.Sm
