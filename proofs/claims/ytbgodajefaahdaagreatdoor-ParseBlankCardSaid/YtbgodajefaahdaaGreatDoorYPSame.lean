/-
  Parts of this proof: The contracts of Same.
-/
import Derived.Test.YtbgodajefaahdaaGreatDoorYPBase
set_option linter.unusedVariables false
namespace Go.Proofs.YtbgodajefaahdaaGreatDoor
namespace Sm
open Go.RowKit
open Ex (Ex)
attribute [local go_sem] cs0 cs1 cs2 wU wV wW wX wY wZ w_ wJ wK wL wM wN wO wP wQ wR wS wT
set_option maxHeartbeats 8000000
theorem abd:∀(n:Nat) (l m:List Int),n<=l.length->n<=m.length->(Di.sj (fun i=>l.getD i 0) (fun i=>m.getD i 0) n=true↔l.take n=m.take n)
 | 0,l,m,_,_=>by simp[Di.sj]
 | n+1,l,m,h1,h2=>by
  have ih:=abd n l m (by omega) (by omega);rw[Di.sj,Bool.and_eq_true,ih,afr (show n<l.length by omega),afr (show n<m.length by omega)];have e1:l.getD n 0=l[n]:=by simp[List.getD,List.getElem?_eq_getElem (show n<l.length by omega)]
  have e2:m.getD n 0=m[n]:=by simp[List.getD,List.getElem?_eq_getElem (show n<m.length by omega)]
  rw[beq_iff_eq,e1,e2];constructor
  · rintro⟨a,b⟩;rw[a,b]
  · intro h;have:=List.append_inj h (by simp;omega);exact⟨this.1,by simpa using this.2⟩
where afr {l:List Int} {k:Nat} (h:k<l.length):l.take (k+1)=l.take k++[l[k]]:=Ex.ar7 h
theorem aa_ (l m:List Int):Di.oo l.length m.length (fun i=>l.getD i 0) (fun i=>m.getD i 0)=decide (l=m):=by
 unfold Di.oo;by_cases h:l.length=m.length
 · rw[beq_iff_eq.2 h,Bool.true_and];have:=abd l.length l m (Nat.le_refl _) (by omega);rw[List.take_length,h,List.take_length] at this;rw[h];by_cases e:l=m
   · rw[decide_eq_true e];exact this.2 e
   · rw[decide_eq_false e]
     cases hh:Di.sj (fun i=>l.getD i 0) (fun i=>m.getD i 0) m.length with
     | false=>rfl
     | true=>exact absurd (this.1 hh) e
 · rw[beq_eq_false_iff_ne.2 h,Bool.false_and,decide_eq_false (fun e=>h (by rw[e]))]
theorem G9 (x y:Dt):Di.o_ x.op x.a x.b x.n x.vs.length x.ws.length (fun i=>x.vs.getD i 0) (fun i=>x.ws.getD i 0) y.op y.a y.b y.n y.vs.length y.ws.length (fun i=>y.vs.getD i 0) (fun i=>y.ws.getD i 0)=kQ x y:=by
 unfold Di.o_ kQ;rw[aa_,aa_];rfl
theorem asf {w:World} (x y:St) (P Q:Pl):Hid (∀W,Below ((w.alloc (.cells (cs x P) 60)).alloc (.cells (cs y Q) 60)).heap.size ((w.alloc (.cells (cs x P) 60)).alloc (.cells (cs y Q) 60)) W->dK W w.heap.size x P/\dK W (w.heap.size+1) y Q):=Lib.hid fun W hb=>by
 have h1:dK (w.alloc (.cells (cs x P) 60)) w.heap.size x P:=Ao;have h2:=Ao (w:=w.alloc (.cells (cs x P) 60)) (x:=y) (P:=Q);have e:(w.alloc (.cells (cs x P) 60)).heap.size=w.heap.size+1:=by simp
 rw[e] at h2;exact⟨(h1.on bl).on hb,h2.on hb⟩
end Sm
end Go.Proofs.YtbgodajefaahdaaGreatDoor
