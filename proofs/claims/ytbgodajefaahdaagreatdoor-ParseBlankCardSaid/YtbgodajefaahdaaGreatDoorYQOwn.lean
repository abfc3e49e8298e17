/-
  Parts of this proof: Rows of records that a call made.
-/
import Derived.Test.YtbgodajefaahdaaGreatDoorYPBase
open List renaming length_append->ae
open Go renaming Value->af
set_option linter.unusedVariables false
namespace Go.Proofs.YtbgodajefaahdaaGreatDoor
namespace Md
open Go.RowKit
open Ex (Lo FZ)
set_option maxHeartbeats 2000000
def ou (L:List (Array af)):List af:=L.flatMap (·.toList)
theorem TF (c:Array af) (t:List (Array af)):ou (c::t)=c.toList++ou t:=rfl
theorem TE (a b:List (Array af)):ou (a++b)=ou a++ou b:=List.flatMap_append
theorem JG {k:Nat}:∀{L:List (Array af)},(∀c∈L,c.size=k)->(ou L).length=L.length*k
 | [],_=>by simp[ou]
 | c::t,h=>by
  rw[TF,ae,Array.length_toList,h c List.mem_cons_self,JG fun d hd=>h d (List.mem_cons_of_mem _ hd),List.length_cons,Nat.add_mul];omega
theorem JF {k:Nat}:∀{L:List (Array af)} {i r:Nat} (hL:∀c∈L,c.size=k) (hi:i<L.length),r<k->(ou L)[i*k+r]?=L[i][r]?
 | [],i,r,_,hi,_=>absurd hi (Nat.not_lt_zero _)
 | c::t,0,r,hL,hi,hr=>by
  have hc:=hL c List.mem_cons_self;rw[TF,List.getElem?_append_left (by rw[Array.length_toList];omega),Array.getElem?_toList,show 0*k+r=r by omega];rfl
 | c::t,i+1,r,hL,hi,hr=>by
  have hc:=hL c List.mem_cons_self;rw[TF,List.getElem?_append_right (by rw[Array.length_toList,hc,Nat.add_mul];omega),Array.length_toList,hc,show(i+1)*k+r-k=i*k+r by rw[Nat.add_mul];omega,JF (fun d hd=>hL d (List.mem_cons_of_mem _ hd)) (by simpa using hi) hr];rfl
theorem TG {L:List (Array af)} (hL:∀c∈L,c.all (·.oneCell')=true):∀u∈ou L,u.oneCell'=true:=by
 intro u hu;obtain⟨c,hc,h⟩:=List.mem_flatMap.1 hu;have:=hL c hc;rw[Array.all_eq_true_iff_forall_mem] at this;exact this u (Array.mem_def.2 h)
structure Kind (LT T:TypeId) (k:Nat):Prop where
 slice:Tryz.prog.underlying LT=some (.slice T)
 info:∃i z,Tryz.prog.info? T=some i/\i.zero=some z/\i.size=k/\z.cells.size=k/\i.bytes<=1000
 pos:0<k
def iH {α:Type} (k:Nat) (R:Rec α):Prop:=∀{G:Nat->Prop} {w:World} {x:α} {c:Array af},R G w x c->c.size=k/\c.all (·.oneCell')=true
def mI {α:Type} (T:TypeId) (k:Nat) (R:Rec α) (base:Nat) (w:World) (v:af) (l:List α):Prop:=
 ∃L:List (Array af),L.length=l.length/\(∀i,(h:i<l.length)->(h2:i<L.length)->R (Lo base) w l[i] L[i])/\w.ownsRow base T k v l.length (ou L)
section
variable {α:Type} {LT T:TypeId} {k:Nat} {R:Rec α} {base:Nat} {w w2:World} {v:af} {l l2:List α}
theorem mI.nil:mI T k R base w (.slice none 0 0) ([]:List α):=⟨[],rfl,fun i h=>absurd h (Nat.not_lt_zero _),World.ownsRow_nil _ _ _ _⟩
theorem mI.on (hm:fC R) (h:mI T k R base w v l) (hb:Below w.heap.size w w2) (hbs:base<=w.heap.size):mI T k R base w2 v l:=by
 obtain⟨L,h1,h2,h3⟩:=h;exact⟨L,h1,fun i hi hi2=>hm hb.size (fun b g hg=>⟨g,hb.block b hg⟩) (h2 i hi hi2),h3.kept (row:=none) ⟨hb.os,hb.tape,hb.output,hb.size,fun k hk _=>hb.block k hk⟩ (by cases v.ownBlock <;> simp)⟩
theorem mI.below {w0:World} (h:mI T k R base w v l) (hg:w.grownBy w2 v.ownBlock) (hb0:Below w0.heap.size w0 w) (h0:w0.heap.size<=base) (hbs:base<=w.heap.size):Below w0.heap.size w0 w2:=by
 obtain⟨L,h1,h2,h3⟩:=h;exact hb0.grown hg (by omega) fun j hj=>by have:=(h3.lt j hj).1;omega
theorem mI.rw (hm:fC R) (hs:iH k R) (h:mI T k R base w v l) (hn:l.length<=1000000):∃p c,v=.slice p l.length c/\Rw k R (Lo w.heap.size) w l p l.length:=by
 obtain⟨L,h1,h2,h3⟩:=h;rcases h3.2 with⟨rfl,h0⟩|⟨g,cap,cur,rfl,hb,hg,-⟩
 · exact⟨none,0,by rw[h0],rfl,by omega,.inl h0⟩
 · have hgl:g<w.heap.size:=(Array.getElem?_eq_some_iff.1 hg).1;have hL:∀c∈L,c.size=k:=fun c hc=>by
    obtain⟨i,hi,rfl⟩:=List.getElem_of_mem hc;exact(hs (h2 i (by omega) hi)).1
   refine⟨some ⟨g,0,none⟩,cap,rfl,rfl,by omega,.inr ⟨g,0,rfl,hgl,hgl,Lib.hid fun i hi=>?_⟩⟩;have hi2:i<L.length:=by omega
   have hR:=h2 i hi hi2;refine⟨L[i],(hs hR).1,fun r u hu=>?_,hm (Nat.le_refl _) (fun b _ hb=>⟨hb,rfl⟩) hR⟩;have hr:r<k:=by have:=(Array.getElem?_eq_some_iff.1 hu).1;rwa [(hs hR).1] at this
   have hlt:i*k+r<l.length*k:=by
    have:=Nat.mul_le_mul_right k (show i+1<=l.length by omega);rw[Nat.add_mul] at this;omega
   rw[Nat.zero_add,h3.cellAt (i*k+r) hlt,JF hL hi2 hr];exact hu
theorem aiJ {P:Program} {w:World} (base:Nat) (t ty e:TypeId) (i:TypeInfo) (size:Nat) (ht:P.underlying t=some (.slice e)) (hi:P.info? e=some i)
 (v:af) (n:Nat) (xs:List af) (hown:w.ownsRow base e size v n xs) (c:Nat):(Builtin.append_ #[t,t] ty #[v,.slice none 0 c]).run P w=.ok v w:=by
 rcases hown.2 with⟨rfl,rfl⟩|⟨g,cap,cur,rfl,-,-,hnc,-⟩
 · simp[Builtin.append_,run_underlying ht,sizeOf,typeInfo,hi,Builtin.lenOf,Builtin.firstCells]
 · simp[Builtin.append_,run_underlying ht,sizeOf,typeInfo,hi,Builtin.lenOf,Builtin.firstCells,hnc,storeCells]
theorem Rw.list {G:Nat->Prop} {p:Option Addr} {m:Nat} (hs:iH k R) (h:Rw k R G w l p m):∃L:List (Array af),L.length=l.length/\(∀i,(h:i<l.length)->(h2:i<L.length)->R G w l[i] L[i])/\∀a,p=some a->∀j u,(ou L)[j]?=some u->w.cell? (a.add j)=some u:=by
 obtain⟨h1,h2,h3|⟨b,o,rfl,hg,hb,h4⟩⟩:=h
 · have h0:l.length=0:=by omega
   exact⟨[],by rw[h0];rfl,fun i hi=>by omega,fun a _ j u hu=>by simp[ou] at hu⟩
 · have hc:=h4.out
   let L:List (Array af):=(List.range l.length).map fun i=>if hi:i<l.length then (hc i hi).choose else #[]
   have hLl:L.length=l.length:=by simp[L]
   have TY:∀i,(hi:i<l.length)->(hi2:i<L.length)->L[i]=(hc i hi).choose:=fun i hi hi2=>by simp[L,hi]
   have hz:∀c∈L,c.size=k:=fun c hcm=>by
    obtain⟨i,hi,rfl⟩:=List.getElem_of_mem hcm;rw[TY i (by omega) hi];exact(hc i (by omega)).choose_spec.1
   refine⟨L,hLl,fun i hi hi2=>by rw[TY i hi hi2];exact(hc i hi).choose_spec.2.2,fun a ha j u hu=>?_⟩;cases ha
   rw[FZ];have hj:j<l.length*k:=by
    have:=(List.getElem?_eq_some_iff.1 hu).1;rwa [JG hz,hLl] at this
   have hk:0<k:=by
    rcases Nat.eq_zero_or_pos k with h0|h0
    · subst h0;omega
    · exact h0
   have e:j=(j / k)*k+j % k:=by rw[Nat.mul_comm];exact(Nat.div_add_mod j k).symm
   have hi:j / k<l.length:=Nat.div_lt_of_lt_mul (by rwa [Nat.mul_comm]);have hi2:j / k<L.length:=by omega
   rw[e,JF hz hi2 (Nat.mod_lt _ hk)] at hu;rw[TY _ hi hi2] at hu;have:=(hc _ hi).choose_spec.2.1 _ _ hu;rwa [Nat.add_assoc,← e] at this
theorem mI.app (I:Kind LT T k) (hm:fC R) (hs:iH k R) (ho:mI T k R base w v l) {p:Option Addr} {m:Nat} (h:Rw k R (Lo base) w l2 p m) (c:Nat) (hb:base<=w.heap.size) (hn:l.length+m<=1000000) :
 ∃(v':af) (w':World),(Builtin.append_ #[LT,LT] LT #[v,.slice p m c]).run Tryz.prog w=.ok v' w'/\mI T k R base w' v' (l++l2)/\w.grownBy w' v.ownBlock:=by
 obtain⟨L0,a1,a2,a3⟩:=ho;obtain⟨L,b1,b2,b3⟩:=Rw.list hs h;have hlm:=h.1;have hz0:∀c∈L0,c.size=k:=fun c hc=>by
  obtain⟨i,hi,rfl⟩:=List.getElem_of_mem hc;exact(hs (a2 i (by omega) hi)).1
 have hz:∀c∈L,c.size=k/\c.all (·.oneCell')=true:=fun c hc=>by
  obtain⟨i,hi,rfl⟩:=List.getElem_of_mem hc;exact hs (b2 i (by omega) hi)
 obtain⟨i0,z,hi0,hi1,hi2,hi3,hi4⟩:=I.info
 cases p with
 | none=>
  obtain rfl:m=0:=by
   rcases h.2.2 with h|⟨b,o,h,-⟩
   · exact h
   · cases h
  obtain rfl:=List.length_eq_zero_iff.1 hlm;exact⟨v,w,aiJ base _ _ _ i0 k I.slice hi0 v _ _ a3 c,⟨L0,by simpa using a1,fun i hi hi2=>by have:=a2 i (by simpa using hi) hi2;simpa using this,by simpa using a3⟩,⟨rfl,rfl,rfl,Nat.le_refl _,fun _ _ _=>rfl⟩⟩
 | some a=>
  have hmx:(l.length+m)*i0.bytes<=140737488355328:=by
   have h1:(l.length+m)*i0.bytes<=1000000*1000:=Nat.mul_le_mul hn hi4;omega
  obtain⟨v',w',e1,e2,e3,-,-⟩:=run_append_own_at (P:=Tryz.prog) w base LT LT T i0 z k i0.bytes I.slice hi0 hi1 hi2 rfl hi3 I.pos v l.length _ a3 a m c (ou L) (by rw[JG fun c hc=>(hz c hc).1,b1,hlm]) (b3 a rfl) (TG fun c hc=>(hz c hc).2) (by unfold maxLen;omega) hmx hb;have keep:∀{x:α} {c:Array af},R (Lo base) w x c->R (Lo base) w' x c:=fun {x c} hr=>hm e3.size (fun b hbb hlt=>⟨hbb,e3.block b hlt (fun he=>by
   have:=(a3.lt b he.symm).1;have:b<base:=hbb;omega)⟩) hr
  refine⟨v',w',e1,⟨L0++L,by rw[ae,ae,a1,b1],fun i hi hi2=>?_,by rw[TE,ae,hlm];exact e2⟩,e3⟩;rw[List.getElem_append,List.getElem_append];by_cases h0:i<l.length
  · rw[dif_pos h0,dif_pos (by omega)];exact keep (a2 i h0 (by omega))
  · rw[dif_neg h0,dif_neg (by omega)];simp only[a1];exact keep (b2 (i-l.length) (by rw[ae] at hi;omega) (by rw[ae] at hi2;omega))
end
theorem nC {LT T:TypeId} {k b:Nat} {z:af} (h1:Tryz.prog.underlying LT=some (.slice T)) (h2:(Tryz.prog.info? T).map (fun i=>(i.zero,i.size,i.bytes))=some (some z,k,b)) (h3:z.cells.size=k) (h4:b<=1000) (h5:0<k):Kind LT T k:=by
 cases h:Tryz.prog.info? T with
 | none=>rw[h] at h2;cases h2
 | some i=>
  rw[h] at h2;simp only[Option.map_some,Option.some.injEq,Prod.mk.injEq] at h2;obtain⟨e1,e2,e3⟩:=h2;exact⟨h1,⟨i,z,h,e1,e2,by rw[h3],by rw[e3];exact h4⟩,h5⟩
theorem JY:Kind 48 9 1:=nC Tryz.underlying48 (z:=.string ⟨#[]⟩) (b:=16) (by kernel_rfl) (by decide) (by decide) (by decide)
theorem ED:Kind 117 179 2:=nC Tryz.underlying117 (z:=.agg #[.string ⟨#[]⟩,.int .i64 0]) (b:=24) (by kernel_rfl) (by decide) (by decide) (by decide)
theorem anB:Kind 24 53 13:=nC Tryz.underlying24 (z:=.agg #[.string ⟨#[]⟩,.slice none 0 0,.slice none 0 0,.slice none 0 0,.slice none 0 0,.slice none 0 0,.slice none 0 0,.slice none 0 0,.slice none 0 0,.slice none 0 0,.slice none 0 0,.slice none 0 0,.slice none 0 0]) (b:=304) (by kernel_rfl) (by decide) (by decide) (by decide)
theorem Bj:iH 2 dH:=fun h=>dH.is h
theorem kP:iH 13 gH:=fun h=>gH.is h
end Md
end Go.Proofs.YtbgodajefaahdaaGreatDoor
