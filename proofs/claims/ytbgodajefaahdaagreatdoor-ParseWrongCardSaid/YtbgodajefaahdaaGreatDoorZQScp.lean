/-
  Parts of this proof: The scope of a check in memory, and the contract. Rows of records that a call made. Words for the reader of tokens in memory, and fo. The contracts of the reader's single steps. The contracts of the reader's tests. The contracts of the reader's small rules. The contract of the reader's argument. The kinds of the lists that a model has, and the.
-/
import Derived.Test.YtbgodajefaahdaaGreatDoorZPBase
import Derived.Test.YtbgodajefaahdaaGreatDoorZTEat
set_option linter.unusedVariables false
open Go.Lib (hid)
namespace Go.Proofs.YtbgodajefaahdaaGreatDoor.Md
open Go.RowKit Go.Maps
open Go.Proofs.YtbgodajefaahdaaGreatDoor.Na (bs bs_inj chk)
open Go.Proofs.YtbgodajefaahdaaGreatDoor.Sm (orE_no orE_yes)
open Go.Proofs.YtbgodajefaahdaaGreatDoor.Ex (Gives bl_alloc bl_drewN bl_drew)
set_option maxHeartbeats 2000000
set_option maxRecDepth 100000
structure But (b:Nat) (a w:World):Prop where
 os:w.os=a.os
 tape:w.tape=a.tape
 output:w.output=a.output
 size:a.heap.size<=w.heap.size
 block:∀k,k<a.heap.size->k≠b->w.heap[k]?=a.heap[k]?
theorem But.of {b:Nat} {a w:World} (h:Below a.heap.size a w):But b a w:=⟨h.os,h.tape,h.output,h.size,fun k hk _=>h.block k hk⟩
theorem But.trans {b:Nat} {u v w:World} (h:But b u v) (g:But b v w):But b u w:=⟨g.os.trans h.os,g.tape.trans h.tape,g.output.trans h.output,Nat.le_trans h.size g.size,fun k hk hb=>(g.block k (Nat.lt_of_lt_of_le hk h.size) hb).trans (h.block k hk hb)⟩
theorem But.below {b B:Nat} {w0 a w:World} (h0:Below B w0 a) (h:But b a w) (hB:B<=b) (hs:B<=a.heap.size):Below B w0 w:=⟨h.os.trans h0.os,h.tape.trans h0.tape,h.output.trans h0.output,Nat.le_trans h0.size h.size,fun k hk=>(h.block k (by omega) (by omega)).trans (h0.block k hk)⟩
theorem But.then {b:Nat} {u v w:World} (h:But b u v) (g:Below v.heap.size v w):But b u w:=h.trans (But.of g)
theorem But.refl (b:Nat) (w:World):But b w w:=But.of (Below.refl _ _)
theorem But.alloc {b:Nat} {a w:World} {o:Obj} (h:But b a w):But b a (w.alloc o):=h.then (bl_alloc (Below.refl _ _))
theorem But.drew {b:Nat} {a w:World} (h:But b a w):But b a w.drew:=h.then (bl_drew (Below.refl _ _))
theorem But.drewN {b n:Nat} {a w:World} (h:But b a w):But b a (w.drewN n):=h.then (bl_drewN (Below.refl _ _))
theorem Box.but {b g:Nat} {w w2:World} {t:TypeId} {c:Array Value} (hb:But b w w2) (hg:g≠b) (h:Box w g t c):Box w2 g t c:=h.keep (hb.block g h.lt hg)
theorem law:Keyed Tryz.prog 9:=string_keyed Tryz.underlying9
theorem zero_bool (w:World):(zeroValue 4).run Tryz.prog w=.ok (.bool false) w:=by kernel_rfl
theorem plain_bool {H:Type} {v:Value} {z:DataW H×List MemPlace} (h:plainElem Tryz.prog 4 v=some z):∃c,v=.bool c/\z=(.lit (.bool c),[]):=by
 unfold plainElem at h;rw[Tryz.underlying4] at h
 cases v <;> simp at h
 exact⟨_,rfl,h.symm⟩
def keyL (x:ByteArray):Lit:=.string (bs x)
theorem keyL_inj {x y:ByteArray} (h:keyL x=keyL y):x=y:=by unfold keyL at h;exact bs_inj (Lit.string.inj h)
theorem key_lit (x:ByteArray):WideAt.IsKeyLit (keyL x):=by unfold keyL;simp[WideAt.IsKeyLit]
theorem fold_out {u z:DataW Unit} {k:Lit}:∀{acc:List Lit} {m:DataW Unit},k ∉ acc->(acc.foldl (fun m x=>m.put x u) m).atKey k z=m.atKey k z:=by
 intro acc
 induction acc with
 | nil=>intro m _;rfl
 | cons y r ih=>intro m hn;rw[List.foldl_cons,ih (fun hh=>hn (by simp[hh])),atKey_put_other (fun e=>hn (by simp[e]))]
theorem fold_in {u z:DataW Unit} {k:Lit}:∀{acc:List Lit} {m:DataW Unit},IsMap m->(∀x∈acc,WideAt.IsKeyLit x)->k∈acc->(acc.foldl (fun m x=>m.put x u) m).atKey k z=u
 | [],m,_,_,h=>by simp at h
 | x::t,m,hm,ha,h=>by
  rw[List.foldl_cons];by_cases g:k∈t
  · exact fold_in (hm.put x u) (fun y hy=>ha y (by simp[hy])) g
  · obtain rfl:k=x:=by rcases List.mem_cons.1 h with h|h;exact h;exact absurd h g
    have hk:=ha k (by simp);rw[fold_out g,atKey_put_same hm hk]
def Da (acc:List Lit):DataW Unit:=setOf (.lit (.bool true)) acc
theorem Da_snoc (acc:List Lit) (k:Lit):(Da acc).put k (.lit (.bool true))=Da (acc++[k]):=by unfold Da;rw[setOf_snoc]
theorem Da_look {acc:List Lit} {k:Lit} (ha:∀x∈acc,WideAt.IsKeyLit x) {c:Bool} (h:(Da acc).atKey k (.lit (.bool false))=.lit (.bool c)):c=true↔k∈acc:=by
 by_cases g:k∈acc
 · unfold Da setOf at h;rw[fold_in isMap_empty ha g] at h;injection h with h;injection h with h;exact⟨fun _=>g,fun _=>h.symm⟩
 · unfold Da setOf at h;rw[fold_out g] at h;have:(DataW.lit (Lit.bool false):DataW Unit)=.lit (.bool c):=h;injection this with h;injection h with h;exact⟨fun e=>absurd (h.trans e) (by decide),fun e=>absurd e g⟩
def Scp (b:Nat) (acc:List ByteArray) (w:World):Prop:=w.ownsMap Tryz.prog 9 (plainElem Tryz.prog 4) b acc.length (Da (acc.map keyL))
theorem own_kept {kt:TypeId} {w w2:World} {b n:Nat} {D:DataW Unit} (h:w.ownsMap Tryz.prog kt (plainElem Tryz.prog 4) b n D) (hb:Below w.heap.size w w2):w2.ownsMap Tryz.prog kt (plainElem Tryz.prog 4) b n D:=
 h.kept (row:=none) ⟨hb.os,hb.tape,hb.output,hb.size,fun k hk _=>hb.block k hk⟩ (by simp)
theorem Scp.on {b:Nat} {acc:List ByteArray} {w w2:World} (h:Scp b acc w) (hb:Below w.heap.size w w2):Scp b acc w2:=own_kept h hb
theorem key_any {x:ByteArray} (h:x.size<=9223372036854775807):keyOf Tryz.prog 9 (.string x)=some (keyL x):=by
 refine Go.WideMaps.keyOf_string_mk Tryz.underlying9 ?_;unfold maxLen;omega
theorem mem_key {x:ByteArray} {acc:List ByteArray}:keyL x∈acc.map keyL↔x∈acc:=by
 rw[List.mem_map];constructor
 · rintro⟨y,hy,e⟩;rw[← keyL_inj e];exact hy
 · intro h;exact⟨x,h,rfl⟩
theorem keys_lit (acc:List ByteArray):∀k∈acc.map keyL,WideAt.IsKeyLit k:=fun k hk=>by obtain⟨y,-,rfl⟩:=List.mem_map.1 hk;exact key_lit y
theorem look_scope {w:World} {b:Nat} {acc:List ByteArray} {x:ByteArray} (h:Scp b acc w) (hkey:keyOf Tryz.prog 9 (.string x)=some (keyL x)) :
 (Instr.lookup 96 (.map (some b)) (.string x) false).run Tryz.prog w=.ok (.bool (decide (x∈acc))) w:=by
 obtain⟨v,ps,hrun,hv⟩:=World.ownsMap.lookup (t:=96) h law Tryz.underlying96 (zero_bool w) (plainElem_bool Tryz.underlying4 false) hkey;obtain⟨c,rfl,hc⟩:=plain_bool hv;simp only[Prod.mk.injEq] at hc;have:=Da_look (keys_lit acc) hc.1;rw[mem_key] at this;rw[hrun];by_cases g:x∈acc
 · rw[decide_eq_true g,this.2 g]
 · rw[decide_eq_false g]
   cases c with
   | true=>exact absurd (this.1 rfl) g
   | false=>rfl
def accS (acc:List ByteArray) (x:ByteArray):List ByteArray:=if decE acc x=0 then acc++[x] else acc
def Decl (b:Nat) (acc:List ByteArray) (x:ByteArray) (w:World) (e:Ending) (w':World):Prop:=e=.returned (.int .i64 (decE acc x))/\Scp b (accS acc x) w'/\But b w w'
theorem chk_cases (l:List UInt8):chk l=0∨chk l=3:=by unfold chk;split <;> simp
theorem ncheck_at {s:ByteArray} {x:Int} (h:chk (bs s)=x) (hs:s.size<=9223372036854775807) (w:World):Calls Tryz.prog 35 #[.string s] w (Gives (.int .i64 x) w):=by rw[← h];exact Na.check_any s w hs
theorem declare_any (b:Nat) (acc:List ByteArray) (x:ByteArray) (w:World) (hS:Scp b acc w) (hn:acc.length<=100000) (hx:x.size<=9223372036854775807):Calls Tryz.prog 69 #[.map (some b),.string x] w (Decl b acc x w):=by
 have HS:=hid hS;clear hS;rcases chk_cases (bs x) with h1|h1
 · have hkey:=key_any hx;by_cases hin:x∈acc
   · have HD:=hid (show decE acc x=4 by unfold decE;rw[h1,orE_yes,if_pos hin]);have HA:=hid (show accS acc x=acc by unfold accS;rw[HD.out];rfl);go_enter Tryz.func69,Tryz.ntmps69;go_wp2_with fail;refine(ncheck_at h1 hx w).mono ?_;rintro e w2 ⟨rfl,hb2⟩;have hl:=look_scope (HS.out.on hb2) hkey;rw[decide_eq_true hin] at hl;go_wp2_with fail;go_ret;exact⟨by rw[HD.out];rfl,by rw[HA.out];exact HS.out.on hb2,But.of hb2⟩
   · have HD:=hid (show decE acc x=0 by unfold decE;rw[h1,orE_yes,if_neg hin]);have HA:=hid (show accS acc x=acc++[x] by unfold accS;rw[HD.out];rfl);go_enter Tryz.func69,Tryz.ntmps69;go_wp2_with fail;refine(ncheck_at h1 hx w).mono ?_;rintro e w2 ⟨rfl,hb2⟩;have HS2:=hid (HS.out.on hb2);have hl:=look_scope HS2.out hkey;rw[decide_eq_false hin] at hl;go_wp2_with (at_mapUpdate;refine wpList_mapUpdate_own _ rfl _ _ _ 96 rfl 9 4 law Tryz.underlying96 _ b acc.length _ rfl HS2.out (by unfold maxLen;omega) _ _ _ rfl rfl hkey _ [] (plainElem_bool Tryz.underlying4 true) ?_)
     intro w3 hown3 hgrow3;have HO3:=hid hown3;rw[Da_snoc] at HO3;have HG:=hid hgrow3;have HB:=hid hb2;clear hown3 hgrow3 hl hb2;go_wp2_with fail;go_ret;refine⟨by rw[HD.out];rfl,?_,(But.of HB.out).trans ⟨HG.out.os,HG.out.tape,HG.out.output,HG.out.size,fun k hk hne=>HG.out.block k hk (fun e=>hne (Option.some.inj e))⟩⟩;rw[HA.out];unfold Scp;rw[List.map_append,List.length_append];exact HO3.out
 · have HD:=hid (show decE acc x=3 by unfold decE;rw[h1];exact orE_no (by omega));have HA:=hid (show accS acc x=acc by unfold accS;rw[HD.out];rfl);go_enter Tryz.func69,Tryz.ntmps69;go_wp2_with fail;refine(ncheck_at h1 hx w).mono ?_;rintro e w2 ⟨rfl,hb2⟩;go_wp2_with fail;go_ret;exact⟨by rw[HD.out];rfl,by rw[HA.out];exact HS.out.on hb2,But.of hb2⟩
theorem declare_at {b:Nat} {acc:List ByteArray} {x:ByteArray} {v:Int} {acc2:List ByteArray} (hv:decE acc x=v) (h2:accS acc x=acc2) (w:World) (hS:Scp b acc w) (hn:acc.length<=100000) (hx:x.size<=9223372036854775807):Calls Tryz.prog 69 #[.map (some b),.string x] w fun e w'=>e=.returned (.int .i64 v)/\Scp b acc2 w'/\But b w w':=by
 subst hv h2;exact declare_any b acc x w hS hn hx
end Go.Proofs.YtbgodajefaahdaaGreatDoor.Md
namespace Go.Proofs.YtbgodajefaahdaaGreatDoor.Md
open Go.RowKit
open Go.Proofs.YtbgodajefaahdaaGreatDoor.Ex (Lo add_off)
set_option maxHeartbeats 2000000
def flatC (L:List (Array Value)):List Value:=L.flatMap (·.toList)
theorem flatC_cons (c:Array Value) (t:List (Array Value)):flatC (c::t)=c.toList++flatC t:=rfl
theorem flatC_app (a b:List (Array Value)):flatC (a++b)=flatC a++flatC b:=List.flatMap_append
theorem flatC_len {k:Nat}:∀{L:List (Array Value)},(∀c∈L,c.size=k)->(flatC L).length=L.length*k
 | [],_=>by simp[flatC]
 | c::t,h=>by
  rw[flatC_cons,List.length_append,Array.length_toList,h c List.mem_cons_self,flatC_len fun d hd=>h d (List.mem_cons_of_mem _ hd),List.length_cons,Nat.add_mul];omega
theorem flatC_get {k:Nat}:∀{L:List (Array Value)} {i r:Nat} (hL:∀c∈L,c.size=k) (hi:i<L.length),r<k->(flatC L)[i*k+r]?=L[i][r]?
 | [],i,r,_,hi,_=>absurd hi (Nat.not_lt_zero _)
 | c::t,0,r,hL,hi,hr=>by
  have hc:=hL c List.mem_cons_self;rw[flatC_cons,List.getElem?_append_left (by rw[Array.length_toList];omega),Array.getElem?_toList,show 0*k+r=r by omega];rfl
 | c::t,i+1,r,hL,hi,hr=>by
  have hc:=hL c List.mem_cons_self;rw[flatC_cons,List.getElem?_append_right (by rw[Array.length_toList,hc,Nat.add_mul];omega),Array.length_toList,hc,show(i+1)*k+r-k=i*k+r by rw[Nat.add_mul];omega,flatC_get (fun d hd=>hL d (List.mem_cons_of_mem _ hd)) (by simpa using hi) hr];rfl
theorem flatC_one {L:List (Array Value)} (hL:∀c∈L,c.all (·.oneCell')=true):∀u∈flatC L,u.oneCell'=true:=by
 intro u hu;obtain⟨c,hc,h⟩:=List.mem_flatMap.1 hu;have:=hL c hc;rw[Array.all_eq_true_iff_forall_mem] at this;exact this u (Array.mem_def.2 h)
structure Kind (LT T:TypeId) (k:Nat):Prop where
 slice:Tryz.prog.underlying LT=some (.slice T)
 info:∃i z,Tryz.prog.info? T=some i/\i.zero=some z/\i.size=k/\z.cells.size=k/\i.bytes<=1000
 pos:0<k
def Sized {α:Type} (k:Nat) (R:Rec α):Prop:=∀{G:Nat->Prop} {w:World} {x:α} {c:Array Value},R G w x c->c.size=k/\c.all (·.oneCell')=true
def OwnL {α:Type} (T:TypeId) (k:Nat) (R:Rec α) (base:Nat) (w:World) (v:Value) (l:List α):Prop:=
 ∃L:List (Array Value),L.length=l.length/\(∀i,(h:i<l.length)->(h2:i<L.length)->R (Lo base) w l[i] L[i])/\w.ownsRow base T k v l.length (flatC L)
section
variable {α:Type} {LT T:TypeId} {k:Nat} {R:Rec α} {base:Nat} {w w2:World} {v:Value} {l l2:List α}
theorem OwnL.nil:OwnL T k R base w (.slice none 0 0) ([]:List α):=⟨[],rfl,fun i h=>absurd h (Nat.not_lt_zero _),World.ownsRow_nil _ _ _ _⟩
theorem OwnL.on (hm:Mono R) (h:OwnL T k R base w v l) (hb:Below w.heap.size w w2) (hbs:base<=w.heap.size):OwnL T k R base w2 v l:=by
 obtain⟨L,h1,h2,h3⟩:=h;exact⟨L,h1,fun i hi hi2=>hm hb.size (fun b g hg=>⟨g,hb.block b hg⟩) (h2 i hi hi2),h3.kept (row:=none) ⟨hb.os,hb.tape,hb.output,hb.size,fun k hk _=>hb.block k hk⟩ (by cases v.ownBlock <;> simp)⟩
theorem OwnL.below {w0:World} (h:OwnL T k R base w v l) (hg:w.grownBy w2 v.ownBlock) (hb0:Below w0.heap.size w0 w) (h0:w0.heap.size<=base) (hbs:base<=w.heap.size):Below w0.heap.size w0 w2:=by
 obtain⟨L,h1,h2,h3⟩:=h;exact hb0.grown hg (by omega) fun j hj=>by have:=(h3.lt j hj).1;omega
theorem OwnL.rw (hm:Mono R) (hs:Sized k R) (h:OwnL T k R base w v l) (hn:l.length<=1000000):∃p c,v=.slice p l.length c/\Rw k R (Lo w.heap.size) w l p l.length:=by
 obtain⟨L,h1,h2,h3⟩:=h;rcases h3.2 with⟨rfl,h0⟩|⟨g,cap,cur,rfl,hb,hg,-⟩
 · exact⟨none,0,by rw[h0],rfl,by omega,.inl h0⟩
 · have hgl:g<w.heap.size:=(Array.getElem?_eq_some_iff.1 hg).1;have hL:∀c∈L,c.size=k:=fun c hc=>by
    obtain⟨i,hi,rfl⟩:=List.getElem_of_mem hc;exact(hs (h2 i (by omega) hi)).1
   refine⟨some ⟨g,0,none⟩,cap,rfl,rfl,by omega,.inr ⟨g,0,rfl,hgl,hgl,hid fun i hi=>?_⟩⟩;have hi2:i<L.length:=by omega
   have hR:=h2 i hi hi2;refine⟨L[i],(hs hR).1,fun r u hu=>?_,hm (Nat.le_refl _) (fun b _ hb=>⟨hb,rfl⟩) hR⟩;have hr:r<k:=by have:=(Array.getElem?_eq_some_iff.1 hu).1;rwa [(hs hR).1] at this
   have hlt:i*k+r<l.length*k:=by
    have:=Nat.mul_le_mul_right k (show i+1<=l.length by omega);rw[Nat.add_mul] at this;omega
   rw[Nat.zero_add,h3.cellAt (i*k+r) hlt,flatC_get hL hi2 hr];exact hu
theorem append_none {P:Program} {w:World} (base:Nat) (t ty e:TypeId) (i:TypeInfo) (size:Nat) (ht:P.underlying t=some (.slice e)) (hi:P.info? e=some i)
 (v:Value) (n:Nat) (xs:List Value) (hown:w.ownsRow base e size v n xs) (c:Nat):(Builtin.append_ #[t,t] ty #[v,.slice none 0 c]).run P w=.ok v w:=by
 rcases hown.2 with⟨rfl,rfl⟩|⟨g,cap,cur,rfl,-,-,hnc,-⟩
 · simp[Builtin.append_,run_underlying ht,sizeOf,typeInfo,hi,Builtin.lenOf,Builtin.firstCells]
 · simp[Builtin.append_,run_underlying ht,sizeOf,typeInfo,hi,Builtin.lenOf,Builtin.firstCells,hnc,storeCells]
theorem Rw.list {G:Nat->Prop} {p:Option Addr} {m:Nat} (hs:Sized k R) (h:Rw k R G w l p m):∃L:List (Array Value),L.length=l.length/\(∀i,(h:i<l.length)->(h2:i<L.length)->R G w l[i] L[i])/\∀a,p=some a->∀j u,(flatC L)[j]?=some u->w.cell? (a.add j)=some u:=by
 obtain⟨h1,h2,h3|⟨b,o,rfl,hg,hb,h4⟩⟩:=h
 · have h0:l.length=0:=by omega
   exact⟨[],by rw[h0];rfl,fun i hi=>by omega,fun a _ j u hu=>by simp[flatC] at hu⟩
 · have hc:=h4.out
   let L:List (Array Value):=(List.range l.length).map fun i=>if hi:i<l.length then (hc i hi).choose else #[]
   have hLl:L.length=l.length:=by simp[L]
   have hLi:∀i,(hi:i<l.length)->(hi2:i<L.length)->L[i]=(hc i hi).choose:=fun i hi hi2=>by simp[L,hi]
   have hz:∀c∈L,c.size=k:=fun c hcm=>by
    obtain⟨i,hi,rfl⟩:=List.getElem_of_mem hcm;rw[hLi i (by omega) hi];exact(hc i (by omega)).choose_spec.1
   refine⟨L,hLl,fun i hi hi2=>by rw[hLi i hi hi2];exact(hc i hi).choose_spec.2.2,fun a ha j u hu=>?_⟩;cases ha
   rw[add_off];have hj:j<l.length*k:=by
    have:=(List.getElem?_eq_some_iff.1 hu).1;rwa [flatC_len hz,hLl] at this
   have hk:0<k:=by
    rcases Nat.eq_zero_or_pos k with h0|h0
    · subst h0;omega
    · exact h0
   have e:j=(j / k)*k+j % k:=by rw[Nat.mul_comm];exact(Nat.div_add_mod j k).symm
   have hi:j / k<l.length:=Nat.div_lt_of_lt_mul (by rwa [Nat.mul_comm]);have hi2:j / k<L.length:=by omega
   rw[e,flatC_get hz hi2 (Nat.mod_lt _ hk)] at hu;rw[hLi _ hi hi2] at hu;have:=(hc _ hi).choose_spec.2.1 _ _ hu;rwa [Nat.add_assoc,← e] at this
theorem OwnL.app (I:Kind LT T k) (hm:Mono R) (hs:Sized k R) (ho:OwnL T k R base w v l) {p:Option Addr} {m:Nat} (h:Rw k R (Lo base) w l2 p m) (c:Nat) (hb:base<=w.heap.size) (hn:l.length+m<=1000000) :
 ∃(v':Value) (w':World),(Builtin.append_ #[LT,LT] LT #[v,.slice p m c]).run Tryz.prog w=.ok v' w'/\OwnL T k R base w' v' (l++l2)/\w.grownBy w' v.ownBlock:=by
 obtain⟨L0,a1,a2,a3⟩:=ho;obtain⟨L,b1,b2,b3⟩:=Rw.list hs h;have hlm:=h.1;have hz0:∀c∈L0,c.size=k:=fun c hc=>by
  obtain⟨i,hi,rfl⟩:=List.getElem_of_mem hc;exact(hs (a2 i (by omega) hi)).1
 have hz:∀c∈L,c.size=k/\c.all (·.oneCell')=true:=fun c hc=>by
  obtain⟨i,hi,rfl⟩:=List.getElem_of_mem hc;exact hs (b2 i (by omega) hi)
 obtain⟨i0,z,hi0,hi1,hi2,hi3,hi4⟩:=I.info
 cases p with
 | none=>
  obtain rfl:m=0:=by
   rcases h.2.2 with h|⟨b,o,h,-⟩
   · exact h
   · cases h
  obtain rfl:=List.length_eq_zero_iff.1 hlm;exact⟨v,w,append_none base _ _ _ i0 k I.slice hi0 v _ _ a3 c,⟨L0,by simpa using a1,fun i hi hi2=>by have:=a2 i (by simpa using hi) hi2;simpa using this,by simpa using a3⟩,⟨rfl,rfl,rfl,Nat.le_refl _,fun _ _ _=>rfl⟩⟩
 | some a=>
  have hmx:(l.length+m)*i0.bytes<=140737488355328:=by
   have h1:(l.length+m)*i0.bytes<=1000000*1000:=Nat.mul_le_mul hn hi4;omega
  obtain⟨v',w',e1,e2,e3,-,-⟩:=run_append_own_at (P:=Tryz.prog) w base LT LT T i0 z k i0.bytes I.slice hi0 hi1 hi2 rfl hi3 I.pos v l.length _ a3 a m c (flatC L) (by rw[flatC_len fun c hc=>(hz c hc).1,b1,hlm]) (b3 a rfl) (flatC_one fun c hc=>(hz c hc).2) (by unfold maxLen;omega) hmx hb;have keep:∀{x:α} {c:Array Value},R (Lo base) w x c->R (Lo base) w' x c:=fun {x c} hr=>hm e3.size (fun b hbb hlt=>⟨hbb,e3.block b hlt (fun he=>by
   have:=(a3.lt b he.symm).1;have:b<base:=hbb;omega)⟩) hr
  refine⟨v',w',e1,⟨L0++L,by rw[List.length_append,List.length_append,a1,b1],fun i hi hi2=>?_,by rw[flatC_app,List.length_append,hlm];exact e2⟩,e3⟩;rw[List.getElem_append,List.getElem_append];by_cases h0:i<l.length
  · rw[dif_pos h0,dif_pos (by omega)];exact keep (a2 i h0 (by omega))
  · rw[dif_neg h0,dif_neg (by omega)];simp only[a1];exact keep (b2 (i-l.length) (by rw[List.length_append] at hi;omega) (by rw[List.length_append] at hi2;omega))
end
theorem kind_of {LT T:TypeId} {k b:Nat} {z:Value} (h1:Tryz.prog.underlying LT=some (.slice T)) (h2:(Tryz.prog.info? T).map (fun i=>(i.zero,i.size,i.bytes))=some (some z,k,b)) (h3:z.cells.size=k) (h4:b<=1000) (h5:0<k):Kind LT T k:=by
 cases h:Tryz.prog.info? T with
 | none=>rw[h] at h2;cases h2
 | some i=>
  rw[h] at h2;simp only[Option.map_some,Option.some.injEq,Prod.mk.injEq] at h2;obtain⟨e1,e2,e3⟩:=h2;exact⟨h1,⟨i,z,h,e1,e2,by rw[h3],by rw[e3];exact h4⟩,h5⟩
theorem kTxt:Kind 48 9 1:=kind_of Tryz.underlying48 (z:=.string ⟨#[]⟩) (b:=16) (by kernel_rfl) (by decide) (by decide) (by decide)
theorem kFld:Kind 117 179 2:=kind_of Tryz.underlying117 (z:=.agg #[.string ⟨#[]⟩,.int .i64 0]) (b:=24) (by kernel_rfl) (by decide) (by decide) (by decide)
theorem kSte:Kind 24 53 13:=kind_of Tryz.underlying24 (z:=.agg #[.string ⟨#[]⟩,.slice none 0 0,.slice none 0 0,.slice none 0 0,.slice none 0 0,.slice none 0 0,.slice none 0 0,.slice none 0 0,.slice none 0 0,.slice none 0 0,.slice none 0 0,.slice none 0 0,.slice none 0 0]) (b:=304) (by kernel_rfl) (by decide) (by decide) (by decide)
theorem sFld:Sized 2 RFld:=fun h=>RFld.is h
theorem sSte:Sized 13 RSte:=fun h=>RSte.is h
end Go.Proofs.YtbgodajefaahdaaGreatDoor.Md
namespace Go.Proofs.YtbgodajefaahdaaGreatDoor.Ps
open Go.Proofs.YtbgodajefaahdaaGreatDoor.Ps.P (rt fl bd acc see kd len)
open Go.RowKit
open Go.Proofs.YtbgodajefaahdaaGreatDoor.Lx (Tk mt Toks)
open Go.Proofs.YtbgodajefaahdaaGreatDoor.Ex (bl_alloc bl_drewN bl_drew)
open Go.Proofs.YtbgodajefaahdaaGreatDoor.Md (Big Box)
set_option maxHeartbeats 2000000
structure Eqv (S:Nat->Prop) (a w:World):Prop where
 os:w.os=a.os
 tape:w.tape=a.tape
 output:w.output=a.output
 size:a.heap.size<=w.heap.size
 block:∀k,k<a.heap.size->S k->w.heap[k]?=a.heap[k]?
section
variable {S S':Nat->Prop} {a w w2:World}
theorem Eqv.refl (S:Nat->Prop) (w:World):Eqv S w w:=⟨rfl,rfl,rfl,Nat.le_refl _,fun _ _ _=>rfl⟩
theorem Eqv.trans (h:Eqv S a w) (g:Eqv S w w2):Eqv S a w2:=⟨g.os.trans h.os,g.tape.trans h.tape,g.output.trans h.output,Nat.le_trans h.size g.size,fun k hk hs=>(g.block k (Nat.lt_of_lt_of_le hk h.size) hs).trans (h.block k hk hs)⟩
theorem Eqv.call (h:Eqv S a w) (g:Eqv S' w w2) (hs:∀k,k<a.heap.size->S k->S' k):Eqv S a w2:=⟨g.os.trans h.os,g.tape.trans h.tape,g.output.trans h.output,Nat.le_trans h.size g.size,fun k hk hsk=>(g.block k (Nat.lt_of_lt_of_le hk h.size) (hs k hk hsk)).trans (h.block k hk hsk)⟩
theorem Eqv.of (h:Below a.heap.size a w):Eqv S a w:=⟨h.os,h.tape,h.output,h.size,fun k hk _=>h.block k hk⟩
theorem Eqv.below (h:Eqv S a w) (g:Below w.heap.size w w2):Eqv S a w2:=h.trans (Eqv.of g)
theorem Eqv.alloc {o:Obj} (h:Eqv S a w):Eqv S a (w.alloc o):=h.below (bl_alloc (Below.refl _ _))
theorem Eqv.drew (h:Eqv S a w):Eqv S a w.drew:=h.below (bl_drew (Below.refl _ _))
theorem Eqv.drewN {n:Nat} (h:Eqv S a w):Eqv S a (w.drewN n):=h.below (bl_drewN (Below.refl _ _))
theorem Eqv.set {p:Addr} {v:Value} (h:Eqv S a w) (hp:a.heap.size<=p.block∨¬S p.block):Eqv S a (w.setCell p v):=by
 refine h.call (S':=fun k=>k≠p.block) ⟨rfl,rfl,rfl,by show _<=(w.heap.modify _ _).size;rw[Array.size_modify];exact Nat.le_refl _,fun k hk hb=>by show(w.heap.modify _ _)[k]?=_;rw[Array.getElem?_modify,if_neg (fun e=>hb e.symm)]⟩ ?_;intro k hk hs e;rcases hp with hp|hp
 · omega
 · exact hp (e▸hs)
theorem zBP_0 {p:Prop} (h:p:=by first|(left;simp;done)|(left;simp;omega)|(right;simp;done)|(right;simp;omega)):p:=h
theorem qe {p:Prop} (h:p:=by(repeat (first|(with_reducible exact Eqv.refl _ _)|(with_reducible assumption)|(with_reducible apply Eqv.alloc)|(with_reducible apply Eqv.drewN)|(with_reducible apply Eqv.drew)|(with_reducible refine Eqv.set ?_ zBP_0)|(with_reducible refine Eqv.call ?_ (by assumption) (by intro k hk hs;first|exact hs|((try dsimp only at hs ⊢);omega)))))):p:=h
theorem qh {p:Prop} (h:p:=by have HBB:=HB.out;(repeat (first|(with_reducible exact Eqv.refl _ _)|(with_reducible assumption)|(with_reducible apply Eqv.alloc)|(with_reducible apply Eqv.drewN)|(with_reducible apply Eqv.drew)|(with_reducible refine Eqv.set ?_ zBP_0)|(with_reducible refine Eqv.call ?_ (by assumption) (by intro k hk hs;first|exact hs|((try dsimp only at hs ⊢);omega)))))):p:=h
theorem Eqv.mono (h:Eqv S a w) (hs:∀k,k<a.heap.size->S' k->S k):Eqv S' a w:=⟨h.os,h.tape,h.output,h.size,fun k hk hk2=>h.block k hk (hs k hk hk2)⟩
end
abbrev Bt (g:Nat) (a w:World):Prop:=Eqv (fun k=>k≠g) a w
abbrev Up (lo:Nat) (a w:World):Prop:=Eqv (fun k=>lo<=k) a w
abbrev Lw (g:Nat) (a w:World):Prop:=Eqv (fun k=>k<=g) a w
theorem box_frz {w:World} {g i:Nat} {t:TypeId} {c:Array Value} (h:Box w g t c):w.frozen? ⟨g,i,none⟩=false:=by
 unfold World.frozen?;rw[show w.heap[(⟨g,i,none⟩:Addr).block]?=_ from h];simp
theorem box_set {w:World} {g i:Nat} {t:TypeId} {c:Array Value} {v:Value} (h:Box w g t c):Box (w.setCell ⟨g,i,none⟩ v) g t (c.setIfInBounds i v):=by
 unfold Box at h ⊢
 show(w.heap.modify g _)[g]?=_
 rw[Array.getElem?_modify,if_pos rfl,h];rfl
theorem box_but {w w2:World} {g:Nat} {t:TypeId} {c:Array Value} {S:Nat->Prop} (h:Box w g t c) (hb:Eqv S w w2) (hs:S g):Box w2 g t c:=h.keep (hb.block g h.lt hs)
theorem setRow_box {w:World} {g:Nat} {t:TypeId} {z c:Array Value} (h:Box w g t z):Box (w.setRow g c) g t c:=by
 unfold Box at h ⊢
 show(w.heap.modify g _)[g]?=_
 rw[Array.getElem?_modify,if_pos rfl,h];rfl
theorem setRow_bt {w:World} {g:Nat} {c:Array Value}:Bt g w (w.setRow g c):=⟨rfl,rfl,rfl,by show _<=(w.heap.modify _ _).size;rw[Array.size_modify];exact Nat.le_refl _,fun k hk hb=>by show(w.heap.modify _ _)[k]?=_;rw[Array.getElem?_modify,if_neg (fun e=>hb e.symm)]⟩
theorem box_bt {w w2:World} {b g:Nat} {t:TypeId} {c:Array Value} (h:Box w b t c) (hb:Bt g w w2) (hn:¬b=g):Box w2 b t c:=h.keep (hb.block b h.lt hn)
theorem box_at {w w2:World} {b:Nat} {t:TypeId} {c:Array Value} (h:Box w b t c) (hb:Eqv (fun k=>k=b) w w2):Box w2 b t c:=h.keep (hb.block b h.lt rfl)
structure Put (t:TypeId) (g:Nat) (c:Array Value) (w W:World):Prop where
 var:(storeVar t ⟨g,0,none⟩ (.agg c)).run Tryz.prog w=.ok () W
 adr:(Instr.storeAt t (.pointer (some ⟨g,0,none⟩)) (.agg c)).run Tryz.prog w=.ok () W
 box:Box W g t c
 bt:Bt g w W
 size:W.heap.size=w.heap.size
theorem put_box {w:World} {g:Nat} {t:TypeId} {z c:Array Value} (h:Box w g t z) (ht:Big t c.size) (h1:c.all (·.oneCell')=true) (hz:z.size=c.size):∃W,Put t g c w W:=by
 have hv:=run_storeVar_row (P:=Tryz.prog) w g t t z c h ht.2 hz h1;refine⟨w.setRow g c,hv,?_,setRow_box h,setRow_bt,?_⟩
 · simp only[Instr.storeAt,Instr.sureAddr,Sem.run_bind,Sem.run_pure,Result.andThen];exact hv
 · show(w.heap.modify _ _).size=_
   rw[Array.size_modify]
theorem Put.cells {w W:World} {g:Nat} {t:TypeId} {c:Array Value} {l:List Value} (h:Put t g c w W) (hz:(Tryz.prog.info? t).map (·.size)=some c.size) (hl:c.toList=l):(storeCells ⟨g,0,none⟩ l 0).run Tryz.prog w=.ok () W:=by
 subst hl;have:=h.var
 cases hq:Tryz.prog.info? t with
 | none=>simp[hq] at hz
 | some i=>
  have hs:c.size=i.size:=by simp[hq] at hz;omega
  simpa [storeVar,sizeOf,typeInfo,hq,Value.cells,hs] using this
structure Lk where
 b:Nat
 o:Nat
 m:Nat
 c:Nat
 l:List Tk
def Lk.at (L:Lk) (t:List Tk):Nat:=L.l.length-t.length
def rdC (L:Lk) (t:List Tk):Array Value:=#[.slice (some ⟨L.b,L.o,none⟩) L.m L.c,.int .i64 ((L.at t:Nat):Int)]
structure Rd (L:Lk) (g:Nat) (t:List Tk) (w:World):Prop where
 lt:L.b<g
 box:Box w g 140 (rdC L t)
 drop:L.l.drop (L.at t)=t
 toks:Toks w (some ⟨L.b,L.o,none⟩) L.m L.l
 gd:Gd t
 few:L.l.length<=30000
theorem toks_low {w w2:World} {b o m g:Nat} {l:List Tk} (h:Toks w (some ⟨b,o,none⟩) m l) (hb:Lw g w w2) (hg:b<=g):Toks w2 (some ⟨b,o,none⟩) m l:=by
 obtain⟨e1,e2,e3|⟨b',o',e,hlt,hc⟩⟩:=h
 · exact⟨e1,e2,.inl e3⟩
 · cases e
   have hk:∀(k:Nat),w2.cell? ⟨b,k,none⟩=w.cell? ⟨b,k,none⟩:=fun k=>World.cell?_of_block (a:=⟨b,k,none⟩) (hb.block b hlt hg);exact⟨e1,e2,.inr ⟨b,o,rfl,Nat.lt_of_lt_of_le hlt hb.size,hid fun i hi=>by
    obtain⟨q0,q1,q2,q3⟩:=hc.out i hi;exact⟨(hk _).trans q0,(hk _).trans q1,(hk _).trans q2,(hk _).trans q3⟩⟩⟩
theorem Rd.low {L:Lk} {g:Nat} {t:List Tk} {w w2:World} (h:Rd L g t w) (hb:Lw g w w2):Rd L g t w2:=⟨h.lt,h.box.keep (hb.block g h.box.lt (Nat.le_refl _)),h.drop,toks_low h.toks hb (Nat.le_of_lt h.lt),h.gd,h.few⟩
theorem Rd.len {L:Lk} {g:Nat} {t:List Tk} {w:World} (h:Rd L g t w):L.at t+t.length=L.l.length/\L.l.length=L.m/\L.at t<L.m:=by
 have h1:=h.gd.ne;have h2:t.length<=L.l.length:=by
  have:=congrArg List.length h.drop;rw[List.length_drop] at this;unfold Lk.at at this;omega
 have h3:=h.toks.1;unfold Lk.at;omega
theorem Rd.blk {L:Lk} {g:Nat} {t:List Tk} {w:World} (h:Rd L g t w):g<w.heap.size:=h.box.lt
theorem Rd.small {L:Lk} {g:Nat} {t:List Tk} {w:World} (h:Rd L g t w):t.length<=30000:=by have h1:=h.len;have h2:=h.few;omega
theorem Rd.fu {L:Lk} {g:Nat} {t:List Tk} {w:World} (h:Rd L g t w):t.length<FU:=by have:=h.small;unfold FU;omega
theorem Rd.tok {L:Lk} {g:Nat} {t:List Tk} {w:World} (h:Rd L g t w):Lx.cell4 w L.b (L.o+L.at t*4) (hd t):=by
 obtain⟨h1,h2,h3⟩:=h.len;obtain⟨e1,e2,e3|⟨b,o,e,hb,hc⟩⟩:=h.toks
 · omega
 · cases e
   have:=hc.out (L.at t) (by omega);have e:L.l[L.at t]'(by omega)=hd t:=by
    have h4:=h.drop;rw[List.drop_eq_getElem_cons (by omega)] at h4;exact congrArg (fun z:List Tk=>z.headD ⟨0,mt,0,0⟩) h4
   rwa [e] at this
theorem Rd.c0 {L:Lk} {g:Nat} {t:List Tk} {w:World} (h:Rd L g t w):w.cell? ⟨g,0,none⟩=some (.slice (some ⟨L.b,L.o,none⟩) L.m L.c):=h.box.get rfl
theorem Rd.c1 {L:Lk} {g:Nat} {t:List Tk} {w:World} (h:Rd L g t w):w.cell? ⟨g,1,none⟩=some (.int .i64 ((L.at t:Nat):Int)):=h.box.get rfl
theorem Rd.frz {L:Lk} {g i:Nat} {t:List Tk} {w:World} (h:Rd L g t w):w.frozen? ⟨g,i,none⟩=false:=by
 unfold World.frozen?;rw[show w.heap[(⟨g,i,none⟩:Addr).block]?=_ from h.box];simp
theorem Rd.step {L:Lk} {g:Nat} {t:List Tk} {w:World} (h:Rd L g t w) (hk:¬(hd t).k=0):Rd L g t.tail (w.setCell ⟨g,1,none⟩ (.int .i64 ((L.at t:Nat)+1:Int))):=by
 obtain⟨h1,h2,h3⟩:=h.len;obtain⟨g1,g2⟩:=h.gd.tail hk;have ha:L.at t.tail=L.at t+1:=by unfold Lk.at at h1 ⊢; omega
 have hlt:=h.lt;refine⟨h.lt,?_,?_,?_,g1,h.few⟩
 · have hb:=h.box;unfold Box at hb ⊢
   show(w.heap.modify g _)[g]?=_
   rw[Array.getElem?_modify,if_pos rfl,hb];unfold rdC;rw[ha];rfl
 · rw[ha,← List.drop_drop,h.drop,List.drop_one]
 · obtain⟨e1,e2,e3|⟨b,o,e,hb,hc⟩⟩:=h.toks
   · exact⟨e1,e2,.inl e3⟩
   · cases e
     have hbl:Eqv (fun k=>k≠g) w (w.setCell ⟨g,1,none⟩ (.int .i64 ((L.at t:Nat)+1:Int))):=Eqv.set (Eqv.refl _ _) (.inr fun h=>h rfl);have hk:∀(k:Nat),(w.setCell ⟨g,1,none⟩ (.int .i64 ((L.at t:Nat)+1:Int))).cell? ⟨L.b,k,none⟩=w.cell? ⟨L.b,k,none⟩:=fun k=>World.cell?_of_block (a:=⟨L.b,k,none⟩) (hbl.block L.b hb (by omega));exact⟨e1,e2,.inr ⟨L.b,L.o,rfl,Nat.lt_of_lt_of_le hb hbl.size,hid fun i hi=>by
      obtain⟨q0,q1,q2,q3⟩:=hc.out i hi;exact⟨(hk _).trans q0,(hk _).trans q1,(hk _).trans q2,(hk _).trans q3⟩⟩⟩
theorem bt_set {g j:Nat} {w:World} {v:Value}:Bt g w (w.setCell ⟨g,j,none⟩ v):=Eqv.set (Eqv.refl _ _) (.inr fun h=>h rfl)
theorem box_set2 {w:World} {g:Nat} {t:TypeId} {z:Array Value} {a b:Value} (h:Box w g t z) (hz:z.size=2):Box ((w.setCell ⟨g,0,none⟩ a).setCell ⟨g,1,none⟩ b) g t #[a,b]:=by
 obtain⟨x0,x1,rfl⟩:∃x0 x1,z=#[x0,x1]:=by
  match z,hz with
  | ⟨[x0,x1]⟩,_=>exact⟨x0,x1,rfl⟩
 exact box_set (box_set h)
theorem box_set3 {w:World} {g:Nat} {t:TypeId} {z:Array Value} {a b c:Value} (h:Box w g t z) (hz:z.size=3):Box (((w.setCell ⟨g,0,none⟩ a).setCell ⟨g,1,none⟩ b).setCell ⟨g,2,none⟩ c) g t #[a,b,c]:=by
 obtain⟨x0,x1,x2,rfl⟩:∃x0 x1 x2,z=#[x0,x1,x2]:=by
  match z,hz with
  | ⟨[x0,x1,x2]⟩,_=>exact⟨x0,x1,x2,rfl⟩
 exact box_set (box_set (box_set h))
theorem box_set4 {w:World} {g:Nat} {t:TypeId} {z:Array Value} {a b c d:Value} (h:Box w g t z) (hz:z.size=4):Box ((((w.setCell ⟨g,0,none⟩ a).setCell ⟨g,1,none⟩ b).setCell ⟨g,2,none⟩ c).setCell ⟨g,3,none⟩ d) g t #[a,b,c,d]:=by
 obtain⟨x0,x1,x2,x3,rfl⟩:∃x0 x1 x2 x3,z=#[x0,x1,x2,x3]:=by
  match z,hz with
  | ⟨[x0,x1,x2,x3]⟩,_=>exact⟨x0,x1,x2,x3,rfl⟩
 exact box_set (box_set (box_set (box_set h)))
def mal (n:Int):List PanicEntry:=[{ v:=.iface 137 (.agg #[.int .i64 n]),recovered:=false }]
def PO {α:Type} (L:Lk) (g:Nat) (V:Nat->World->α->Value->Prop) (r:R α) (w:World) (e:Ending) (w':World):Prop:=
 Bt g w w'/\match r with
  | .ok x u=>∃v,e=.returned v/\V w.heap.size w' x v/\Rd L g u w'
  | .no u=>e=.panicked (mal (hd u).l)
section
variable {α β:Type} {L:Lk} {g:Nat} {V:Nat->World->α->Value->Prop} {r:R α} {w w':World} {e:Ending} {x:α} {t u:List Tk} {v:Value}
theorem PO.ok (hr:r=.ok x u) (hb:Bt g w w') (hV:V w.heap.size w' x v) (hR:Rd L g u w'):PO L g V r w (.returned v) w':=by subst hr;exact⟨hb,v,rfl,hV,hR⟩
theorem PO.no (hr:r=.no u) (hb:Bt g w w'):PO L g V r w (.panicked (mal (hd u).l)) w':=by subst hr;exact⟨hb,rfl⟩
theorem PO.cases (h:PO L g V r w e w'):(∃x u v,r=.ok x u/\e=.returned v/\Bt g w w'/\V w.heap.size w' x v/\Rd L g u w')∨(∃u,r=.no u/\e=.panicked (mal (hd u).l)/\Bt g w w'):=by
 obtain⟨hb,h⟩:=h
 cases r with
 | ok x u=>obtain⟨v,h1,h2,h3⟩:=h;exact .inl ⟨x,u,v,rfl,h1,hb,h2,h3⟩
 | no u=>exact .inr ⟨u,rfl,h,hb⟩
def tv (x:Tk):Value:=.agg #[.int .i64 x.k,.string x.t,.int .i64 x.n,.int .i64 x.l]
def TO (L:Lk) (g:Nat) (k:Int) (t:List Tk) (w:World) (e:Ending) (w':World):Prop:=
 Bt g w w'/\(((hd t).k=k/\e=.returned (tv (hd t))/\Rd L g t.tail w')∨(¬(hd t).k=k/\e=.panicked (mal (hd t).l)))
def AO (L:Lk) (g:Nat) (s:ByteArray) (t:List Tk) (w:World) (e:Ending) (w':World):Prop:=
 Bt g w w'/\((is s t=true/\e=.returned (.bool true)/\Rd L g t.tail w')∨(is s t=false/\e=.returned (.bool false)/\Rd L g t w'))
def VI (lo:Nat) (w:World) (n:Int) (v:Value):Prop:=v=.int .i64 n
def VN (lo:Nat) (w:World) (n:Int) (v:Value):Prop:=v=.int .i64 n/\0<=n/\n<=1000000000000
def VB (lo:Nat) (w:World) (n:Int) (v:Value):Prop:=v=.int .i64 n/\(n=0∨n=1)
def VT (lo:Nat) (w:World) (s:ByteArray) (v:Value):Prop:=v=.string s
def VU (lo:Nat) (w:World) (x:Unit) (v:Value):Prop:=v=.tuple #[]
def VC {α:Type} (c:α->Array Value) (lo:Nat) (w:World) (x:α) (v:Value):Prop:=v=.agg (c x)
variable {m:P β} {k:β->P α} {A B:P α} {s:ByteArray} {y:β} {n:Int}
theorem st_ok (H:Hid (run (bd m k) t=r)) (h:run m t=.ok y u):Hid (run (k y) u=r):=hid ((bd_ok h).symm.trans H.out)
theorem st_no (H:Hid (run (bd m k) t=r)) (h:run m t=.no u):r=.no u:=H.out.symm.trans (bd_no h)
theorem st_yes (H:Hid (run (acc s A B) t=r)) (h:is s t=true):Hid (run A t.tail=r):=hid ((acc_yes h).symm.trans H.out)
theorem st_not (H:Hid (run (acc s A B) t=r)) (h:is s t=false):Hid (run B t=r):=hid ((acc_no h).symm.trans H.out)
theorem st_see (H:Hid (run (see s A B) t=r)) (h:is s t=true):Hid (run A t=r):=hid ((see_yes h).symm.trans H.out)
theorem st_out (H:Hid (run (see s A B) t=r)) (h:is s t=false):Hid (run B t=r):=hid ((see_no h).symm.trans H.out)
theorem st_kd (H:Hid (run (kd n A B) t=r)) (h:(hd t).k=n):Hid (run A t=r):=hid ((kd_yes h).symm.trans H.out)
theorem st_nk (H:Hid (run (kd n A B) t=r)) (h:¬(hd t).k=n):Hid (run B t=r):=hid ((kd_no h).symm.trans H.out)
theorem st_end {x:α} (H:Hid (run (rt x) t=r)):r=.ok x t:=H.out.symm
theorem st_fl (H:Hid (run (fl:P α) t=r)):r=.no t:=H.out.symm
theorem st_in {p q:P α} (H:Hid (run p t=r)) (e:p=q):Hid (run q t=r):=by rw[← e];exact H
section
variable {α β γ:Type} {L:Lk} {g:Nat} {r:R α} {t u:List Tk} {m:P γ} {k:γ->P β} {K:β->P α} {A B:P β} {s:ByteArray} {y:β} {n:Int}
theorem st_bb (H:Hid (run (bd (bd m k) K) t=r)):Hid (run (bd m fun x=>bd (k x) K) t=r):=by
 refine hid (Eq.trans ?_ H.out)
 cases h:run m t with
 | ok x u=>
  rw[bd_ok h]
  cases h2:run (k x) u with
  | ok y v=>rw[bd_ok h2,bd_ok ((bd_ok h).trans h2)]
  | no v=>rw[bd_no h2,bd_no ((bd_ok h).trans h2)]
 | no u=>rw[bd_no h,bd_no (bd_no h)]
theorem bd_same {m m':P β} {t t':List Tk} (h:run m t=run m' t'):run (bd m K) t=run (bd m' K) t':=by
 cases h2:run m' t' with
 | ok y v=>rw[bd_ok h2,bd_ok (h.trans h2)]
 | no v=>rw[bd_no h2,bd_no (h.trans h2)]
theorem st_bk (H:Hid (run (bd (kd n A B) K) t=r)) (h:(hd t).k=n):Hid (run (bd A K) t=r):=hid ((bd_same (kd_yes h)).symm.trans H.out)
theorem st_bnk (H:Hid (run (bd (kd n A B) K) t=r)) (h:¬(hd t).k=n):Hid (run (bd B K) t=r):=hid ((bd_same (kd_no h)).symm.trans H.out)
theorem st_by (H:Hid (run (bd (acc s A B) K) t=r)) (h:is s t=true):Hid (run (bd A K) t.tail=r):=hid ((bd_same (acc_yes h)).symm.trans H.out)
theorem st_bn (H:Hid (run (bd (acc s A B) K) t=r)) (h:is s t=false):Hid (run (bd B K) t=r):=hid ((bd_same (acc_no h)).symm.trans H.out)
theorem st_bs (H:Hid (run (bd (see s A B) K) t=r)) (h:is s t=true):Hid (run (bd A K) t=r):=hid ((bd_same (see_yes h)).symm.trans H.out)
theorem st_bo (H:Hid (run (bd (see s A B) K) t=r)) (h:is s t=false):Hid (run (bd B K) t=r):=hid ((bd_same (see_no h)).symm.trans H.out)
theorem st_br (H:Hid (run (bd (rt y) K) t=r)):Hid (run (K y) t=r):=hid ((bd_ok (run_rt (x:=y) (t:=t))).symm.trans H.out)
end
end
end Go.Proofs.YtbgodajefaahdaaGreatDoor.Ps
namespace Go.Proofs.YtbgodajefaahdaaGreatDoor.Ps
open Go.Proofs.YtbgodajefaahdaaGreatDoor.Ps.P (len)
open Go.RowKit
open Go.Proofs.YtbgodajefaahdaaGreatDoor.Lx (Tk)
open Go.Proofs.YtbgodajefaahdaaGreatDoor.Ex (Gives)
open Go.Proofs.YtbgodajefaahdaaGreatDoor.Md (Box)
set_option maxHeartbeats 2000000
theorem fld_k (a n l:Int) (s:ByteArray) (w:World):(Instr.field 135 (.agg #[.int .i64 a,.string s,.int .i64 n,.int .i64 l]) 0).run Tryz.prog w=.ok (.int .i64 a) w:=by kernel_rfl
theorem fld_t (a n l:Int) (s:ByteArray) (w:World):(Instr.field 135 (.agg #[.int .i64 a,.string s,.int .i64 n,.int .i64 l]) 1).run Tryz.prog w=.ok (.string s) w:=by kernel_rfl
theorem fld_n (a n l:Int) (s:ByteArray) (w:World):(Instr.field 135 (.agg #[.int .i64 a,.string s,.int .i64 n,.int .i64 l]) 2).run Tryz.prog w=.ok (.int .i64 n) w:=by kernel_rfl
theorem fld_l (a n l:Int) (s:ByteArray) (w:World):(Instr.field 135 (.agg #[.int .i64 a,.string s,.int .i64 n,.int .i64 l]) 3).run Tryz.prog w=.ok (.int .i64 l) w:=by kernel_rfl
section
variable {L:Lk} {g:Nat} {t:List Tk}
set_option maxRecDepth 100000 in
theorem token_any (w:World) (hR:Rd L g t w):Calls Tryz.prog 80 #[.pointer (some ⟨g,0,none⟩)] w (Gives (tv (hd t)) w):=by
 obtain⟨l1,l2,l3⟩:=hR.len;have hlt:=hR.lt;have hgs:=hR.blk;have c0:=hR.c0;have c1:=hR.c1;obtain⟨e0,e1,e2,e3⟩:=hR.tok;have hbs:L.b<w.heap.size:=by omega
 unfold tv
 generalize hd t=x at *
 obtain⟨b,o,m,c,l⟩:=L;obtain⟨k,hk⟩:∃k,Lk.at ⟨b,o,m,c,l⟩ t=k:=⟨_,rfl⟩
 simp only[hk] at *
 have hk0:(0:Int)<=(k:Int):=by omega
 have hk1:(k:Int)<(m:Int):=by omega
 clear hR l1 l2 l3 hk;go_enter Tryz.func80,Tryz.ntmps80;go_wp2_with fail;go_region
 go_wp2_with fail;refine bodyPost_ret (v:=.agg #[.int .i64 x.k,.string x.t,.int .i64 x.n,.int .i64 x.l]) ?_ rfl ⟨rfl,bl⟩;refine results_cell_row rfl _ _ w.heap.size 135 _ (0,0) _ rfl ?_ Tryz.underlying135 rfl (by kernel_rfl);exact Box.new
set_option maxRecDepth 100000 in
theorem wrong_any (w:World) (hR:Rd L g t w):Calls Tryz.prog 65 #[.pointer (some ⟨g,0,none⟩)] w (Gives (.agg #[.int .i64 (hd t).l]) w):=by
 have C1:=hid (fun W (hW:Below w.heap.size w W)=>token_any W (hR.low (Eqv.of hW)));unfold tv at C1
 generalize hd t=x at *
 have q:=fld_l x.k x.n x.l x.t;clear hR;go_enter Tryz.func65,Tryz.ntmps65;go_wp2_with fail;refine(C1.out _ bl).mono ?_;rintro e w1 ⟨rfl,hb1⟩;have b1:Box w1 w.heap.size 137 #[.int .i64 0]:=Box.new.on hb1;have c1:=b1.get (r:=0) rfl;have f1:=box_frz (i:=0) b1;go_wp2_with fail;have b2:Box (w1.setCell ⟨w.heap.size,0,none⟩ (.int .i64 x.l)) w.heap.size 137 #[.int .i64 x.l]:=box_set b1;refine bodyPost_ret (v:=.agg #[.int .i64 x.l]) ?_ rfl ⟨rfl,bl⟩;exact results_cell_row rfl _ _ w.heap.size 137 _ (0,0) _ rfl b2 Tryz.underlying137 rfl (by kernel_rfl)
set_option maxRecDepth 100000 in
theorem take_any (k:Int) (w:World) (hR:Rd L g t w) (hk:¬k=0):Calls Tryz.prog 60 #[.pointer (some ⟨g,0,none⟩),.int .i64 k] w (TO L g k t w):=by
 have C1:=hid (fun W (hW:Below w.heap.size w W)=>token_any W (hR.low (Eqv.of hW)));have C2:=hid (fun W (hW:Below w.heap.size w W)=>wrong_any W (hR.low (Eqv.of hW)));have hg:=hR.blk;have HR:=hid hR;obtain⟨l1,l2,l3⟩:=hR.len;have l4:=hR.few;obtain⟨j,hj⟩:∃j,L.at t=j:=⟨_,rfl⟩
 obtain⟨x,hx⟩:∃x,hd t=x:=⟨_,rfl⟩
 unfold tv at C1;rw[hx] at C1 C2;have HX:=hid hx;have HJ:=hid hj;by_cases h:x.k=k
 · have hb:(x.k != k)=false:=by simp[h]
   have hw:IntKind.i64.wrap ((j:Int)+1)=(j:Int)+1:=by rw[IntKind.wrap_i64];omega
   have HK:=hid h;clear hR l1 l2 l3 l4 hx hj h;go_enter Tryz.func60,Tryz.ntmps60;go_wp2_with fail;refine(C1.out _ bl).mono ?_;rintro e w1 ⟨rfl,hb1⟩;have hB1:Below w.heap.size w w1:=bl;have b4:Box w1 w.heap.size 135 _:=Box.new.on hb1;have b5:Box (w1.alloc (.cells #[.int .i64 x.k,.string x.t,.int .i64 x.n,.int .i64 x.l] 135)) w1.heap.size 135 _:=Box.new;have hs1:=b4.lt;have r1:Rd L g t (w1.alloc (.cells #[.int .i64 x.k,.string x.t,.int .i64 x.n,.int .i64 x.l] 135)):=HR.out.low (Eqv.of bl);have c1:=r1.c1;rw[HJ.out] at c1;have f1:=r1.frz (i:=1);have r2:=r1.step (by rw[HX.out,HK.out];exact hk);rw[HJ.out] at r2;obtain⟨B,hB⟩:∃B,(w1.alloc (.cells #[.int .i64 x.k,.string x.t,.int .i64 x.n,.int .i64 x.l] 135)).setCell ⟨g,1,none⟩ (.int .i64 ((j:Int)+1))=B:=⟨_,rfl⟩
   have e1:Bt g (w1.alloc (.cells #[.int .i64 x.k,.string x.t,.int .i64 x.n,.int .i64 x.l] 135)) B:=by rw[← hB];exact bt_set
   have d5:Box B w1.heap.size 135 _:=box_but b5 e1 (by omega);have d4:Box B w.heap.size 135 _:=box_but (b4.on bl) e1 (by omega);have l0:=d5.get (r:=0) rfl;have l1:=d5.get (r:=1) rfl;have l2:=d5.get (r:=2) rfl;have l3:=d5.get (r:=3) rfl;have p0:=d4.get (r:=0) rfl;have p1:=d4.get (r:=1) rfl;have p2:=d4.get (r:=2) rfl;have p3:=d4.get (r:=3) rfl;have fz:∀i,B.frozen? ⟨w.heap.size,i,none⟩=false:=fun i=>box_frz d4;have D4:=hid d4;have HE:=hid e1;rw[hB] at r2;have R2:=hid r2;have HB1:=hid hB1;clear e1 r1 r2 d5 d4 b5 b4 hB1 hb1;go_wp2_with fail;have b6:=box_set4 (a:=.int .i64 x.k) (b:=.string x.t) (c:=.int .i64 x.n) (d:=.int .i64 x.l) D4.out rfl;have HBB:=HB1.out;have HEE:=HE.out;refine bodyPost_ret (v:=tv x) ?_ rfl ⟨?_,.inl ⟨by rw[HX.out,HK.out],by rw[HX.out],?_⟩⟩
   · exact results_cell_row rfl _ _ w.heap.size 135 _ (0,0) _ rfl b6 Tryz.underlying135 rfl (by kernel_rfl)
   · have q:Bt g w w1:=Eqv.of HBB;exact qe
   · exact R2.out.low qe
 · have hb:(x.k != k)=true:=by simp[h]
   have HK:=hid h;clear hR l1 l2 l3 l4 hx hj h;go_enter Tryz.func60,Tryz.ntmps60;go_wp2_with fail;refine(C1.out _ bl).mono ?_;rintro e w1 ⟨rfl,hb1⟩;have hB1:Below w.heap.size w w1:=bl;have HB1:=hid hB1;clear hb1 hB1;go_wp2_with fail;refine(C2.out _ (by have HBB:=HB1.out;exact bl)).mono ?_;rintro e w2 ⟨rfl,hb2⟩;go_wp2_with fail;refine⟨rfl,?_,.inr ⟨by rw[HX.out];exact HK.out,by rw[HX.out];rfl⟩⟩;exact Eqv.of (by have HBB:=HB1.out;exact bl)
end
end Go.Proofs.YtbgodajefaahdaaGreatDoor.Ps
namespace Go.Proofs.YtbgodajefaahdaaGreatDoor.Ps
open Go.Proofs.YtbgodajefaahdaaGreatDoor.Ps.P (exp len)
open Go.RowKit
open Go.Proofs.YtbgodajefaahdaaGreatDoor.Lx (Tk bs eq_yes eq_no)
open Go.Proofs.YtbgodajefaahdaaGreatDoor.Ex (Gives)
set_option maxHeartbeats 2000000
section
variable {L:Lk} {g:Nat} {t:List Tk}
theorem zBR_0 {p:Prop} (h:p:=by
 clear h;go_enter Tryz.func61,Tryz.ntmps61;go_wp2_with fail;refine(C1.out _ bl).mono ?_;rintro e w1 ⟨rfl,hb1⟩;go_wp2_with fail;go_ret;exact⟨rfl,bl⟩
 ):p:=h
set_option maxRecDepth 100000 in
theorem sees_any (s:ByteArray) (w:World) (hR:Rd L g t w):Calls Tryz.prog 61 #[.pointer (some ⟨g,0,none⟩),.string s] w (Gives (.bool (is s t)) w):=by
 have C1:=hid (fun W (hW:Below w.heap.size w W)=>token_any W (hR.low (Eqv.of hW)));unfold tv at C1;have HI:Hid (is s t=decide (bs (hd t).t=bs s)):=hid rfl;rw[HI.out]
 generalize hd t=x at *
 have q:=fld_t x.k x.n x.l x.t;clear hR HI;by_cases h:bs x.t=bs s
 · have h1:=eq_yes h;rw[decide_eq_true h];exact zBR_0
 · have h1:=eq_no h;rw[decide_eq_false h];exact zBR_0
set_option maxRecDepth 100000 in
theorem accept_any (s:ByteArray) (w:World) (hR:Rd L g t w) (hs:¬bs s=[]):Calls Tryz.prog 31 #[.pointer (some ⟨g,0,none⟩),.string s] w (AO L g s t w):=by
 have C1:=hid (sees_any s w hR);have hg:=hR.blk;have HR:=hid hR;obtain⟨l1,l2,l3⟩:=hR.len;have l4:=hR.few;obtain⟨j,hj⟩:∃j,L.at t=j:=⟨_,rfl⟩
 have HJ:=hid hj
 cases h:is s t with
 | false=>
  rw[h] at C1;have HH:=hid h;clear hR l1 l2 l3 l4 hj h;go_enter Tryz.func31,Tryz.ntmps31;go_wp2_with fail;refine C1.out.mono ?_;rintro e w1 ⟨rfl,hb1⟩;have HB1:=hid hb1;clear hb1;go_wp2_with fail;go_ret;exact⟨Eqv.of HB1.out,.inr ⟨HH.out,rfl,HR.out.low (Eqv.of HB1.out)⟩⟩
 | true=>
  rw[h] at C1;have HH:=hid h;have HK:Hid (¬(hd t).k=0):=hid (by rcases is_kd hR.gd hs h with g|g <;> omega);have hw:IntKind.i64.wrap ((j:Int)+1)=(j:Int)+1:=by rw[IntKind.wrap_i64];omega
  clear hR l1 l2 l3 l4 hj h;go_enter Tryz.func31,Tryz.ntmps31;go_wp2_with fail;refine C1.out.mono ?_;rintro e w1 ⟨rfl,hb1⟩;have r1:Rd L g t w1:=HR.out.low (Eqv.of hb1);have c1:=r1.c1;rw[HJ.out] at c1;have f1:=r1.frz (i:=1);have r2:=r1.step HK.out;rw[HJ.out] at r2;have R2:=hid r2;have HB1:=hid hb1;clear r1 r2 hb1;go_wp2_with fail;go_ret;have q:Bt g w w1:=Eqv.of HB1.out;exact⟨q.trans bt_set,.inl ⟨HH.out,rfl,R2.out⟩⟩
set_option maxRecDepth 100000 in
theorem expect_any (s:ByteArray) (w:World) (hR:Rd L g t w) (hs:¬bs s=[]):Calls Tryz.prog 58 #[.pointer (some ⟨g,0,none⟩),.string s] w (PO L g VU (run (exp s) t) w):=by
 have C1:=hid (accept_any s w hR hs);obtain⟨r,hr⟩:∃r,run (exp s) t=r:=⟨_,rfl⟩
 rw[hr];have HS:=hid hr;clear hR hr;go_enter Tryz.func58,Tryz.ntmps58;go_wp2_with fail;refine C1.out.mono ?_;rintro e w1 ⟨hb,⟨hi,rfl,hR⟩|⟨hi,rfl,hR⟩⟩
 · have HI:=hid hi;have HB:=hid hb;have HR:=hid hR;clear hi hb hR;go_wp2_with fail
   (first|go_end0|refine bodyPost_ret (results_none rfl _ _ _) rfl ?_)
   exact PO.ok (HS.out.symm.trans (exp_yes HI.out)) HB.out rfl HR.out
 · have HI:=hid hi;have HB:=hid hb;have HR:=hid hR;clear hi hb hR;go_wp2_with fail;refine(wrong_any _ HR.out).mono ?_;rintro e w2 ⟨rfl,hb2⟩;go_wp2_with fail;exact⟨rfl,PO.no (HS.out.symm.trans (exp_no HI.out)) (HB.out.below hb2)⟩
end
end Go.Proofs.YtbgodajefaahdaaGreatDoor.Ps
namespace Go.Proofs.YtbgodajefaahdaaGreatDoor.Ps
open Go.Proofs.YtbgodajefaahdaaGreatDoor.Ps.P (rt bd tk)
open Go.RowKit
open Go.Proofs.YtbgodajefaahdaaGreatDoor.Lx (Tk bs)
open Go.Proofs.YtbgodajefaahdaaGreatDoor.Na (isKw keyword_any)
set_option maxHeartbeats 2000000
section
variable {L:Lk} {g:Nat} {t:List Tk}
set_option maxRecDepth 100000 in
theorem number_any (w:World) (hR:Rd L g t w):Calls Tryz.prog 63 #[.pointer (some ⟨g,0,none⟩)] w (PO L g VN (run num t) w):=by
 have q:=fld_n (hd t).k (hd t).n (hd t).l (hd t).t;have HN:=hid hR.gd.wf.n;obtain⟨r,hr⟩:∃r,run num t=r:=⟨_,rfl⟩
 rw[hr];have HS:=hid hr;have hg:=hR.blk;have HR:=hid hR;have HB:Hid (Bt g w w):=hid (Eqv.refl _ _);clear hR hr;go_enter Tryz.func63,Tryz.ntmps63;go_wp2_with fail;refine(take_any 2 _ (HR.out.low qe) (by decide)).mono ?_;rintro e w1 ⟨b1,⟨k1,rfl,R1⟩|⟨k1,rfl⟩⟩;rotate_left 1
 · have HBB:=HB.out;go_wp2_with fail;exact⟨rfl,PO.no (st_no HS (tk_no k1)) qe⟩
 replace HS:=st_ok HS (tk_yes k1);replace HB:Hid (Bt g w w1):=hid qh;replace HR:=hid R1;clear b1 R1;clear k1;unfold tv;go_wp2_with fail;go_ret;exact PO.ok (st_end HS) HB.out ⟨rfl,HN.out⟩ HR.out
theorem zBS_1 {p:Prop} (h:p:=by
 have HBB:=HB.out;go_wp2_with fail;exact⟨rfl,PO.no (st_no HS (by assumption)) qe⟩
 ):p:=h
theorem zBS_2 {p:Prop} (h:p:=by
 go_wp2_with fail;go_ret;exact PO.ok (st_end HS) HB.out rfl HR.out
 ):p:=h
theorem zBS_3 {p:Prop} (h:p:=by
 replace HS:=HS.out.symm.trans r2;replace HB:Hid (Bt g w w2):=hid qh;replace HR:=hid R2;clear b2 R2;go_wp2_with fail;go_ret;exact PO.ok HS HB.out rfl HR.out
 ):p:=h
set_option maxRecDepth 100000 in
theorem integer_any (w:World) (hR:Rd L g t w):Calls Tryz.prog 104 #[.pointer (some ⟨g,0,none⟩)] w (PO L g VI (run itg t) w):=by
 obtain⟨r,hr⟩:∃r,run itg t=r:=⟨_,rfl⟩
 rw[hr];have HS:=hid hr;have hg:=hR.blk;have HR:=hid hR;have HB:Hid (Bt g w w):=hid (Eqv.refl _ _);clear hR hr;go_enter Tryz.func104,Tryz.ntmps104;go_wp2_with fail;refine(accept_any _ _ (HR.out.low qe) (by decide)).mono ?_;rintro e w1 ⟨b1,⟨i1,rfl,R1⟩|⟨i1,rfl,R1⟩⟩
 · replace HS:=st_yes HS i1;replace HB:Hid (Bt g w w1):=hid qh;replace HR:=hid R1;clear b1 R1;clear i1;go_wp2_with fail;refine(number_any _ (HR.out.low qe)).mono ?_;rintro e w2 h2;rcases h2.cases with⟨x2,u2,v2,r2,rfl,b2,V2,R2⟩|⟨u2,r2,rfl,b2⟩
   rotate_left 1
   · exact zBS_1
   replace HS:=st_ok HS r2;replace HB:Hid (Bt g w w2):=hid qh;replace HR:=hid R2;clear b2 R2;clear r2 h2;obtain⟨rfl,n0,n1⟩:=V2;have hw:wrap64 (-x2) = -x2:=by unfold wrap64;omega
   exact zBS_2
 · replace HS:=st_not HS i1;replace HB:Hid (Bt g w w1):=hid qh;replace HR:=hid R1;clear b1 R1;clear i1;go_wp2_with fail;refine(number_any _ (HR.out.low qe)).mono ?_;rintro e w2 h2;rcases h2.cases with⟨x2,u2,v2,r2,rfl,b2,V2,R2⟩|⟨u2,r2,rfl,b2⟩
   · obtain⟨rfl,n0,n1⟩:=V2;exact zBS_3
   · have HBB:=HB.out;go_wp2_with fail;exact⟨rfl,PO.no (HS.out.symm.trans r2) qe⟩
set_option maxRecDepth 100000 in
theorem truth_any (w:World) (hR:Rd L g t w):Calls Tryz.prog 103 #[.pointer (some ⟨g,0,none⟩)] w (PO L g VB (run tru t) w):=by
 obtain⟨r,hr⟩:∃r,run tru t=r:=⟨_,rfl⟩
 rw[hr];have HS:=hid hr;have hg:=hR.blk;have HR:=hid hR;have HB:Hid (Bt g w w):=hid (Eqv.refl _ _);clear hR hr;go_enter Tryz.func103,Tryz.ntmps103;go_wp2_with fail;refine(accept_any _ _ (HR.out.low qe) (by decide)).mono ?_;rintro e w1 ⟨b1,⟨i1,rfl,R1⟩|⟨i1,rfl,R1⟩⟩
 · replace HS:=st_yes HS i1;replace HB:Hid (Bt g w w1):=hid qh;replace HR:=hid R1;clear b1 R1;clear i1;go_wp2_with fail;go_ret;exact PO.ok (st_end HS) HB.out ⟨rfl,.inr rfl⟩ HR.out
 · replace HS:=st_not HS i1;replace HB:Hid (Bt g w w1):=hid qh;replace HR:=hid R1;clear b1 R1;clear i1;go_wp2_with fail;refine(expect_any _ _ (HR.out.low qe) (by decide)).mono ?_;rintro e w2 h2;rcases h2.cases with⟨x2,u2,v2,r2,rfl,b2,V2,R2⟩|⟨u2,r2,rfl,b2⟩
   rotate_left 1
   · exact zBS_1
   replace HS:=st_ok HS r2;replace HB:Hid (Bt g w w2):=hid qh;replace HR:=hid R2;clear b2 R2;clear r2 h2;obtain rfl:=V2;go_wp2_with fail;go_ret;exact PO.ok (st_end HS) HB.out ⟨rfl,.inl rfl⟩ HR.out
set_option maxRecDepth 100000 in
theorem name_any (w:World) (hR:Rd L g t w):Calls Tryz.prog 59 #[.pointer (some ⟨g,0,none⟩)] w (PO L g VT (run nam t) w):=by
 have q:=fld_t (hd t).k (hd t).n (hd t).l (hd t).t;have C1:=hid (fun W (hW:Below w.heap.size w W)=>token_any W (hR.low (Eqv.of hW)));have C2:=hid (fun W=>keyword_any (hd t).t W);unfold tv at C1;obtain⟨r,hr⟩:∃r,run nam t=r:=⟨_,rfl⟩
 rw[hr];have HS:=hid hr;have hg:=hR.blk;have HR:=hid hR;have HB:Hid (Bt g w w):=hid (Eqv.refl _ _);clear hR hr
 cases hk:isKw (bs (hd t).t) with
 | true=>
  rw[hk] at C2;have HK:=hid hk;clear hk;go_enter Tryz.func59,Tryz.ntmps59;go_wp2_with fail;refine(C1.out _ bl).mono ?_;rintro e w1 ⟨rfl,hb1⟩;replace HB:Hid (Bt g w w1):=hid (Eqv.of hb1);replace HR:Hid (Rd L g t w1):=hid (HR.out.low (Eqv.of hb1));clear hb1;go_wp2_with fail;refine(C2.out _).mono ?_;rintro e w2 ⟨rfl,rfl⟩;go_wp2_with fail;refine(wrong_any _ (HR.out.low qe)).mono ?_;rintro e w3 ⟨rfl,b3⟩;have HBB:=HB.out;go_wp2_with fail;exact⟨rfl,PO.no (HS.out.symm.trans (kw_yes HK.out)) (HBB.below b3)⟩
 | false=>
  rw[hk] at C2;replace HS:Hid (run (bd (tk 1) fun x=>rt x.1) t=r):=hid ((kw_no hk).symm.trans HS.out);clear hk;go_enter Tryz.func59,Tryz.ntmps59;go_wp2_with fail;refine(C1.out _ bl).mono ?_;rintro e w1 ⟨rfl,hb1⟩;replace HB:Hid (Bt g w w1):=hid (Eqv.of hb1);replace HR:Hid (Rd L g t w1):=hid (HR.out.low (Eqv.of hb1));clear hb1;go_wp2_with fail;refine(C2.out _).mono ?_;rintro e w2 ⟨rfl,rfl⟩;go_wp2_with fail;refine(take_any 1 _ (HR.out.low qe) (by decide)).mono ?_;rintro e w3 ⟨b3,⟨k3,rfl,R3⟩|⟨k3,rfl⟩⟩;rotate_left 1
  · have HBB:=HB.out;go_wp2_with fail;exact⟨rfl,PO.no (st_no HS (tk_no k3)) qe⟩
  replace HS:=st_ok HS (tk_yes k3);replace HB:Hid (Bt g w w3):=hid qh;replace HR:=hid R3;clear b3 R3;clear k3;unfold tv;exact zBS_2
set_option maxRecDepth 100000 in
theorem nameBehind_any (s:ByteArray) (w:World) (hR:Rd L g t w) (hs:¬bs s=[]):Calls Tryz.prog 29 #[.pointer (some ⟨g,0,none⟩),.string s] w (PO L g VT (run (nmB s) t) w):=by
 obtain⟨r,hr⟩:∃r,run (nmB s) t=r:=⟨_,rfl⟩
 rw[hr];have HS:=hid hr;have hg:=hR.blk;have HR:=hid hR;have HB:Hid (Bt g w w):=hid (Eqv.refl _ _);clear hR hr;go_enter Tryz.func29,Tryz.ntmps29;go_wp2_with fail;refine(expect_any _ _ (HR.out.low qe) hs).mono ?_;rintro e w1 h1;rcases h1.cases with⟨x1,u1,v1,r1,rfl,b1,V1,R1⟩|⟨u1,r1,rfl,b1⟩
 rotate_left 1
 · exact zBS_1
 replace HS:=st_ok HS r1;replace HB:Hid (Bt g w w1):=hid qh;replace HR:=hid R1;clear b1 R1;clear r1 h1;obtain rfl:=V1;go_wp2_with fail;refine(name_any _ (HR.out.low qe)).mono ?_;rintro e w2 h2;rcases h2.cases with⟨x2,u2,v2,r2,rfl,b2,V2,R2⟩|⟨u2,r2,rfl,b2⟩
 · obtain rfl:=V2;exact zBS_3
 · have HBB:=HB.out;go_wp2_with fail;exact⟨rfl,PO.no (HS.out.symm.trans r2) qe⟩
set_option maxRecDepth 100000 in
theorem endLine_any (w:World) (hR:Rd L g t w):Calls Tryz.prog 30 #[.pointer (some ⟨g,0,none⟩)] w (PO L g VU (run eol t) w):=by
 obtain⟨r,hr⟩:∃r,run eol t=r:=⟨_,rfl⟩
 rw[hr];have HS:=hid hr;have hg:=hR.blk;have HR:=hid hR;have HB:Hid (Bt g w w):=hid (Eqv.refl _ _);clear hR hr;go_enter Tryz.func30,Tryz.ntmps30;go_wp2_with fail;refine(take_any 4 _ (HR.out.low qe) (by decide)).mono ?_;rintro e w1 ⟨b1,⟨k1,rfl,R1⟩|⟨k1,rfl⟩⟩;rotate_left 1
 · have HBB:=HB.out;go_wp2_with fail;exact⟨rfl,PO.no (st_no HS (tk_no k1)) qe⟩
 replace HS:=st_ok HS (tk_yes k1);replace HB:Hid (Bt g w w1):=hid qh;replace HR:=hid R1;clear b1 R1;clear k1;go_wp2_with fail
 (first|go_end0|refine bodyPost_ret (results_none rfl _ _ _) rfl ?_)
 exact PO.ok (st_end HS) HB.out rfl HR.out
set_option maxRecDepth 100000 in
theorem nameLine_any (w:World) (hR:Rd L g t w):Calls Tryz.prog 105 #[.pointer (some ⟨g,0,none⟩)] w (PO L g VT (run nmL t) w):=by
 obtain⟨r,hr⟩:∃r,run nmL t=r:=⟨_,rfl⟩
 rw[hr];have HS:=hid hr;have hg:=hR.blk;have HR:=hid hR;have HB:Hid (Bt g w w):=hid (Eqv.refl _ _);clear hR hr;go_enter Tryz.func105,Tryz.ntmps105;go_wp2_with fail;refine(name_any _ (HR.out.low qe)).mono ?_;rintro e w1 h1;rcases h1.cases with⟨x1,u1,v1,r1,rfl,b1,V1,R1⟩|⟨u1,r1,rfl,b1⟩
 rotate_left 1
 · exact zBS_1
 replace HS:=st_ok HS r1;replace HB:Hid (Bt g w w1):=hid qh;replace HR:=hid R1;clear b1 R1;clear r1 h1;obtain rfl:=V1;go_wp2_with fail;refine(endLine_any _ (HR.out.low qe)).mono ?_;rintro e w2 h2;rcases h2.cases with⟨x2,u2,v2,r2,rfl,b2,V2,R2⟩|⟨u2,r2,rfl,b2⟩
 rotate_left 1
 · exact zBS_1
 replace HS:=st_ok HS r2;replace HB:Hid (Bt g w w2):=hid qh;replace HR:=hid R2;clear b2 R2;clear r2 h2;obtain rfl:=V2;exact zBS_2
theorem zBS_0 {p:Prop} (h:p:=by
 go_wp2_with fail;refine(accept_any _ _ (HR.out.low qe) (by decide)).mono ?_;rintro e w1 ⟨b1,⟨i1,rfl,R1⟩|⟨i1,rfl,R1⟩⟩
 · replace HS:=st_yes HS i1;replace HB:Hid (Bt g w w1):=hid qh;replace HR:=hid R1;clear b1 R1;clear i1;exact zBS_2
 · replace HS:=st_not HS i1;replace HB:Hid (Bt g w w1):=hid qh;replace HR:=hid R1;clear b1 R1;clear i1;go_wp2_with fail;refine(accept_any _ _ (HR.out.low qe) (by decide)).mono ?_;rintro e w2 ⟨b2,⟨i2,rfl,R2⟩|⟨i2,rfl,R2⟩⟩
   · replace HS:=st_yes HS i2;replace HB:Hid (Bt g w w2):=hid qh;replace HR:=hid R2;clear b2 R2;clear i2;exact zBS_2
   · replace HS:=st_not HS i2;replace HB:Hid (Bt g w w2):=hid qh;replace HR:=hid R2;clear b2 R2;clear i2;go_wp2_with fail;refine(accept_any _ _ (HR.out.low qe) (by decide)).mono ?_;rintro e w3 ⟨b3,⟨i3,rfl,R3⟩|⟨i3,rfl,R3⟩⟩
     · replace HS:=st_yes HS i3;replace HB:Hid (Bt g w w3):=hid qh;replace HR:=hid R3;clear b3 R3;clear i3;exact zBS_2
     · replace HS:=st_not HS i3;replace HB:Hid (Bt g w w3):=hid qh;replace HR:=hid R3;clear b3 R3;clear i3;go_wp2_with fail;refine(wrong_any _ (HR.out.low qe)).mono ?_;rintro e w4 ⟨rfl,b4⟩;have HBB:=HB.out;go_wp2_with fail;exact⟨rfl,PO.no (st_fl HS) (by have q:Bt g _ w4:=Eqv.of b4;exact qe)⟩
 ):p:=h
set_option maxRecDepth 100000 in
theorem typeWord_any (w:World) (hR:Rd L g t w):Calls Tryz.prog 102 #[.pointer (some ⟨g,0,none⟩)] w (PO L g VI (run typ t) w):=by
 obtain⟨r,hr⟩:∃r,run typ t=r:=⟨_,rfl⟩
 rw[hr];have HS:=hid hr;have hg:=hR.blk;have HR:=hid hR;have HB:Hid (Bt g w w):=hid (Eqv.refl _ _);clear hR hr;go_enter Tryz.func102,Tryz.ntmps102;exact zBS_0
set_option maxRecDepth 100000 in
theorem policy_any (w:World) (hR:Rd L g t w):Calls Tryz.prog 181 #[.pointer (some ⟨g,0,none⟩)] w (PO L g VI (run pol t) w):=by
 obtain⟨r,hr⟩:∃r,run pol t=r:=⟨_,rfl⟩
 rw[hr];have HS:=hid hr;have hg:=hR.blk;have HR:=hid hR;have HB:Hid (Bt g w w):=hid (Eqv.refl _ _);clear hR hr;go_enter Tryz.func181,Tryz.ntmps181;exact zBS_0
end
end Go.Proofs.YtbgodajefaahdaaGreatDoor.Ps
namespace Go.Proofs.YtbgodajefaahdaaGreatDoor.Ps
open Go.RowKit
open Go.Proofs.YtbgodajefaahdaaGreatDoor.Lx (Tk)
set_option maxHeartbeats 600000
section
variable {L:Lk} {g:Nat} {t:List Tk}
theorem zEE_1 {p:Prop} (h:p:=by
 have HL:=hid (HS.out.symm.trans r3);replace HB:Hid (Bt g w w3):=hid qh;replace HR:=hid R3;clear b3 R3;go_wp2_with fail;go_ret;exact PO.ok HL.out HB.out rfl HR.out
 ):p:=h
theorem zEE_0 {p:Prop} (h:p:=by
 go_wp2_with fail;refine(truth_any _ (HR.out.low qe)).mono ?_;rintro e w3 h3;rcases h3.cases with⟨x3,u3,v3,r3,rfl,b3,V3,R3⟩|⟨u3,r3,rfl,b3⟩
 · obtain⟨rfl,-⟩:=V3;exact zEE_1
 · have HBB:=HB.out;go_wp2_with fail;exact⟨rfl,PO.no (HS.out.symm.trans r3) qe⟩
 ):p:=h
theorem zEE_2 {p:Prop} (h:p:=by have q:Lw g _ w1:=Eqv.of hb1;exact qe):p:=h
set_option maxRecDepth 100000 in
theorem argument_any (w:World) (hR:Rd L g t w):Calls Tryz.prog 185 #[.pointer (some ⟨g,0,none⟩)] w (PO L g VI (run arg t) w):=by
 obtain⟨r,hr⟩:∃r,run arg t=r:=⟨_,rfl⟩
 rw[hr];have HS:=hid hr;have hg:=hR.blk;have HR:=hid hR;have HB:Hid (Bt g w w):=hid (Eqv.refl _ _);clear hR hr;go_enter Tryz.func185,Tryz.ntmps185
 cases i1:is kTrue t
 · replace HS:=st_out HS i1
   cases i2:is kFalse t
   · replace HS:=st_out HS i2;go_wp2_with fail;refine(sees_any kTrue _ (HR.out.low qe)).mono ?_;rintro e w1 ⟨rfl,hb1⟩;have b1:Bt g _ w1:=Eqv.of hb1;have R1:Rd L g _ w1:=HR.out.low zEE_2;clear hb1;rw[i1];replace HB:Hid (Bt g w w1):=hid qh;replace HR:=hid R1;clear b1 R1;go_wp2_with fail;refine(sees_any kFalse _ (HR.out.low qe)).mono ?_;rintro e w2 ⟨rfl,hb2⟩;have b2:Bt g _ w2:=Eqv.of hb2;have R2:Rd L g _ w2:=HR.out.low (by have q:Lw g _ w2:=Eqv.of hb2;exact qe);clear hb2;rw[i2];replace HB:Hid (Bt g w w2):=hid qh;replace HR:=hid R2;clear b2 R2;clear i1 i2;go_wp2_with fail;refine(integer_any _ (HR.out.low qe)).mono ?_;rintro e w3 h3;rcases h3.cases with⟨x3,u3,v3,r3,rfl,b3,V3,R3⟩|⟨u3,r3,rfl,b3⟩
     · obtain rfl:=V3;exact zEE_1
     · have HBB:=HB.out;go_wp2_with fail;exact⟨rfl,PO.no (HS.out.symm.trans r3) qe⟩
   · replace HS:=st_see HS i2;go_wp2_with fail;refine(sees_any kTrue _ (HR.out.low qe)).mono ?_;rintro e w1 ⟨rfl,hb1⟩;have b1:Bt g _ w1:=Eqv.of hb1;have R1:Rd L g _ w1:=HR.out.low zEE_2;clear hb1;rw[i1];replace HB:Hid (Bt g w w1):=hid qh;replace HR:=hid R1;clear b1 R1;go_wp2_with fail;refine(sees_any kFalse _ (HR.out.low qe)).mono ?_;rintro e w2 ⟨rfl,hb2⟩;have b2:Bt g _ w2:=Eqv.of hb2;have R2:Rd L g _ w2:=HR.out.low (by have q:Lw g _ w2:=Eqv.of hb2;exact qe);clear hb2;rw[i2];replace HB:Hid (Bt g w w2):=hid qh;replace HR:=hid R2;clear b2 R2;clear i1 i2;exact zEE_0
 · replace HS:=st_see HS i1;go_wp2_with fail;refine(sees_any kTrue _ (HR.out.low qe)).mono ?_;rintro e w1 ⟨rfl,hb1⟩;have b1:Bt g _ w1:=Eqv.of hb1;have R1:Rd L g _ w1:=HR.out.low zEE_2;clear hb1;rw[i1];replace HB:Hid (Bt g w w1):=hid qh;replace HR:=hid R1;clear b1 R1;clear i1;exact zEE_0
end
end Go.Proofs.YtbgodajefaahdaaGreatDoor.Ps
namespace Go.Proofs.YtbgodajefaahdaaGreatDoor.Ps
open Go.Proofs.YtbgodajefaahdaaGreatDoor.Md
set_option maxHeartbeats 16000000
theorem zEG_0 {p:Prop} (h:p:=by kernel_rfl):p:=h
theorem gVal:Kind 23 93 3:=kind_of Tryz.underlying23 (z:=.agg #[.string ⟨#[]⟩,.int .i64 0,.int .i64 0]) (b:=32) zEG_0 (by decide) (by decide) (by decide)
theorem sVal_:Sized 3 RVal:=by intro G w x c h;exact h.is
theorem gRes:Kind 45 111 17:=kind_of Tryz.underlying45 (z:=.agg #[.string ⟨#[]⟩,.int .i64 0,.slice none 0 0,.int .i64 0,.string ⟨#[]⟩,.int .i64 0,.int .i64 0,.int .i64 0,.int .i64 0,.slice none 0 0,.slice none 0 0,.int .i64 0,.int .i64 0,.int .i64 0,.int .i64 0,.slice none 0 0,.slice none 0 0]) (b:=232) zEG_0 (by decide) (by decide) (by decide)
theorem sRes_:Sized 17 RRes:=by intro G w x c h;exact h.is
theorem gSto:Kind 46 114 3:=kind_of Tryz.underlying46 (z:=.agg #[.string ⟨#[]⟩,.int .i64 0,.int .i64 0]) (b:=32) zEG_0 (by decide) (by decide) (by decide)
theorem sSto_:Sized 3 RSto:=by intro G w x c h;exact h.is
theorem gBlt:Kind 47 116 3:=kind_of Tryz.underlying47 (z:=.agg #[.string ⟨#[]⟩,.int .i64 0,.int .i64 0]) (b:=32) zEG_0 (by decide) (by decide) (by decide)
theorem sBlt_:Sized 3 RBlt:=by intro G w x c h;exact h.is
theorem gRou:Kind 49 119 4:=kind_of Tryz.underlying49 (z:=.agg #[.string ⟨#[]⟩,.slice none 0 0,.slice none 0 0,.slice none 0 0]) (b:=88) zEG_0 (by decide) (by decide) (by decide)
theorem sRou_:Sized 4 RRou:=by intro G w x c h;exact h.is
theorem gSta:Kind 50 122 5:=kind_of Tryz.underlying50 (z:=.agg #[.string ⟨#[]⟩,.slice none 0 0,.int .i64 0,.int .i64 0,.int .i64 0]) (b:=64) zEG_0 (by decide) (by decide) (by decide)
theorem sSta_:Sized 5 RSta:=by intro G w x c h;exact h.is
theorem gLw:Kind 51 127 3:=kind_of Tryz.underlying51 (z:=.agg #[.string ⟨#[]⟩,.slice none 0 0,.int .i64 0]) (b:=48) zEG_0 (by decide) (by decide) (by decide)
theorem sLw_:Sized 3 RLw:=by intro G w x c h;exact h.is
theorem gTrm:Kind 125 181 3:=kind_of Tryz.underlying125 (z:=.agg #[.int .i64 0,.string ⟨#[]⟩,.string ⟨#[]⟩]) (b:=40) zEG_0 (by decide) (by decide) (by decide)
theorem gLnk:Kind 25 73 3:=kind_of Tryz.underlying25 (z:=.agg #[.string ⟨#[]⟩,.string ⟨#[]⟩,.int .i64 0]) (b:=40) zEG_0 (by decide) (by decide) (by decide)
theorem sLnk_:Sized 3 RLnk:=by intro G w x c h;exact h.is
theorem gChg:Kind 107 177 2:=kind_of Tryz.underlying107 (z:=.agg #[.int .i64 0,.int .i64 0]) (b:=16) zEG_0 (by decide) (by decide) (by decide)
theorem sChg_:Sized 2 RChg:=by intro G w x c h;exact h.is
theorem sSte_:Sized 13 RSte:=by intro G w x c h;exact h.is
theorem sTxt_:Sized 1 RTxt:=by intro G w x c h;subst h;exact⟨rfl,by simp[Value.oneCell']⟩
end Go.Proofs.YtbgodajefaahdaaGreatDoor.Ps
