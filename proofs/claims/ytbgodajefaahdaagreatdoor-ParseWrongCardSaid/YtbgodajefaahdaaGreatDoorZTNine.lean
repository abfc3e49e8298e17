/-
  Parts of this proof: No check gives the number of a text that cannot . The contract of Expr. The chapter's examples, as the reader's mathemat. The contract of the laws' awake. What the laws of blanks and of wrong texts ask, . The law of wrong texts, walked.
-/
import Derived.Test.YtbgodajefaahdaaGreatDoorZTDcl
import Derived.Test.YtbgodajefaahdaaGreatDoorZPRSame2
import Derived.Test.YtbgodajefaahdaaGreatDoorZQRss
set_option linter.unusedVariables false
open Go.Lib (hid)
namespace Go.Proofs.YtbgodajefaahdaaGreatDoor.Ps
open Go.Proofs.YtbgodajefaahdaaGreatDoor.Ex (Ex)
open Go.Proofs.YtbgodajefaahdaaGreatDoor.Sm (St Dt orE onE badA argE dtE restE oneE badS chkL)
open Go.Proofs.YtbgodajefaahdaaGreatDoor.Md (Val Chg Res Sto Blt Fld Rou Sta Trm Lw Lnk Ste Mdl)
def N9 (e:Int):Prop:=¬e=9
theorem n9_0:N9 0:=by unfold N9;decide
theorem n9_lit {e:Int} (h:decide (e=9)=false):N9 e:=of_decide_eq_false h
theorem n9_or {a b:Int} (ha:N9 a) (hb:N9 b):N9 (orE a b):=by unfold orE;split <;> assumption
theorem n9_on {u:Bool} {a:Int} (ha:N9 a):N9 (onE u a):=by unfold onE;split <;> first|assumption|exact n9_0
theorem n9_if {c:Prop} [Decidable c] {a b:Int} (ha:N9 a) (hb:N9 b):N9 (if c then a else b):=by split <;> assumption
theorem n9_chk (l:List UInt8):N9 (Na.chk l):=n9_if n9_0 (n9_lit rfl)
theorem n9_nd (c:Bool) (o:Int) (s:List UInt8) (n:Int) (m:Nat):N9 (Go.Proofs.YtbgodajefaahdaaGreatDoor.Ex.nd c o s n m):=by
 unfold Go.Proofs.YtbgodajefaahdaaGreatDoor.Ex.nd;exact n9_if (n9_lit rfl) (n9_if (n9_lit rfl) (n9_if (n9_chk _) n9_0))
theorem n9_bad (c:Bool):∀l:List Ex,N9 (Go.Proofs.YtbgodajefaahdaaGreatDoor.Ex.bad c l)
 | []=>n9_0
 | x::t=>by unfold Go.Proofs.YtbgodajefaahdaaGreatDoor.Ex.bad;exact n9_if (n9_bad c t) (n9_nd _ _ _ _ _)
theorem n9_chkE (c:Bool) (x:Ex):N9 (Go.Proofs.YtbgodajefaahdaaGreatDoor.Ex.chkE c x):=by
 unfold Go.Proofs.YtbgodajefaahdaaGreatDoor.Ex.chkE;exact n9_if (n9_lit rfl) (n9_if (n9_lit rfl) (n9_bad _ _))
theorem n9_badA:∀l:List Ex,N9 (badA l)
 | []=>n9_0
 | x::t=>by unfold badA;exact n9_or (n9_chkE _ _) (n9_badA t)
theorem n9_len (a b:Nat):N9 (Go.Proofs.YtbgodajefaahdaaGreatDoor.Di.lenE a b):=by
 unfold Go.Proofs.YtbgodajefaahdaaGreatDoor.Di.lenE N9
 repeat' split
 all_goals decide
theorem n9_dt (d:Dt):N9 (dtE d):=by
 unfold dtE Go.Proofs.YtbgodajefaahdaaGreatDoor.Di.errD Go.Proofs.YtbgodajefaahdaaGreatDoor.Di.errW;exact n9_if (n9_if (n9_if (n9_if n9_0 (n9_lit rfl)) (n9_len _ _)) (n9_if n9_0 (n9_lit rfl))) (n9_lit rfl)
theorem n9_one (x:St):N9 (oneE x):=by
 unfold oneE restE argE;exact n9_if (n9_or (n9_on (n9_chk _)) (n9_or (n9_on (n9_chk _)) (n9_or (n9_on (n9_chkE _ _)) (n9_or (n9_on (n9_chkE _ _)) (n9_or (n9_on (n9_if (n9_lit rfl) (n9_badA _))) (n9_on (n9_dt _))))))) (n9_lit rfl)
theorem n9_badS:∀l:List St,N9 (badS l)
 | []=>n9_0
 | x::t=>by unfold badS;exact n9_or (n9_one x) (n9_badS t)
theorem n9_chkL (l:List St):N9 (chkL l):=by
 unfold chkL;exact n9_if (n9_lit rfl) (n9_if (n9_lit rfl) (n9_badS _))
theorem n9_go {α σ:Type} {f:σ->α->Int×σ}:∀(l:List α) (s:σ),(∀s,∀x∈l,N9 (f s x).1)->N9 (Md.goE f l s).1
 | [],s,h=>n9_0
 | x::t,s,h=>by
  unfold Md.goE
  split
  · exact n9_go t _ fun s y hy=>h s y (List.mem_cons_of_mem _ hy)
  · exact h s x (List.mem_cons_self ..)
theorem n9_each {α σ:Type} {f:σ->α->Int×σ} {most:Nat} {l:List α} {s:σ} (h:∀s,∀x∈l,N9 (f s x).1):N9 (Md.eachE f most l s).1:=by
 unfold Md.eachE
 split
 · exact n9_lit rfl
 · exact n9_go l s h
theorem n9_fr {α:Type} {f:α->Int}:∀{l:List α},(∀x∈l,N9 (f x))->N9 (Md.frE f l)
 | [],h=>n9_0
 | x::t,h=>by unfold Md.frE;exact n9_or (h x (List.mem_cons_self ..)) (n9_fr fun y hy=>h y (List.mem_cons_of_mem _ hy))
theorem n9_lst {α:Type} {f:α->Int} {most:Nat} {l:List α} (h:∀x∈l,N9 (f x)):N9 (Md.lstE f most l):=n9_if (n9_lit rfl) (n9_fr h)
theorem n9_step {ac:List ByteArray} {p:ByteArray×Int} (h:N9 p.2):N9 (Md.stepN ac p).1:=by
 unfold Md.stepN Md.decE;exact n9_or (n9_or (n9_chk _) (n9_if (n9_lit rfl) n9_0)) h
theorem n9_names {α:Type} {f:α->ByteArray×Int} {most:Nat} {l:List α} {ac:List ByteArray} (h:∀x,N9 (f x).2):N9 (Md.eachE Md.stepN most (l.map f) ac).1:=
 n9_each fun s x hx=>by obtain⟨y,-,rfl⟩:=List.mem_map.1 hx;exact n9_step (h y)
theorem n9_val (v:Val):N9 (Md.valT v):=by unfold Md.valT;exact n9_if (n9_if n9_0 (n9_lit rfl)) (n9_lit rfl)
theorem n9_fld (v:Fld):N9 (Md.fldT v):=by unfold Md.fldT;exact n9_if n9_0 (n9_lit rfl)
theorem n9_chg (cy:Int) (p:Option Chg) (c:Chg):N9 (Md.chgE cy p c):=by
 unfold Md.chgE;refine n9_if ?_ (n9_lit rfl)
 cases p with
 | none=>exact n9_0
 | some d=>exact n9_if (n9_lit rfl) n9_0
theorem n9_chgL (cy:Int):∀(p:Option Chg) (l:List Chg),N9 (Md.chgL cy p l)
 | p,[]=>by unfold Md.chgL;exact n9_0
 | p,c::t=>by unfold Md.chgL;exact n9_or (n9_chg _ _ _) (n9_chgL cy _ t)
theorem n9_res (sm:List ByteArray) (r:Res):N9 (Md.resT sm r):=by
 unfold Md.resT Md.schE Md.fltE;exact n9_if (n9_or (n9_if (n9_if n9_0 (n9_lit rfl)) (n9_if (n9_lit rfl) (n9_if (n9_chgL _ _ _) (n9_lit rfl)))) (n9_if (n9_if n9_0 (n9_lit rfl)) (n9_if (n9_lit rfl) (n9_or (n9_dt _) (n9_dt _))))) (n9_lit rfl)
theorem n9_sto (d:Sto):N9 (Md.stoT d):=by unfold Md.stoT;exact n9_if (n9_if n9_0 (n9_lit rfl)) (n9_lit rfl)
theorem n9_blt (d:Blt):N9 (Md.bltT d):=by unfold Md.bltT;exact n9_if n9_0 (n9_lit rfl)
theorem n9_rou (r:Rou):N9 (Md.rouT r):=by
 unfold Md.rouT;exact n9_if (n9_lit rfl) (n9_or (n9_each fun s x hx=>n9_step (n9_fld x)) (n9_chkL _))
theorem n9_thr:∀(l:List (Nat×List (ByteArray×Int))) (ac:List ByteArray),(∀k∈l,∀p∈k.2,N9 p.2)->∀e∈Md.thr l ac,N9 e
 | [],ac,h,e,he=>by cases he
 | k::t,ac,h,e,he=>by
  unfold Md.thr at he;rcases List.mem_cons.1 he with rfl|he
  · exact n9_each fun s x hx=>n9_step (h k (List.mem_cons_self ..) x hx)
  · exact n9_thr t _ (fun j hj=>h j (List.mem_cons_of_mem _ hj)) e he
theorem n9_map {α:Type} {f:α->ByteArray×Int} {l:List α} (h:∀x,N9 (f x).2):∀p∈l.map f,N9 p.2:=fun p hp=>by obtain⟨y,-,rfl⟩:=List.mem_map.1 hp;exact h y
theorem n9_kinds (s:Ste):∀k∈Md.kinds s,∀p∈k.2,N9 p.2:=by
 unfold Md.kinds;simp only[List.forall_mem_cons];exact⟨n9_map n9_val,n9_map (n9_res s.sm),n9_map n9_sto,n9_map n9_blt,n9_map fun _=>n9_0,n9_map fun _=>n9_0,n9_map fun _=>n9_0,n9_map fun _=>n9_0,n9_map fun _=>n9_0,n9_map n9_rou,fun _ h=>by cases h⟩
theorem n9_sta (ro:List Rou) (d:Sta):N9 (Md.staE ro d):=by
 unfold Md.staE N9
 repeat' split
 all_goals decide
theorem n9_trm (s:Ste) (t:Trm):N9 (Md.trmE s t):=by
 unfold Md.trmE N9
 repeat' split
 all_goals decide
theorem n9_law (s:Ste) (l:Md.Lw):N9 (Md.lawT s l):=by
 unfold Md.lawT;exact n9_if (n9_lit rfl) (n9_or (n9_lst fun x _=>n9_trm s x) (n9_if n9_0 (n9_lit rfl)))
theorem n9_site (s:Ste):N9 (Md.siteT s):=by
 unfold Md.siteT Md.lawsE;exact n9_or (n9_fr fun e he=>n9_thr _ _ (n9_kinds s) e he) (n9_or (n9_lst fun x _=>n9_sta _ x) (n9_names (n9_law s)))
theorem n9_lnk (si:List Ste) (l:Lnk):N9 (Md.lnkT si l):=by
 unfold Md.lnkT N9
 repeat' split
 all_goals decide
theorem n9_mdlE (m:Mdl):N9 (Md.mdlE m):=by
 unfold Md.mdlE Md.parE Md.sitesE Md.lnksE;refine n9_or (n9_chk _) (n9_or (n9_names n9_val) (n9_or (n9_if (n9_lit rfl) (n9_names n9_site)) (n9_each fun s x _=>?_)));unfold Md.stepK;have h:=n9_lnk m.si x
 split
 · split
   · exact n9_lit rfl
   · exact n9_0
 · exact h
end Go.Proofs.YtbgodajefaahdaaGreatDoor.Ps
namespace Go.Proofs.YtbgodajefaahdaaGreatDoor.Ps
open Go.RowKit
open Go.Proofs.YtbgodajefaahdaaGreatDoor.Lx (Tk bs mt Tokd tokL tokN tokE own_toks tokens_any)
open Go.Proofs.YtbgodajefaahdaaGreatDoor.Ex (Ex In Kin chkE)
open Go.Proofs.YtbgodajefaahdaaGreatDoor.Md (Box)
set_option maxHeartbeats 600000
def nX:Ex:=.mk 0 mt 0 []
def rdX (s:List UInt8):Ex×Int×Int:=
 if tokE s=0 then (match run oEx (tokL s) with
  | .ok x _=>if chkE false x=0 then (x,0,0) else (nX,0,chkE false x)
  | .no u=>(nX,(hd u).l,9))
 else (nX,tokN s,tokE s)
def XO (q:Ex×Int×Int) (w:World) (e:Ending) (w':World):Prop:=Below w.heap.size w w'/\∃p m c,e=.returned (.tuple #[.agg (cEx q.1 p m c),.int .i64 q.2.1,.int .i64 q.2.2])/\Kin (fun b=>w.heap.size<=b) w' q.1 p m
theorem rdX_lex {s:List UInt8} (h:¬tokE s=0):rdX s=(nX,(tokN s:Int),tokE s):=by unfold rdX;rw[if_neg h]
theorem rdX_no {s:List UInt8} {u:List Tk} (h:tokE s=0) (hr:run oEx (tokL s)=.no u):rdX s=(nX,(hd u).l,9):=by unfold rdX;rw[if_pos h,hr]
theorem rdX_bad {s:List UInt8} {x:Ex} {u:List Tk} (h:tokE s=0) (hr:run oEx (tokL s)=.ok x u) (hc:¬chkE false x=0):rdX s=(nX,0,chkE false x):=by unfold rdX;rw[if_pos h,hr];simp only[if_neg hc]
theorem rdX_ok {s:List UInt8} {x:Ex} {u:List Tk} (h:tokE s=0) (hr:run oEx (tokL s)=.ok x u) (hc:chkE false x=0):rdX s=(x,0,0):=by unfold rdX;rw[if_pos h,hr];simp only[if_pos hc]
theorem XO.mk {q:Ex×Int×Int} {w w':World} {x:Ex} {p:Option Addr} {m c:Nat} {a b:Int} (hq:q=(x,a,b)) (hb:Below w.heap.size w w') (hk:Kin (fun b=>w.heap.size<=b) w' x p m):XO q w (.returned (.tuple #[.agg (cEx x p m c),.int .i64 a,.int .i64 b])) w':=by subst hq;exact⟨hb,p,m,c,rfl,hk⟩
theorem zFW_0 {p:Prop} (h:p:=by
 exact res_row_tmp2 rfl _ _ w.heap.size 41 _ (0,0) _ rfl (box_set4 Z.out rfl) Tryz.underlying41 rfl (by kernel_rfl) rfl rfl
 ):p:=h
theorem zFW_1 {p:Prop} (h:p:=by have HBB:=HB.out;have q1:=hb2;have q:Eqv (fun k=>k<w.heap.size) _ w2:=Eqv.of q1;exact qe):p:=h
theorem zFW_2 {p:Prop} (h:p:=by have q1:=hb2;have q:Eqv (fun k=>k=w.heap.size+1) _ w2:=Eqv.of q1;exact qe):p:=h
theorem zFW_3 {p:Prop} (h:p:=by have q1:=hb2;have q:Eqv (fun k=>k=w.heap.size) _ w2:=Eqv.of q1;exact qe):p:=h
theorem zFW_4 {p:Prop} (h:p:=by have q1:=hb;have q:Eqv (fun k=>k=w.heap.size) _ w1:=Eqv.of q1;exact qe):p:=h
theorem zFW_5 {p:Prop} (h:p:=by have q1:=hb;have q:Eqv (fun k=>k<w.heap.size) _ w1:=Eqv.of q1;exact qe):p:=h
set_option maxRecDepth 100000 in
theorem readX_any (s:ByteArray) (w:World) (hs:s.size<=9223372036854775807) (hE:Nu.Env w):Calls Tryz.prog 23 #[.string s,.func (.func 24) #[] #[],.func (.func 25) #[] #[]] w (XO (rdX (bs s)) w):=by
 have HE:Hid (∀W,Below w.heap.size w W->Calls Tryz.prog 27 #[.string s] W (Tokd W (tokL (bs s)) (tokN (bs s)) (tokE (bs s)))):=hid fun W hW=>tokens_any s W hs (hE.below hW);clear hE hs;have Z:=hid (Box.new (w:=w) (t:=41) (c:=#[.int .i64 0,.string ⟨#[]⟩,.int .i64 0,.slice none 0 0]));have n0:Box ((w.alloc (.cells #[.int .i64 0,.string ⟨#[]⟩,.int .i64 0,.slice none 0 0] 41)).alloc (.cells #[.int .i64 0,.string ⟨#[]⟩,.int .i64 0,.slice none 0 0] 41)) (w.heap.size+1) 41 #[.int .i64 0,.string ⟨#[]⟩,.int .i64 0,.slice none 0 0]:=by
  have h:=Box.new (w:=w.alloc (.cells #[.int .i64 0,.string ⟨#[]⟩,.int .i64 0,.slice none 0 0] 41)) (t:=41) (c:=#[.int .i64 0,.string ⟨#[]⟩,.int .i64 0,.slice none 0 0]);rwa [show(w.alloc (.cells #[.int .i64 0,.string ⟨#[]⟩,.int .i64 0,.slice none 0 0] 41)).heap.size=w.heap.size+1 by simp] at h
 have N:=hid n0;clear n0;obtain⟨E,hEE⟩:∃E,tokE (bs s)=E:=⟨_,rfl⟩
 obtain⟨q,hq⟩:∃q,rdX (bs s)=q:=⟨_,rfl⟩
 rw[hEE] at HE;rw[hq];have HEE:=hid hEE;have HQ:=hid hq;clear hEE hq;go_enter Tryz.func23,Tryz.ntmps23;go_wp2_with fail;refine(HE.out _ bl).mono ?_;rintro e w1 ⟨v1,rfl,ho,hb⟩;clear HE;replace Z:=hid (box_at (w2:=w1) Z.out zFW_4);replace N:=hid (box_at (w2:=w1) N.out (by have q1:=hb;have q:Eqv (fun k=>k=w.heap.size+1) _ w1:=Eqv.of q1;exact qe));have HB:Hid (Eqv (fun k=>k<w.heap.size) w w1):=hid zFW_5;have HO:=hid ho;have hz:=Z.out.lt;have hn:=N.out.lt;clear hb ho;by_cases h0:E=0
 · have b0:(E != 0)=false:=by simp[h0]
   subst h0;obtain⟨hgd,hfew⟩:=gd_tokens HEE.out;obtain⟨p,c,rfl,ht,hc,hp⟩:=own_toks HO.out;have hne:=hgd.ne;obtain⟨g,rfl,hg⟩:∃g,p=some ⟨g,0,none⟩/\w.heap.size<=g:=by
    rcases hp with⟨-,h⟩|⟨g,h,h2⟩
    · omega
    · exact⟨g,h,by simp at h2;omega⟩
   have HT:=hid ht;have HG:=hid hgd;have HF:=hid hfew;clear ht hgd hfew hc hp hg hne HO;go_wp2_with fail;refine(followX_any 24 oEx ⟨g,0,(tokL (bs s)).length,c,tokL (bs s)⟩ w1 (fun _ _=>rfl) HT.out HG.out HF.out (fun g W hR=>onlyExpression_any W hR)).mono ?_;rintro e w2 h2;obtain⟨hb2,⟨x2,u2,v2,r2,rfl,V2⟩|⟨u2,r2,rfl⟩⟩:=h2.cases
   · obtain⟨p2,m2,c2,rfl,k2⟩:=V2;obtain⟨hcnt,hsz⟩:=oEx_size HG.out HF.out r2;have HX:Hid ((chkE false x2=0->q=(x2,0,0))/\(¬chkE false x2=0->q=(nX,0,chkE false x2))):=hid ⟨fun h=>HQ.out.symm.trans (rdX_ok HEE.out r2 h),fun h=>HQ.out.symm.trans (rdX_bad HEE.out r2 h)⟩;have HC:=hid (fun W (hI:In W x2 p2 m2)=>Go.Proofs.YtbgodajefaahdaaGreatDoor.Ex.check_any x2 p2 m2 c2 W hI hsz (by omega));replace Z:=hid (box_at (w2:=w2) Z.out zFW_3);replace N:=hid (box_at (w2:=w2) N.out zFW_2);replace HB:Hid (Eqv (fun k=>k<w.heap.size) w w2):=hid zFW_1;have KX:Hid (Kin (fun b=>w.heap.size+1<b) w2 x2 p2 m2):=hid (k2.mono fun b hb hlt=>by
      have hb':w1.heap.size<=b:=hb;omega)
     have Y:=hid (Box.new (w:=w2) (t:=41) (c:=cEx x2 p2 m2 c2));have hs2:w1.heap.size<=w2.heap.size:=hb2.size;clear h2 r2 hb2 hcnt hsz k2 HQ HEE HT HG HF;obtain⟨V,hV⟩:∃V,chkE false x2=V:=⟨_,rfl⟩
     rw[hV] at HX HC;clear hV;dsimp only [cEx] at Y ⊢;have l0:World.cell? _ ⟨_,0,none⟩=some (.int .i64 x2.o):=Y.out.get rfl;have l1:World.cell? _ ⟨_,1,none⟩=some (.string x2.s):=Y.out.get rfl;have l2:World.cell? _ ⟨_,2,none⟩=some (.int .i64 x2.n):=Y.out.get rfl;have l3:World.cell? _ ⟨_,3,none⟩=some (.slice p2 m2 c2):=Y.out.get rfl;go_wp2_with fail;refine(HC.out _ (Kin.all (Ex.Kin.map (G:=fun b=>w.heap.size+1<b) (w:=w2) (by simp) (fun b hb hlt=>⟨hb,by show(w2.heap.push _)[b]?=_;rw[Array.getElem?_push,if_neg (by omega)]⟩) _ KX.out))).mono ?_;rintro e w3 ⟨rfl,hb3⟩;clear l0 l1 l2 l3 HC;replace Z:=hid (box_at (w2:=w3) Z.out (by have q1:=hb3;have q:Eqv (fun k=>k=w.heap.size) _ w3:=Eqv.of q1;exact qe));replace N:=hid (box_at (w2:=w3) N.out (by have q1:=hb3;have q:Eqv (fun k=>k=w.heap.size+1) _ w3:=Eqv.of q1;exact qe));replace HB:Hid (Eqv (fun k=>k<w.heap.size) w w3):=hid (by have HBB:=HB.out;have q1:=hb3;have q:Eqv (fun k=>k<w.heap.size) _ w3:=Eqv.of q1;exact qe);replace Y:=hid (box_at (w2:=w3) Y.out (by have q1:=hb3;have q:Eqv (fun k=>k=w2.heap.size) _ w3:=Eqv.of q1;exact qe));have KK:Hid (Kin (fun b=>w.heap.size+1<b) w3 x2 p2 m2):=hid (by
      have q1:=hb3;have q:Eqv (fun b=>w.heap.size+1<b) w2 w3:=by
       have q2:Eqv (fun b=>w.heap.size+1<b) _ w3:=Eqv.of q1;exact qe
      exact Ex.Kin.map q.size (fun b hb hlt=>⟨hb,q.block b hlt hb⟩) _ KX.out)
     have hs3:=Y.out.lt;clear hb3 KX;by_cases h1:V=0
     · have b1:(V != 0)=false:=by simp[h1]
       have hx:=hid (HX.out.1 h1);clear h1 HX;have l0:World.cell? _ ⟨_,0,none⟩=some (.int .i64 x2.o):=Y.out.get rfl;have l1:World.cell? _ ⟨_,1,none⟩=some (.string x2.s):=Y.out.get rfl;have l2:World.cell? _ ⟨_,2,none⟩=some (.int .i64 x2.n):=Y.out.get rfl;have l3:World.cell? _ ⟨_,3,none⟩=some (.slice p2 m2 c2):=Y.out.get rfl;have y0:World.cell? _ ⟨_,0,none⟩=some (.int .i64 0):=Z.out.get rfl;have y1:World.cell? _ ⟨_,1,none⟩=some (.string ⟨#[]⟩):=Z.out.get rfl;have y2:World.cell? _ ⟨_,2,none⟩=some (.int .i64 0):=Z.out.get rfl;have y3:World.cell? _ ⟨_,3,none⟩=some (.slice none 0 0):=Z.out.get rfl;have fz:∀i,World.frozen? _ ⟨_,i,none⟩=false:=fun i=>box_frz (i:=i) Z.out;go_wp2_with fail;have q:∀W,Eqv (fun b=>w.heap.size+1<b) w3 W->Kin (fun b=>w.heap.size<=b) W x2 p2 m2:=fun W q=>Ex.Kin.map q.size (fun b hb hlt=>⟨by show w.heap.size<=b;have hb':w.heap.size+1<b:=hb;omega,q.block b hlt hb⟩) _ KK.out;refine bodyPost_ret (v:=.tuple #[.agg (cEx x2 p2 m2 c2),.int .i64 0,.int .i64 0]) ?_ rfl (XO.mk hx.out (eqv_below qh) (q _ qe));exact zFW_0
     · have b1:(V != 0)=true:=by simp[h1]
       have hx:=hid (HX.out.2 h1);clear h1 HX;have l0:World.cell? _ ⟨_,0,none⟩=some (.int .i64 0):=N.out.get rfl;have l1:World.cell? _ ⟨_,1,none⟩=some (.string ⟨#[]⟩):=N.out.get rfl;have l2:World.cell? _ ⟨_,2,none⟩=some (.int .i64 0):=N.out.get rfl;have l3:World.cell? _ ⟨_,3,none⟩=some (.slice none 0 0):=N.out.get rfl;have y0:World.cell? _ ⟨_,0,none⟩=some (.int .i64 0):=Z.out.get rfl;have y1:World.cell? _ ⟨_,1,none⟩=some (.string ⟨#[]⟩):=Z.out.get rfl;have y2:World.cell? _ ⟨_,2,none⟩=some (.int .i64 0):=Z.out.get rfl;have y3:World.cell? _ ⟨_,3,none⟩=some (.slice none 0 0):=Z.out.get rfl;have fz:∀i,World.frozen? _ ⟨_,i,none⟩=false:=fun i=>box_frz (i:=i) Z.out;go_wp2_with fail;refine bodyPost_ret (v:=.tuple #[.agg (cEx nX none 0 0),.int .i64 0,.int .i64 V]) ?_ rfl (XO.mk hx.out (eqv_below qh) (Ex.Kin.zero));exact zFW_0
   · have HX:=hid (HQ.out.symm.trans (rdX_no HEE.out r2));replace Z:=hid (box_at (w2:=w2) Z.out zFW_3);replace N:=hid (box_at (w2:=w2) N.out zFW_2);replace HB:Hid (Eqv (fun k=>k<w.heap.size) w w2):=hid zFW_1;clear h2 r2 hb2 HQ HEE HT HG HF;replace Z:=hid (box_at (w2:=w2.alloc (.cells #[.int .i64 0,.string ⟨#[]⟩,.int .i64 0,.slice none 0 0] 41)) Z.out qe);replace N:=hid (box_at (w2:=w2.alloc (.cells #[.int .i64 0,.string ⟨#[]⟩,.int .i64 0,.slice none 0 0] 41)) N.out qe);have l0:World.cell? _ ⟨_,0,none⟩=some (.int .i64 0):=N.out.get rfl;have l1:World.cell? _ ⟨_,1,none⟩=some (.string ⟨#[]⟩):=N.out.get rfl;have l2:World.cell? _ ⟨_,2,none⟩=some (.int .i64 0):=N.out.get rfl;have l3:World.cell? _ ⟨_,3,none⟩=some (.slice none 0 0):=N.out.get rfl;have y0:World.cell? _ ⟨_,0,none⟩=some (.int .i64 0):=Z.out.get rfl;have y1:World.cell? _ ⟨_,1,none⟩=some (.string ⟨#[]⟩):=Z.out.get rfl;have y2:World.cell? _ ⟨_,2,none⟩=some (.int .i64 0):=Z.out.get rfl;have y3:World.cell? _ ⟨_,3,none⟩=some (.slice none 0 0):=Z.out.get rfl;have fz:∀i,World.frozen? _ ⟨_,i,none⟩=false:=fun i=>box_frz (i:=i) Z.out;go_wp2_with fail;refine bodyPost_ret (v:=.tuple #[.agg (cEx nX none 0 0),.int .i64 (hd u2).l,.int .i64 9]) ?_ rfl (XO.mk HX.out (eqv_below qh) (Ex.Kin.zero));exact zFW_0
 · have b0:(E != 0)=true:=by simp[h0]
   have HX:=hid (HQ.out.symm.trans (rdX_lex (by rw[HEE.out];exact h0)));clear h0 HO;have l0:World.cell? _ ⟨_,0,none⟩=some (.int .i64 0):=N.out.get rfl;have l1:World.cell? _ ⟨_,1,none⟩=some (.string ⟨#[]⟩):=N.out.get rfl;have l2:World.cell? _ ⟨_,2,none⟩=some (.int .i64 0):=N.out.get rfl;have l3:World.cell? _ ⟨_,3,none⟩=some (.slice none 0 0):=N.out.get rfl;have y0:World.cell? _ ⟨_,0,none⟩=some (.int .i64 0):=Z.out.get rfl;have y1:World.cell? _ ⟨_,1,none⟩=some (.string ⟨#[]⟩):=Z.out.get rfl;have y2:World.cell? _ ⟨_,2,none⟩=some (.int .i64 0):=Z.out.get rfl;have y3:World.cell? _ ⟨_,3,none⟩=some (.slice none 0 0):=Z.out.get rfl;have fz:∀i,World.frozen? _ ⟨_,i,none⟩=false:=fun i=>box_frz (i:=i) Z.out;go_wp2_with fail;refine bodyPost_ret (v:=.tuple #[.agg (cEx nX none 0 0),.int .i64 (tokN (bs s):Int),.int .i64 E]) ?_ rfl (XO.mk (by rw[HX.out,HEE.out]) (eqv_below qh) (Ex.Kin.zero));exact zFW_0
def EO (q:Ex×Int×Int) (w:World) (e:Ending) (w':World):Prop:=Below w.heap.size w w'/\∃p m c,e=.returned (.tuple #[.agg (cEx q.1 p m c),.int .i64 q.2.2])/\Kin (fun b=>w.heap.size<=b) w' q.1 p m
set_option maxRecDepth 100000 in
theorem expr_any (s:ByteArray) (w:World) (hs:s.size<=9223372036854775807) (hE:Nu.Env w):Calls Tryz.prog 11 #[.string s] w (EO (rdX (bs s)) w):=by
 have HC:=hid (fun W (hW:Nu.Env W)=>readX_any s W hs hW);have Z:=hid (Box.new (w:=w) (t:=41) (c:=#[.int .i64 0,.string ⟨#[]⟩,.int .i64 0,.slice none 0 0]));have HE:=hid hE;obtain⟨⟨x,a,b⟩,hq⟩:∃q,rdX (bs s)=q:=⟨_,rfl⟩
 rw[hq] at HC ⊢;clear hE hs hq;go_enter Tryz.func11,Tryz.ntmps11;go_wp2_with fail;refine(HC.out _ (HE.out.below bl)).mono ?_;rintro e w1 ⟨hb,p,m,c,rfl,hk⟩;replace Z:=hid (box_at (w2:=w1) Z.out zFW_4);have HB:Hid (Eqv (fun k=>k<w.heap.size) w w1):=hid zFW_5;have hz:w.heap.size<w1.heap.size:=by have h:=hb.size;simp at h;omega
 have KX:Hid (Kin (fun b=>w.heap.size<b) w1 x p m):=hid (hk.mono fun b hb hlt=>by
  have hb':_<=b:=hb;simp at hb'
  omega)
 have Y:=hid (Box.new (w:=w1) (t:=41) (c:=cEx x p m c));clear hb hk HC;dsimp only [cEx] at Y ⊢;have l0:World.cell? _ ⟨_,0,none⟩=some (.int .i64 x.o):=Y.out.get rfl;have l1:World.cell? _ ⟨_,1,none⟩=some (.string x.s):=Y.out.get rfl;have l2:World.cell? _ ⟨_,2,none⟩=some (.int .i64 x.n):=Y.out.get rfl;have l3:World.cell? _ ⟨_,3,none⟩=some (.slice p m c):=Y.out.get rfl;have y0:World.cell? _ ⟨_,0,none⟩=some (.int .i64 0):=Z.out.get rfl;have y1:World.cell? _ ⟨_,1,none⟩=some (.string ⟨#[]⟩):=Z.out.get rfl;have y2:World.cell? _ ⟨_,2,none⟩=some (.int .i64 0):=Z.out.get rfl;have y3:World.cell? _ ⟨_,3,none⟩=some (.slice none 0 0):=Z.out.get rfl;have fz:∀i,World.frozen? _ ⟨_,i,none⟩=false:=fun i=>box_frz (i:=i) Z.out;go_wp2_with fail;have q:∀W,Eqv (fun b=>w.heap.size<b) w1 W->Kin (fun b=>w.heap.size<=b) W x p m:=fun W q=>Ex.Kin.map q.size (fun b hb hlt=>⟨by show w.heap.size<=b;have hb':w.heap.size<b:=hb;omega,q.block b hlt hb⟩) _ KX.out;refine bodyPost_ret (v:=.tuple #[.agg (cEx x p m c),.int .i64 b]) ?_ rfl ⟨eqv_below qh,p,m,c,rfl,q _ qe⟩;have Z4:Box _ w.heap.size 41 #[.int .i64 x.o,.string x.s,.int .i64 x.n,.slice p m c]:=box_set4 Z.out rfl;exact res_row_tmp rfl _ _ w.heap.size 41 _ (0,0) _ rfl (box_at (w2:=World.alloc _ (.cells #[.int .i64 x.o,.string x.s,.int .i64 x.n,.slice p m c] 41)) Z4 qe) Tryz.underlying41 rfl (by kernel_rfl) rfl
end Go.Proofs.YtbgodajefaahdaaGreatDoor.Ps
namespace Go.Proofs.YtbgodajefaahdaaGreatDoor.Ps
open Go.Proofs.YtbgodajefaahdaaGreatDoor.Lx (bs mt)
open Go.Proofs.YtbgodajefaahdaaGreatDoor.Ex (Ex)
open Go.Proofs.YtbgodajefaahdaaGreatDoor.Sm (St zD)
open Go.Proofs.YtbgodajefaahdaaGreatDoor.Md (Mdl)
def exA:Ex:=.mk 16 mt 0 [.mk 5 mt 0 [ndI 1 3],.mk 10 mt 0 [.mk 10 mt 0 [ndI 1 1,ndI 1 2],ndN 3 ⟨#[120]⟩]]
def exB:Ex:=.mk 7 mt 0 [.mk 5 mt 0 [ndI 1 3]]
def exC:Ex:=ndI 1 (-3)
def exM:Mdl:=⟨⟨#[109]⟩,[],[sit0 ⟨#[97]⟩],[]⟩
def exS:List St:=[.mk 6 ⟨#[114]⟩ mt (ndI 1 2) (ndI 1 1) [] zD true [] []]
theorem rd_a:rdX (bs ⟨#[49,32,45,32,50,32,45,32,120,32,62,32,45,51]⟩)=(exA,0,0):=by kernel_rfl
theorem rd_b:rdX (bs ⟨#[100,117,114,40,45,51,41]⟩)=(exB,0,0):=by kernel_rfl
theorem rd_c:rdX (bs ⟨#[40,45,51,41]⟩)=(exC,0,0):=by kernel_rfl
theorem rd_d:rdX (bs ⟨#[97,32,60,32,98,32,60,32,99]⟩)=(nX,1,9):=by kernel_rfl
theorem rd_e:rdM (bs ⟨#[109,111,100,101,108,32,109,10,115,105,116,101,32,97,10,101,110,100,10,101,110,100,10]⟩)=(exM,0,0):=by kernel_rfl
theorem rd_f:rdM (bs ⟨#[109,111,100,101,108,32,109,10,115,105,116,101,32,105,102,10,101,110,100,10,101,110,100,10]⟩)=(nM,2,9):=by kernel_rfl
theorem rd_g:rdS (bs ⟨#[104,111,108,100,32,100,117,114,40,50,41,10,104,111,108,100,32,104,111,108,100,10]⟩)=([],2,9):=by kernel_rfl
theorem rd_h:rdS (bs ⟨#[115,101,105,122,101,32,114,32,50,32,112,114,105,111,32,49,32,112,114,101,101,109,112,116]⟩)=(exS,0,0):=by kernel_rfl
end Go.Proofs.YtbgodajefaahdaaGreatDoor.Ps
namespace Go.Proofs.YtbgodajefaahdaaGreatDoor.Ps
open Go.RowKit
open Go.Proofs.YtbgodajefaahdaaGreatDoor.Lx (bs mt)
open Go.Proofs.YtbgodajefaahdaaGreatDoor.Ex (Ex Gives In bl_alloc bl_call Kin)
open Go.Proofs.YtbgodajefaahdaaGreatDoor.Sm (St Lin LIn cs sin_iff zD)
open Go.Proofs.YtbgodajefaahdaaGreatDoor.Md (Rw Box)
set_option maxHeartbeats 4000000
theorem expr_at {s:ByteArray} {q:Ex×Int×Int} (h:rdX (bs s)=q) (w:World) (hE:Nu.Env w) (hs:s.size<=1000000):Calls Tryz.prog 11 #[.string s] w (EO q w):=by rw[← h];exact expr_any s w (by omega) hE
theorem stmts_at {s:ByteArray} {q:List St×Int×Int} (h:rdS (bs s)=q) (w:World) (hE:Nu.Env w) (hs:s.size<=1000000):Calls Tryz.prog 7 #[.string s] w (SO q w):=by rw[← h];exact stmts_any s w (by omega) hE
theorem model_at {s:ByteArray} {q:Md.Mdl×Int×Int} (h:rdM (bs s)=q) (w:World) (hE:Nu.Env w) (hs:s.size<=1000000):Calls Tryz.prog 6 #[.string s] w (MO q w):=by rw[← h];exact parseModel_any s w (by omega) hE
abbrev TX:TypeId:=41
abbrev aw1 (w:World):World:=w.alloc (.cells #[.int .i64 1,.string ⟨#[]⟩,.int .i64 3,.slice none 0 0] 41)
abbrev aw2 (w:World):World:=(aw1 w).alloc (.cells #[.int .i64 3,.string ⟨#[120]⟩,.int .i64 0,.slice none 0 0] 41)
abbrev aw3 (w:World):World:=(aw2 w).alloc (.cells #[.int .i64 1,.string ⟨#[]⟩,.int .i64 1,.slice none 0 0,.int .i64 1,.string ⟨#[]⟩,.int .i64 2,.slice none 0 0] 41)
abbrev aw4 (w:World):World:=(aw3 w).alloc (.cells #[.int .i64 10,.string ⟨#[]⟩,.int .i64 0,.slice (some ⟨w.heap.size+1+1,0,none⟩) 2 2,.int .i64 3,.string ⟨#[120]⟩,.int .i64 0,.slice none 0 0] 41)
abbrev aw5 (w:World):World:=(aw4 w).alloc (.cells #[.int .i64 10,.string ⟨#[]⟩,.int .i64 0,.slice (some ⟨w.heap.size+1+1+1,0,none⟩) 2 2] 41)
def exL:Ex:=.mk 10 mt 0 [.mk 10 mt 0 [ndI 1 1,ndI 1 2],ndN 3 ⟨#[120]⟩]
theorem on_new {w W:World} {t:TypeId} {c:Array Value} (h:Below (w.alloc (.cells c t)).heap.size (w.alloc (.cells c t)) W):Below w.heap.size w W:=bl_call (bl_alloc (Below.refl _ _)) h
theorem awk0 {w W:World} (hb:Below (aw5 w).heap.size (aw5 w) W):Box W w.heap.size TX #[.int .i64 1,.string ⟨#[]⟩,.int .i64 3,.slice none 0 0]/\Box W (w.heap.size+1+1+1+1) TX #[.int .i64 10,.string ⟨#[]⟩,.int .i64 0,.slice (some ⟨w.heap.size+1+1+1,0,none⟩) 2 2]/\In W exL (some ⟨w.heap.size+1+1+1,0,none⟩) 2:=by
 have b4:=on_new hb;have b3:=on_new b4;have b2:=on_new b3;have b1:=on_new b2;have z2:(aw2 w).heap.size=w.heap.size+1+1:=by simp
 have z3:(aw3 w).heap.size=w.heap.size+1+1+1:=by simp
 have z4:(aw4 w).heap.size=w.heap.size+1+1+1+1:=by simp
 have k3:Kin (fun _=>True) (aw3 w) (.mk 10 mt 0 [ndI 1 1,ndI 1 2]) (some ⟨(aw2 w).heap.size,0,none⟩) 2:=kin2 (w:=aw2 w) (x:=ndI 1 1) (y:=ndI 1 2) (p:=none) (q:=none) (m:=0) (n:=0) (c:=0) (d:=0) 10 Ex.Kin.zero Ex.Kin.zero trivial;rw[z2] at k3;have k4:Kin (fun _=>True) (aw4 w) exL (some ⟨(aw3 w).heap.size,0,none⟩) 2:=kin2 (w:=aw3 w) (x:=.mk 10 mt 0 [ndI 1 1,ndI 1 2]) (y:=ndN 3 ⟨#[120]⟩) (q:=none) (n:=0) (c:=2) (d:=0) 10 k3 Ex.Kin.zero trivial;rw[z3] at k4;refine⟨Box.new.on b1,?_,?_⟩
 · rw[← z4];exact Box.new.on hb
 · exact(kin_gs k4 (Eqv.of b4)).all
abbrev av1 (u:World):World:=u.alloc (.cells #[.int .i64 1,.string ⟨#[]⟩,.int .i64 3,.slice none 0 0] 41)
abbrev av2 (u:World) (n:Nat):World:=(av1 u).alloc (.cells #[.int .i64 5,.string ⟨#[]⟩,.int .i64 0,.slice (some ⟨n,0,none⟩) 1 1] 41)
def exN:Ex:=.mk 5 mt 0 [ndI 1 3]
theorem awkM {u W:World} {n:Nat} (hn:u.heap.size=n) (hb:Below (av2 u n).heap.size (av2 u n) W):Box W (n+1) TX #[.int .i64 5,.string ⟨#[]⟩,.int .i64 0,.slice (some ⟨n,0,none⟩) 1 1]/\In W exN (some ⟨n,0,none⟩) 1:=by
 have b1:=on_new hb;have z1:(av1 u).heap.size=n+1:=by simp[hn]
 have k1:Kin (fun _=>True) (av1 u) exN (some ⟨u.heap.size,0,none⟩) 1:=kin1 (w:=u) (x:=ndI 1 3) (p:=none) (m:=0) (c:=0) 5 Ex.Kin.zero trivial;rw[hn] at k1;refine⟨?_,(kin_gs k1 (Eqv.of b1)).all⟩;rw[← z1];exact Box.new.on hb
theorem rs_at {e y:Ex} {b:Bool} (h:Ex.same e y=b) {p:Option Addr} {m c:Nat} {p2:Option Addr} {m2 c2:Nat} {w:World} (hx:In w e p m) (hy:In w y p2 m2):Calls Tryz.prog 12 #[.agg #[.int .i64 e.o,.string e.s,.int .i64 e.n,.slice p m c],.agg #[.int .i64 y.o,.string y.s,.int .i64 y.n,.slice p2 m2 c2]] w (Gives (.bool b) w):=by
 rw[← h];exact Ex.rsame_any e y p m c p2 m2 c2 w hx hy
theorem rs_lit {e y:Ex} {b:Bool} (h:Ex.same e y=b) {o n:Int} {s:ByteArray} (h1:y.o=o) (h2:y.s=s) (h3:y.n=n) {p:Option Addr} {m c:Nat} {p2:Option Addr} {m2 c2:Nat} {w:World} (hx:In w e p m) (hy:In w y p2 m2):Calls Tryz.prog 12 #[.agg #[.int .i64 e.o,.string e.s,.int .i64 e.n,.slice p m c],.agg #[.int .i64 o,.string s,.int .i64 n,.slice p2 m2 c2]] w (Gives (.bool b) w):=by
 subst h1 h2 h3;exact rs_at h hx hy
theorem rsS_at {a b:List St} {v:Bool} (h:Sm.sameSL a b=v) {p:Option Addr} {m c:Nat} {p2:Option Addr} {m2 c2:Nat} {w:World} (ha:LIn w a p m) (hb:LIn w b p2 m2):Calls Tryz.prog 9 #[.slice p m c,.slice p2 m2 c2] w (Gives (.bool v) w):=by
 rw[← h];exact Sm.rsameS_any a b p m c p2 m2 c2 w ha hb
def exT:St:=.mk 6 ⟨#[114]⟩ mt (ndI 1 2) (ndI 1 1) [] zD true [] []
theorem lin_ex (w:World):LIn (w.alloc (.cells (cs exT P0) 60)) exS (some ⟨w.heap.size,0,none⟩) 1:=by
 have o1:OwnF 60 21 RSt (fun _=>True) (w.alloc (.cells (cs exT P0) 60)) (.slice (some ⟨w.heap.size,0,none⟩) 1 1) [exT]:=OwnF.one ⟨P0,rfl,sin_iff.2 ⟨⟨Ex.Kin.zero,Ex.Kin.zero,Ex.Kin.zero,ints_nil,ints_nil⟩,Sm.Lin.nil,Sm.Lin.nil⟩⟩ RSt.map sSt trivial;obtain⟨p,c,e,hrw⟩:=o1.rw RSt.map sSt (by decide);have e1:some (⟨w.heap.size,0,none⟩:Addr)=p:=by injection e
 rw[← e1] at hrw;exact(lin_rw hrw).all
theorem zGD_0 {p:Prop} (h:p:=by have q1:=HB8.out;exact bl):p:=h
set_option maxRecDepth 100000 in
theorem awake_any (w:World) (hE:Nu.Env w):Calls Tryz.prog 5 #[] w (Gives (.bool true) w):=by
 have HE:=hid hE;clear hE;go_enter Tryz.func5,Tryz.ntmps5;go_wp2_with fail;have F0:=hid (fun W (hb:Below (aw5 w).heap.size (aw5 w) W)=>awk0 hb);refine(expr_at rd_a _ (HE.out.below bl) (by decide)).mono ?_;rintro e w1 ⟨hb1,p1,m1,c1,rfl,k1⟩;have K1:Hid (∀W,Below w1.heap.size w1 W->In W exA p1 m1):=hid fun W hW=>(k1.all).on hW;have A1:=Md.far (w:=w1) TX (cEx exA p1 m1 c1);dsimp only [cEx] at A1 ⊢;clear k1;go_wp2_with fail;refine(expr_at rd_b _ (HE.out.below bl) (by decide)).mono ?_;rintro e w2 ⟨hb2,p2,m2,c2,rfl,k2⟩;have K2:Hid (∀W,Below w2.heap.size w2 W->In W exB p2 m2):=hid fun W hW=>(k2.all).on hW;have A2:=Md.far (w:=w2) TX (cEx exB p2 m2 c2);dsimp only [cEx] at A2 ⊢;clear k2;go_wp2_with fail;refine(expr_at rd_c _ (HE.out.below bl) (by decide)).mono ?_;rintro e w3 ⟨hb3,p3,m3,c3,rfl,k3⟩;have K3:Hid (∀W,Below w3.heap.size w3 W->In W exC p3 m3):=hid fun W hW=>(k3.all).on hW;have A3:=Md.far (w:=w3) TX (cEx exC p3 m3 c3);dsimp only [cEx] at A3 ⊢;clear k3;go_wp2_with fail;refine(expr_at rd_d _ (HE.out.below bl) (by decide)).mono ?_;rintro e w4 ⟨hb4,p4,m4,c4,rfl,k4⟩;dsimp only [cEx];clear k4;obtain⟨u,hu⟩:∃u,w4.alloc (.cells #[.int .i64 nX.o,.string nX.s,.int .i64 nX.n,.slice p4 m4 c4] 41)=u:=⟨_,rfl⟩
 have hbu:Below w4.heap.size w4 u:=by rw[← hu];exact bl
 have zu:u.heap.size=w4.heap.size+1:=by rw[← hu];simp
 have B0:=(F0.out u bl).1;have t0:World.cell? u ⟨w.heap.size,0,none⟩=some (.int .i64 1):=B0.get rfl;have t1:World.cell? u ⟨w.heap.size,1,none⟩=some (.string ⟨#[]⟩):=B0.get rfl;have t2:World.cell? u ⟨w.heap.size,2,none⟩=some (.int .i64 3):=B0.get rfl;have t3:World.cell? u ⟨w.heap.size,3,none⟩=some (.slice none 0 0):=B0.get rfl;clear B0;obtain⟨U,hU⟩:∃U,(u.alloc (.cells #[.int .i64 1,.string ⟨#[]⟩,.int .i64 3,.slice none 0 0] 41)).alloc (.cells #[.int .i64 5,.string ⟨#[]⟩,.int .i64 0,.slice (some ⟨w4.heap.size+1,0,none⟩) 1 1] 41)=U:=⟨_,rfl⟩
 have zU:U.heap.size=w4.heap.size+1+1+1:=by rw[← hU];simp[zu]
 have hbU:Below u.heap.size u U:=by rw[← hU];exact bl
 have M0:=hid (fun W (hb:Below U.heap.size U W)=>awkM (W:=W) zu (by show Below (av2 u (w4.heap.size+1)).heap.size (av2 u (w4.heap.size+1)) W;rw[show av2 u (w4.heap.size+1)=U from hU];exact hb));have M1:=hid (fun W (hb:Below U.heap.size U W)=>F0.out W bl);have M2:=hid (fun W (hb:Below U.heap.size U W)=>K1.out W bl);have M3:=hid (fun W (hb:Below U.heap.size U W)=>K2.out W bl);have M4:=hid (fun W (hb:Below U.heap.size U W)=>K3.out W bl);have N1:=hid (fun W (hb:Below U.heap.size U W)=>A1.out W bl);have N2:=hid (fun W (hb:Below U.heap.size U W)=>A2.out W bl);have N3:=hid (fun W (hb:Below U.heap.size U W)=>A3.out W bl);have HB:Hid (Below w.heap.size w U):=hid bl;have d0:=(M0.out U (Below.refl _ _)).1;have d1:=(M1.out U (Below.refl _ _)).2.1;have d2:=N1.out U (Below.refl _ _);have r0:World.cell? U ⟨w4.heap.size+1+1,0,none⟩=some (.int .i64 5):=d0.get rfl;have r1:World.cell? U ⟨w4.heap.size+1+1,1,none⟩=some (.string ⟨#[]⟩):=d0.get rfl;have r2:World.cell? U ⟨w4.heap.size+1+1,2,none⟩=some (.int .i64 0):=d0.get rfl;have r3:World.cell? U ⟨w4.heap.size+1+1,3,none⟩=some (.slice (some ⟨w4.heap.size+1,0,none⟩) 1 1):=d0.get rfl;have s0:World.cell? U ⟨w.heap.size+1+1+1+1,0,none⟩=some (.int .i64 10):=d1.get rfl;have s1:World.cell? U ⟨w.heap.size+1+1+1+1,1,none⟩=some (.string ⟨#[]⟩):=d1.get rfl;have s2:World.cell? U ⟨w.heap.size+1+1+1+1,2,none⟩=some (.int .i64 0):=d1.get rfl;have s3:World.cell? U ⟨w.heap.size+1+1+1+1,3,none⟩=some (.slice (some ⟨w.heap.size+1+1+1,0,none⟩) 2 2):=d1.get rfl;have a0:World.cell? U ⟨w1.heap.size,0,none⟩=some (.int .i64 exA.o):=d2.get rfl;have a1:World.cell? U ⟨w1.heap.size,1,none⟩=some (.string exA.s):=d2.get rfl;have a2:World.cell? U ⟨w1.heap.size,2,none⟩=some (.int .i64 exA.n):=d2.get rfl;have a3:World.cell? U ⟨w1.heap.size,3,none⟩=some (.slice p1 m1 c1):=d2.get rfl;clear d0 d1 d2 F0 K1 K2 K3 A1 A2 A3 hb1 hb2 hb3 hb4 hbu hbU;go_wp2_with fail;clear r0 r1 r2 r3 s0 s1 s2 s3 a0 a1 a2 a3 t0 t1 t2 t3 hu;have J1:Kin (fun _=>True) (U.alloc (.cells #[.int .i64 5,.string ⟨#[]⟩,.int .i64 0,.slice (some ⟨w4.heap.size+1,0,none⟩) 1 1,.int .i64 10,.string ⟨#[]⟩,.int .i64 0,.slice (some ⟨w.heap.size+1+1+1,0,none⟩) 2 2] 41)) exA (some ⟨U.heap.size,0,none⟩) 2:=kin2 (w:=U) (x:=exN) (y:=exL) (c:=1) (d:=2) 16 ((M0.out U (Below.refl _ _)).2.mono fun _ _ _=>trivial) ((M1.out U (Below.refl _ _)).2.2.mono fun _ _ _=>trivial) trivial;rw[zU] at J1;refine(rs_lit (e:=exA) (y:=exA) (b:=true) (o:=16) (n:=0) (s:=⟨#[]⟩) (by kernel_rfl) rfl rfl rfl (M2.out _ bl) (J1.all)).mono ?_;rintro e w5 ⟨rfl,hb5⟩;have Q5:Hid (Below U.heap.size U w5):=hid bl;clear hb5 J1;have d0:=(M0.out w5 Q5.out).1;have d2:=N2.out w5 Q5.out;have r0:World.cell? w5 ⟨w4.heap.size+1+1,0,none⟩=some (.int .i64 5):=d0.get rfl;have r1:World.cell? w5 ⟨w4.heap.size+1+1,1,none⟩=some (.string ⟨#[]⟩):=d0.get rfl;have r2:World.cell? w5 ⟨w4.heap.size+1+1,2,none⟩=some (.int .i64 0):=d0.get rfl;have r3:World.cell? w5 ⟨w4.heap.size+1+1,3,none⟩=some (.slice (some ⟨w4.heap.size+1,0,none⟩) 1 1):=d0.get rfl;have a0:World.cell? w5 ⟨w2.heap.size,0,none⟩=some (.int .i64 exB.o):=d2.get rfl;have a1:World.cell? w5 ⟨w2.heap.size,1,none⟩=some (.string exB.s):=d2.get rfl;have a2:World.cell? w5 ⟨w2.heap.size,2,none⟩=some (.int .i64 exB.n):=d2.get rfl;have a3:World.cell? w5 ⟨w2.heap.size,3,none⟩=some (.slice p2 m2 c2):=d2.get rfl;clear d0 d2;go_wp2_with fail;clear r0 r1 r2 r3 a0 a1 a2 a3;have J2:Kin (fun _=>True) (w5.alloc (.cells #[.int .i64 5,.string ⟨#[]⟩,.int .i64 0,.slice (some ⟨w4.heap.size+1,0,none⟩) 1 1] 41)) exB (some ⟨w5.heap.size,0,none⟩) 1:=kin1 (w:=w5) (x:=exN) (c:=1) 7 ((M0.out w5 Q5.out).2.mono fun _ _ _=>trivial) trivial;refine(rs_lit (e:=exB) (y:=exB) (b:=true) (o:=7) (n:=0) (s:=⟨#[]⟩) (by kernel_rfl) rfl rfl rfl (M3.out _ (by have q:=Q5.out;exact bl)) (J2.all)).mono ?_;rintro e w6 ⟨rfl,hb6⟩;have Q6:Hid (Below U.heap.size U w6):=hid (by have q:=Q5.out;exact bl);clear hb6 J2;have d2:=N3.out w6 Q6.out;have a0:World.cell? w6 ⟨w3.heap.size,0,none⟩=some (.int .i64 exC.o):=d2.get rfl;have a1:World.cell? w6 ⟨w3.heap.size,1,none⟩=some (.string exC.s):=d2.get rfl;have a2:World.cell? w6 ⟨w3.heap.size,2,none⟩=some (.int .i64 exC.n):=d2.get rfl;have a3:World.cell? w6 ⟨w3.heap.size,3,none⟩=some (.slice p3 m3 c3):=d2.get rfl;clear d2;go_wp2_with fail;clear a0 a1 a2 a3;refine(rs_lit (e:=exC) (y:=exC) (b:=true) (o:=1) (n:=-3) (s:=⟨#[]⟩) (by kernel_rfl) rfl rfl rfl (M4.out _ Q6.out) (Ex.Kin.all (G:=fun _=>True) Ex.Kin.zero)).mono ?_;rintro e w7 ⟨rfl,hb7⟩;have HB7:Hid (Below w.heap.size w w7):=hid (by have q1:=HB.out;have q2:=Q6.out;exact bl);clear hb7 M0 M1 M2 M3 M4 N1 N2 N3 Q5 Q6 HB;go_wp2_with fail;refine(model_at rd_e _ (HE.out.below HB7.out) (by decide)).mono ?_;rintro e w8 ⟨hb8,P,rfl,k8⟩;have SI:=k8.si;have hsm:P.sim=1:=SI.1.symm;obtain⟨q,o,hsp,-,hlt,hcc⟩:=Rw.rows SI (by rw[hsm];decide);obtain⟨cc,hc1,hc2,P',rfl,-⟩:=hcc.out 0 (by decide);have hnm:World.cell? w8 ⟨q,o,none⟩=some (.string ⟨#[97]⟩):=by
  have h:=hc2.get (r:=0) rfl;have e0:o+0*13+0=o:=by omega
  rw[e0] at h;exact h
 have N8:=hid (fun W (hb:Below w8.heap.size w8 W)=>(World.cell?_of_block (w:=w8) (w':=W) (a:=⟨q,o,none⟩) (hb.block q hlt)).trans hnm);have A8:=Md.far (w:=w8) 27 (Md.cMdl exM P);have HB8:Hid (Below w.heap.size w w8):=hid (by have q1:=HB7.out;exact bl);clear k8 SI hlt hcc hc1 hc2 hnm hb8 HB7;dsimp only [Md.cMdl] at A8 ⊢;rw[hsp,hsm] at A8;go_wp2_with fail;clear hsp hsm;refine(model_at rd_f _ (HE.out.below zGD_0) (by decide)).mono ?_;rintro e w9 ⟨hb9,P9,rfl,k9⟩;clear k9;dsimp only [Md.cMdl];go_wp2_with fail;refine(stmts_at rd_g _ (HE.out.below zGD_0) (by decide)).mono ?_;rintro e w10 ⟨hb10,p10,m10,c10,rfl,k10⟩;clear k10;go_wp2_with fail;refine(stmts_at rd_h _ (HE.out.below zGD_0) (by decide)).mono ?_;rintro e w11 ⟨hb11,p11,m11,c11,rfl,k11⟩;have d8:=A8.out w11 bl;have z0:World.cell? w11 ⟨w8.heap.size,0,none⟩=some (.string ⟨#[109]⟩):=d8.get rfl;have z2:World.cell? w11 ⟨w8.heap.size,2,none⟩=some (.slice (some ⟨q,o,none⟩) 1 P.sic):=d8.get rfl;have zn:=N8.out w11 bl;have HB11:Hid (Below w.heap.size w w11):=hid zGD_0;have KS:=hid (fun W (hb:Below w11.heap.size w11 W)=>(k11.all).on hb);clear d8 k11 N8 A8 hb9 hb10 hb11 HB8;go_wp2_with fail;have J3:=lin_ex w11;refine(rsS_at (a:=exS) (b:=exS) (v:=true) (by kernel_rfl) (KS.out _ bl) J3).mono ?_;rintro e w12 ⟨rfl,hb12⟩;have HB12:Hid (Below w.heap.size w w12):=hid (by have q1:=HB11.out;exact bl_call (bl_alloc q1) hb12);clear J3 KS hb12 z0 z2 zn;go_wp2_with fail;go_ret;exact⟨rfl,HB12.out⟩
end Go.Proofs.YtbgodajefaahdaaGreatDoor.Ps
namespace Go.Proofs.YtbgodajefaahdaaGreatDoor.Ps
open Go.Proofs.YtbgodajefaahdaaGreatDoor.Lx (bs bs_len bs_mk mkS)
open Go.Proofs.YtbgodajefaahdaaGreatDoor.Sm (St)
open Go.Proofs.YtbgodajefaahdaaGreatDoor.Md (Mdl mdlE)
theorem up_mdl {s:ByteArray} {m:Mdl} {l:Int} (h:rdM (bs s)=(m,l,9)):1<=l/\l<=30000/\∃m2,rdM (bs (mkS (upT (bs s) l)))=(m2,l,9):=by
 have he:(rdM (bs s)).2.2=9:=by rw[h]
 have hg:=rdG_upto (z:=nM) (m:=mdl) (c:=mdlE) (s:=bs s) (fun u h0 hr=>mdl_no (gd_tokens h0).1 hr) n9_mdlE he;have hl:(rdG nM mdl mdlE (bs s)).2.1=l:=by show(rdM (bs s)).2.1=l;rw[h]
 rw[hl] at hg;exact⟨hg.1.1,hg.1.2,(rdM (upT (bs s) l)).1,by rw[bs_mk];exact Prod.ext rfl hg.2⟩
theorem up_sts {s:ByteArray} {m:List St} {l:Int} (h:rdS (bs s)=(m,l,9)):1<=l/\l<=30000/\∃m2,rdS (bs (mkS (upT (bs s) l)))=(m2,l,9):=by
 have he:(rdS (bs s)).2.2=9:=by rw[h]
 have hg:=rdG_upto (z:=[]) (m:=oSt) (c:=Sm.chkL) (s:=bs s) (fun u h0 hr=>oSt_no (gd_tokens h0).1 hr) n9_chkL he;have hl:(rdG [] oSt Sm.chkL (bs s)).2.1=l:=by show(rdS (bs s)).2.1=l;rw[h]
 rw[hl] at hg;exact⟨hg.1.1,hg.1.2,(rdS (upT (bs s) l)).1,by rw[bs_mk];exact Prod.ext rfl hg.2⟩
theorem up_size (s:ByteArray) (l:Int):(mkS (upT (bs s) l)).size<=s.size:=by rw[← bs_len,← bs_len,bs_mk];exact upT_len _ _
end Go.Proofs.YtbgodajefaahdaaGreatDoor.Ps
namespace Go.Proofs.YtbgodajefaahdaaGreatDoor.Ps
open Go.Proofs.YtbgodajefaahdaaGreatDoor.Ps.P (bd)
open Go.RowKit
open Go.Proofs.YtbgodajefaahdaaGreatDoor.Lx (bs)
open Go.Proofs.YtbgodajefaahdaaGreatDoor.Ex (Gives)
set_option maxHeartbeats 4000000
theorem zGI_3 {p:Prop} (h:p:=by have q1:=HB.out;exact bl):p:=h
theorem zGI_1 {p:Prop} (h:p:=by
 go_wp2_with fail;refine(awake_any _ (HE.out.below zGI_3)).mono ?_;rintro e' wz ⟨rfl,hbz⟩;have HBZ:Hid (Below w.heap.size w wz):=hid zGI_3;clear hbz;go_wp2_with fail;go_ret;exact⟨rfl,HBZ.out⟩
 ):p:=h
theorem zGI_4 {p:Prop} (h:p:=by have:=HZ.out;omega):p:=h
theorem zGI_0 {p:Prop} (h:p:=by
 go_wp2_with fail;refine(stmts_at HX.out _ (HE.out.below zGI_3) zGI_4).mono ?_;rintro e' w4 ⟨b4,p4,m4,c4',rfl,-⟩;replace HB:Hid (Below w.heap.size w w4):=hid zGI_3;clear b4;go_wp2_with fail;refine(upto_any s k _ zGI_4 HK.out.1 (by have:=HK.out.2;omega)).mono ?_;rintro e' w5 ⟨rfl,b5⟩;replace HB:Hid (Below w.heap.size w w5):=hid zGI_3;clear b5;go_wp2_with fail;refine(stmts_at HX2.out _ (HE.out.below zGI_3) (by have:=HZ.out;have:=up_size s k;omega)).mono ?_;rintro e' w6 ⟨b6,p6,m6,c6,rfl,-⟩;replace HB:Hid (Below w.heap.size w w6):=hid zGI_3;clear b6;exact zGI_1
 ):p:=h
theorem zGI_2 {p:Prop} (h:p:=by
 go_wp2_with fail;refine(stmts_at HX.out _ (HE.out.below zGI_3) zGI_4).mono ?_;rintro e' w4 ⟨b4,p4,m4,c4',rfl,-⟩;replace HB:Hid (Below w.heap.size w w4):=hid zGI_3;clear b4;exact zGI_1
 ):p:=h
set_option maxRecDepth 100000 in
theorem parseWrong_walk (s:ByteArray) (w:World) (hs:s.size<=140737488355328) (hE:Nu.Env w):Calls Tryz.prog 4 #[.string s] w (Gives (.bool true) w):=by
 have HE:=hid hE;have HB:Hid (Below w.heap.size w w):=hid (Below.refl _ _);have hs':(s.size:Int)<=9223372036854775807:=by omega
 clear hE;by_cases h1:4000<s.size
 · have q:decide ((4000:Int)<(s.size:Int))=true:=decide_eq_true (by omega);go_enter Tryz.func4,Tryz.ntmps4;exact zGI_1
 · have q:decide ((4000:Int)<(s.size:Int))=false:=decide_eq_false (by omega);have HZ:Hid (s.size<=4000):=hid (by omega);obtain⟨⟨m,l,e⟩,hq⟩:∃q,rdM (bs s)=q:=⟨_,rfl⟩
   obtain⟨⟨x,k,d⟩,hx⟩:∃q,rdS (bs s)=q:=⟨_,rfl⟩
   have HQ:=hid hq;have HX:=hid hx;clear hq hx h1;by_cases he:e=9
   · subst he;obtain⟨l1,l2,m2,hm2⟩:=up_mdl HQ.out;have HM:=hid hm2;have HL:=hid (And.intro l1 l2);have c1:decide (l<1)=false:=decide_eq_false (by omega);have c2:(l != l)=false:=by simp
     clear hm2 l1 l2;by_cases hd:d=9
     · subst hd;obtain⟨k1,k2,x2,hx2⟩:=up_sts HX.out;have HX2:=hid hx2;have HK:=hid (And.intro k1 k2);have c3:decide (k<1)=false:=decide_eq_false (by omega);have c4:(k != k)=false:=by simp
       clear hx2 k1 k2;go_enter Tryz.func4,Tryz.ntmps4;go_wp2_with fail;refine(model_at HQ.out _ HE.out zGI_4).mono ?_;rintro e' w1 ⟨b1,P1,rfl,-⟩;replace HB:Hid (Below w.heap.size w w1):=hid bl;dsimp only [Md.cMdl];clear b1;go_wp2_with fail;refine(upto_any s l _ zGI_4 HL.out.1 (by have:=HL.out.2;omega)).mono ?_;rintro e' w2 ⟨rfl,b2⟩;replace HB:Hid (Below w.heap.size w w2):=hid zGI_3;clear b2;go_wp2_with fail;refine(model_at HM.out _ (HE.out.below zGI_3) (by have:=HZ.out;have:=up_size s l;omega)).mono ?_;rintro e' w3 ⟨b3,P3,rfl,-⟩;replace HB:Hid (Below w.heap.size w w3):=hid zGI_3;dsimp only [Md.cMdl];clear b3;exact zGI_0
     · have bd:(d==9)=false:=beq_eq_false_iff_ne.2 hd;go_enter Tryz.func4,Tryz.ntmps4;go_wp2_with fail;refine(model_at HQ.out _ HE.out zGI_4).mono ?_;rintro e' w1 ⟨b1,P1,rfl,-⟩;replace HB:Hid (Below w.heap.size w w1):=hid bl;dsimp only [Md.cMdl];clear b1;go_wp2_with fail;refine(upto_any s l _ zGI_4 HL.out.1 (by have:=HL.out.2;omega)).mono ?_;rintro e' w2 ⟨rfl,b2⟩;replace HB:Hid (Below w.heap.size w w2):=hid zGI_3;clear b2;go_wp2_with fail;refine(model_at HM.out _ (HE.out.below zGI_3) (by have:=HZ.out;have:=up_size s l;omega)).mono ?_;rintro e' w3 ⟨b3,P3,rfl,-⟩;replace HB:Hid (Below w.heap.size w w3):=hid zGI_3;dsimp only [Md.cMdl];clear b3;exact zGI_2
   · have be:(e==9)=false:=beq_eq_false_iff_ne.2 he;by_cases hd:d=9
     · subst hd;obtain⟨k1,k2,x2,hx2⟩:=up_sts HX.out;have HX2:=hid hx2;have HK:=hid (And.intro k1 k2);have c3:decide (k<1)=false:=decide_eq_false (by omega);have c4:(k != k)=false:=by simp
       clear hx2 k1 k2;go_enter Tryz.func4,Tryz.ntmps4;go_wp2_with fail;refine(model_at HQ.out _ HE.out zGI_4).mono ?_;rintro e' w1 ⟨b1,P1,rfl,-⟩;replace HB:Hid (Below w.heap.size w w1):=hid bl;dsimp only [Md.cMdl];clear b1;exact zGI_0
     · have bd:(d==9)=false:=beq_eq_false_iff_ne.2 hd;go_enter Tryz.func4,Tryz.ntmps4;go_wp2_with fail;refine(model_at HQ.out _ HE.out zGI_4).mono ?_;rintro e' w1 ⟨b1,P1,rfl,-⟩;replace HB:Hid (Below w.heap.size w w1):=hid bl;dsimp only [Md.cMdl];clear b1;exact zGI_2
end Go.Proofs.YtbgodajefaahdaaGreatDoor.Ps
