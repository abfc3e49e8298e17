/-
  Parts of this proof: The records of a model in memory. The contracts of slices.IndexFunc at its types. The contracts of the small functions. The contract of Keyword.
-/
import Derived.Test.YtkpekhpgdajabaaGreatDoorYTWrG
open Go.Proofs.Tryz
open Go.Proofs.Tryz renaming prog->ae
open Go renaming World->U,Value->V,Addr->aj,Calls->au,TypeId->av
open Option renaming some->X
open Go.Value renaming oneCell'->af
open Nat renaming lt_of_lt_of_le->ag,le_refl->ak,lt_or_ge->ax,zero_le->az
open List renaming getElem?_eq_getElem->ah
open Go.RowKit renaming Below->ai
open Go.Lib renaming hid->ay
open Go.RowKit.Below renaming refl->aA
set_option linter.unusedVariables false
set_option maxRecDepth 100000
set_option maxHeartbeats 4000000
open Go.Lib (hid)
namespace Go.Proofs.YtkpekhpgdajabaaGreatDoor
namespace Md
open Go.RowKit
open Na (Strs)
open Ex (Lo)
open Sm (qH Ints dA)
def At (w:U) (b o:Nat) (c:Array V):Prop:=∀r v,c[r]?=X v->w.cell? ⟨b,o+r,none⟩=X v
theorem At.keep {w w2:U} {b o:Nat} {c:Array V} (hb:w2.heap[b]?=w.heap[b]?) (h:At w b o c):At w2 b o c:=fun r v hv=>(World.cell?_of_block (w:=w) (a:=⟨b,o+r,none⟩) hb).trans (h r v hv)
theorem At.on {w w2:U} {b o:Nat} {c:Array V} (hb:ai w.heap.size w w2) (hg:b<w.heap.size) (h:At w b o c):At w2 b o c:=h.keep (hb.block b hg)
theorem At.get {w:U} {b o:Nat} {c:Array V} (h:At w b o c) {r:Nat} {v:V} (hv:c[r]?=X v):w.cell? ⟨b,o+r,none⟩=X v:=h r v hv
theorem At.range {w:U} {b o:Nat} {c:Array V} (h:At w b o c):w.rangeAt b o c.toList:=fun j v hv=>h j v NW
theorem At.load {w:U} {b o:Nat} {c:Array V} (h:At w b o c):(loadCellsFrom ⟨b,o,none⟩ 0 c.size #[]).run ae w=.ok c w:=by
 have:=run_loadCells_list (P:=ae) w ⟨b,o,none⟩ c.toList (fun j v hv=>by rw[Addr.add_mid];exact h j v NW);rw[Array.length_toList,Array.toArray_toList] at this;exact this
theorem At.fZ {w:U} {b o n:Nat} {c:Array V} (h:At w b o c) (hn:c.size=n):(loadCellsFrom ⟨b,o,none⟩ 0 n #[]).run ae w=.ok c w:=by subst hn;exact h.load
def Big (t:av) (k:Nat):Prop:=(∃d,Tryz.prog.underlying t=X d/\d.isRow=true)/\(Tryz.prog.info? t).map (·.size)=X k
theorem At.sV {w:U} {b o:Nat} {c:Array V} {t:av} (h:At w b o c) (ht:Big t c.size):(loadVar t ⟨b,o,none⟩).run ae w=.ok (.agg c) w:=by
 obtain⟨⟨d,h1,h2⟩,h3⟩:=ht;have:=run_loadVar_mid (P:=ae) w b o t c.toList d h.range h1 h2 (by rw[h3];simp);rwa [Array.toArray_toList] at this
theorem At.vE {w:U} {b o:Nat} {c:Array V} {t:av} (h:At w b o c) (ht:Big t c.size):(Instr.loadAt t (.pointer (X ⟨b,o,none⟩))).run ae w=.ok (.agg c) w:=by
 simp only[Instr.loadAt,Instr.sureAddr,Sem.run_bind,Sem.run_pure,Result.andThen_ok,h.sV ht]
theorem At.at {w:U} {b o i k n:Nat} {c:Array V} (h:At w b (o+i*k) c) (hn:k=n):At w b (o+i*n) c:=by subst hn;exact h
theorem xw {t:av} {c:Array V} (ht:Big t c.size) (h1:c.all (·.oneCell')=true) (z:Array V) (hz:z.size=c.size) (W:U) (B:Nat) (hB:W.heap.size=B):(storeVar t ⟨B,0,none⟩ (.agg c)).run ae (W.alloc (.cells z t))=.ok () (W.alloc (.cells c t)):=by
 subst hB;exact run_storeVar_new W _ _ _ ht.2 hz h1
theorem xq {t:av} {c:Array V} (ht:Big t c.size) (h1:c.all (·.oneCell')=true) (z:Array V) (hz:z.size=c.size) (W:U) (B:Nat) (hB:W.heap.size=B):(Instr.storeAt t (.pointer (X ⟨B,0,none⟩)) (.agg c)).run ae (W.alloc (.cells z t))=.ok () (W.alloc (.cells c t)):=by
 subst hB;exact run_storeAt_new W _ _ _ ht.2 hz h1
theorem xu {t:av} {c:Array V} (ht:Big t c.size) (h1:c.all (·.oneCell')=true) (z:Array V) (hz:z.size=c.size) (W:U) (B:Nat) (hB:W.heap.size=B):(storeCells ⟨B,0,none⟩ c.toList 0).run ae (W.alloc (.cells z t))=.ok () (W.alloc (.cells c t)):=by
 subst hB;exact run_storeCells_new W _ _ _ ht.2 hz h1
def bU (w:U) (g:Nat) (t:av) (c:Array V):Prop:=w.heap[g]?=X (.cells c t (0,0))
theorem bU.lt {w:U} {g:Nat} {t:av} {c:Array V} (h:bU w g t c):g<w.heap.size:=(Array.getElem?_eq_some_iff.1 h).1
theorem bU.keep {w w2:U} {g:Nat} {t:av} {c:Array V} (hb:w2.heap[g]?=w.heap[g]?) (h:bU w g t c):bU w2 g t c:=hb.trans h
theorem bU.on {w w2:U} {g:Nat} {t:av} {c:Array V} (hb:ai w.heap.size w w2) (h:bU w g t c):bU w2 g t c:=h.keep (hb.block g h.lt)
theorem bU.new {w:U} {t:av} {c:Array V}:bU (w.alloc (.cells c t)) w.heap.size t c:=World.alloc_heap_new w _
theorem bU.cell {w:U} {g:Nat} {t:av} {c:Array V} (h:bU w g t c):At w g 0 c:=fun r v hv=>by
 rw[Nat.zero_add,cell_of_row w g r _ _ _ h];exact hv
theorem bU.get {w:U} {g:Nat} {t:av} {c:Array V} (h:bU w g t c) {r:Nat} {v:V} (hv:c[r]?=X v):w.cell? ⟨g,r,none⟩=X v:=by
 rw[cell_of_row w g r _ _ _ h];exact hv
theorem far {w:U} (t:av) (c:Array V):Hid (∀W,ai (w.alloc (.cells c t)).heap.size (w.alloc (.cells c t)) W->bU W w.heap.size t c):=ay fun W hb=>bU.new.on hb
theorem wJ {w:U} (t u:av) (c d:Array V):Hid (∀W,ai ((w.alloc (.cells c t)).alloc (.cells d u)).heap.size ((w.alloc (.cells c t)).alloc (.cells d u)) W->bU W w.heap.size t c/\bU W (w.heap.size+1) u d):=ay fun W hb=>by
 have h1:bU (w.alloc (.cells c t)) w.heap.size t c:=bU.new;have h2:=bU.new (w:=w.alloc (.cells c t)) (c:=d) (t:=u);have e:(w.alloc (.cells c t)).heap.size=w.heap.size+1:=by simp
 rw[e] at h2;exact⟨(h1.on bl).on hb,h2.on hb⟩
abbrev Rec (α:Type):=(Nat->Prop)->U->α->Array V->Prop
def fe {α:Type} (R:Rec α):Prop:=∀{G H:Nat->Prop} {w w2:U},w.heap.size<=w2.heap.size->(∀b,G b->b<w.heap.size->H b/\w2.heap[b]?=w.heap[b]?)->∀{x:α} {c:Array V},R G w x c->R H w2 x c
def Rw {α:Type} (k:Nat) (R:Rec α) (G:Nat->Prop) (w:U) (l:List α) (p:Option aj) (m:Nat):Prop:=qH G w l.length m p fun b o=>Hid (∀i,(h:i<l.length)->∃c,c.size=k/\At w b (o+i*k) c/\R G w l[i] c)
section
variable {α:Type} {k:Nat} {R:Rec α} {G H:Nat->Prop} {w w2:U} {l:List α} {p:Option aj} {m:Nat}
theorem Rw.map (hm:fe R) (hs:w.heap.size<=w2.heap.size) (hk:∀b,G b->b<w.heap.size->H b/\w2.heap[b]?=w.heap[b]?) (h:Rw k R G w l p m):Rw k R H w2 l p m:=
 Sm.qH.imp hs hk (fun b o hg hb h=>ay fun i hl=>let ⟨c,h0,h1,h2⟩:=h.out i hl;⟨c,h0,h1.keep (hk b hg hb).2,hm hs hk h2⟩) h
theorem Rw.mono (hm:fe R) (hk:∀b,G b->b<w.heap.size->H b) (h:Rw k R G w l p m):Rw k R H w l p m:=h.map hm (ak _) fun b g hb=>⟨hk b g hb,rfl⟩
theorem Rw.below {B:Nat} (hm:fe R) (hb:ai B w w2) (h:Rw k R (Lo B) w l p m):Rw k R (Lo B) w2 l p m:=h.map hm hb.size fun b g _=>⟨g,hb.block b g⟩
theorem Rw.all (hm:fe R) (h:Rw k R G w l p m):Rw k R (Lo w.heap.size) w l p m:=h.mono hm fun b _ hb=>hb
theorem Rw.on (hm:fe R) (hb:ai w.heap.size w w2) (h:Rw k R (Lo w.heap.size) w l p m):Rw k R (Lo w2.heap.size) w2 l p m:=(h.below hm hb).all hm
theorem Rw.len (h:Rw k R G w l p m):l.length=m/\m<=9223372036854775807:=⟨h.1,h.2.1⟩
theorem Rw.nil:Rw k R G w ([]:List α) p 0:=⟨rfl,by omega,.inl rfl⟩
theorem Rw.rows (h:Rw k R G w l p m) (hm:0<m):∃b o,p=X ⟨b,o,none⟩/\G b/\b<w.heap.size/\Hid (∀i,(h:i<l.length)->∃c,c.size=k/\At w b (o+i*k) c/\R G w l[i] c):=by
 rcases h.2.2 with h|h
 · omega
 · exact h
theorem Rw.take (h:Rw k R G w l p m) {j:Nat} (hj:j<=m):Rw k R G w (l.take j) p j:=by
 obtain⟨h1,h2,h3⟩:=h;refine⟨by rw[List.length_take];omega,by omega,?_⟩;by_cases h0:j=0
 · exact .inl h0
 · rcases h3 with h3|⟨b,o,rfl,hg,hb,hc⟩
   · omega
   · refine .inr ⟨b,o,rfl,hg,hb,ay fun i hi=>?_⟩;rw[List.length_take] at hi;obtain⟨c,q⟩:=hc.out i bT;exact⟨c,by rw[List.getElem_take];exact q⟩
end
theorem Ints.on {w w2:U} {l:List Int} {p:Option aj} {m:Nat} (hb:ai w.heap.size w w2) (h:Ints (Lo w.heap.size) w l p m):Ints (Lo w2.heap.size) w2 l p m:=h.map hb.size fun b g _=>⟨ag g hb.size,hb.block b g⟩
theorem fe.on {α:Type} {R:Rec α} (hm:fe R) {w w2:U} {x:α} {c:Array V} (hb:ai w.heap.size w w2) (h:R (Lo w.heap.size) w x c):R (Lo w2.heap.size) w2 x c:=hm hb.size (fun b g=>fun hb2=>⟨ag hb2 hb.size,hb.block b hb2⟩) h
theorem fe.all {α:Type} {R:Rec α} (hm:fe R) {G:Nat->Prop} {w:U} {x:α} {c:Array V} (h:R G w x c):R (Lo w.heap.size) w x c:=hm (ak _) (fun b _ hb=>⟨hb,rfl⟩) h
def dU:Rec ByteArray:=fun _ _ x c=>c=#[.string x]
theorem dU.map:fe dU:=by intro G H w w2 _ _ x c h;exact h
theorem Rw.strs {w:U} {l:List ByteArray} {p:Option aj} {m:Nat} {G:Nat->Prop} (h:Rw 1 dU G w l p m):Strs w p m l:=by
 obtain⟨h1,h2,h3⟩:=h;refine⟨h1,h2,?_⟩;rcases h3 with h3|⟨b,o,rfl,hg,hb,hc⟩
 · exact .inl h3
 · refine .inr ⟨b,o,rfl,hb,ay fun i hi=>?_⟩;obtain⟨c,-,h4,rfl⟩:=hc.out i hi;have:=h4 0 _ rfl;rwa [show o+i*1+0=o+i by omega] at this
def Cc (x:dQ):Array V:=#[.int .i64 x.t,.int .i64 x.u]
theorem afc (x:dQ):(Cc x).size=2:=rfl
theorem afb (x:dQ):(Cc x).all (·.oneCell')=true:=by unfold Cc;simp[af]
def iM:Rec dQ:=fun _ _ x c=>c=Cc x
theorem iM.map:fe iM:=by intro G H w w2 _ _ x c h;exact h
theorem iM.is {G:Nat->Prop} {w:U} {x:dQ} {c:Array V} (h:iM G w x c):c.size=2/\c.all (·.oneCell')=true:=by
 subst h;exact⟨afc x,afb x⟩
def mQ (x:Val):Array V:=#[.string x.nm,.int .i64 x.ty,.int .i64 x.n]
theorem afL (x:Val):(mQ x).size=3:=rfl
theorem afK (x:Val):(mQ x).all (·.oneCell')=true:=by unfold mQ;simp[af]
theorem Wt (x:Val):(mQ x)[0]?=X (.string x.nm):=rfl
theorem Pw (x:Val):(mQ x)[1]?=X (.int .i64 x.ty):=rfl
theorem Px (x:Val):(mQ x)[2]?=X (.int .i64 x.n):=rfl
theorem Vn:Big 105 3:=⟨⟨_,underlying105,rfl⟩,by kernel_rfl⟩
def ik:Rec Val:=fun _ _ x c=>c=mQ x
theorem ik.map:fe ik:=by intro G H w w2 _ _ x c h;exact h
theorem ik.is {G:Nat->Prop} {w:U} {x:Val} {c:Array V} (h:ik G w x c):c.size=3/\c.all (·.oneCell')=true:=by
 subst h;exact⟨afL x,afK x⟩
def lQ (x:jP):Array V:=#[.string x.nm,.int .i64 x.rm,.int .i64 x.po]
theorem afF (x:jP):(lQ x).size=3:=rfl
theorem afE (x:jP):(lQ x).all (·.oneCell')=true:=by unfold lQ;simp[af]
theorem Kh (x:jP):(lQ x)[0]?=X (.string x.nm):=rfl
theorem afC (x:jP):(lQ x)[1]?=X (.int .i64 x.rm):=rfl
theorem afD (x:jP):(lQ x)[2]?=X (.int .i64 x.po):=rfl
theorem Vm:Big 205 3:=⟨⟨_,underlying205,rfl⟩,by kernel_rfl⟩
def jY:Rec jP:=fun _ _ x c=>c=lQ x
theorem jY.map:fe jY:=by intro G H w w2 _ _ x c h;exact h
theorem jY.is {G:Nat->Prop} {w:U} {x:jP} {c:Array V} (h:jY G w x c):c.size=3/\c.all (·.oneCell')=true:=by
 subst h;exact⟨afF x,afE x⟩
def lN (x:jO):Array V:=#[.string x.nm,.int .i64 x.ln,.int .i64 x.sp]
theorem afa (x:jO):(lN x).size=3:=rfl
theorem ae_ (x:jO):(lN x).all (·.oneCell')=true:=by unfold lN;simp[af]
theorem J_ (x:jO):(lN x)[0]?=X (.string x.nm):=rfl
theorem ae8 (x:jO):(lN x)[1]?=X (.int .i64 x.ln):=rfl
theorem ae9 (x:jO):(lN x)[2]?=X (.int .i64 x.sp):=rfl
theorem Vl:Big 209 3:=⟨⟨_,underlying209,rfl⟩,by kernel_rfl⟩
def jX:Rec jO:=fun _ _ x c=>c=lN x
theorem jX.map:fe jX:=by intro G H w w2 _ _ x c h;exact h
theorem jX.is {G:Nat->Prop} {w:U} {x:jO} {c:Array V} (h:jX G w x c):c.size=3/\c.all (·.oneCell')=true:=by
 subst h;exact⟨afa x,ae_ x⟩
def gW (x:eO):Array V:=#[.string x.nm,.int .i64 x.ty]
theorem aff (x:eO):(gW x).size=2:=rfl
theorem afe (x:eO):(gW x).all (·.oneCell')=true:=by unfold gW;simp[af]
theorem afd (x:eO):(gW x)[0]?=X (.string x.nm):=rfl
theorem VD (x:eO):(gW x)[1]?=X (.int .i64 x.ty):=rfl
theorem aeJ:Big 247 2:=⟨⟨_,underlying247,rfl⟩,by kernel_rfl⟩
def dE:Rec eO:=fun _ _ x c=>c=gW x
theorem dE.map:fe dE:=by intro G H w w2 _ _ x c h;exact h
theorem dE.is {G:Nat->Prop} {w:U} {x:eO} {c:Array V} (h:dE G w x c):c.size=2/\c.all (·.oneCell')=true:=by
 subst h;exact⟨aff x,afe x⟩
def iK (x:jg):Array V:=#[.int .i64 x.co,.string x.wh,.string x.nm]
theorem afJ (x:jg):(iK x).size=3:=rfl
theorem afI (x:jg):(iK x).all (·.oneCell')=true:=by unfold iK;simp[af]
theorem Ws (x:jg):(iK x)[0]?=X (.int .i64 x.co):=rfl
theorem afG (x:jg):(iK x)[1]?=X (.string x.wh):=rfl
theorem afH (x:jg):(iK x)[2]?=X (.string x.nm):=rfl
theorem aeN:Big 268 3:=⟨⟨_,underlying268,rfl⟩,by kernel_rfl⟩
def jk:Rec jg:=fun _ _ x c=>c=iK x
theorem jk.map:fe jk:=by intro G H w w2 _ _ x c h;exact h
theorem jk.is {G:Nat->Prop} {w:U} {x:jg} {c:Array V} (h:jk G w x c):c.size=3/\c.all (·.oneCell')=true:=by
 subst h;exact⟨afJ x,afI x⟩
def qi (x:iH):Array V:=#[.string x.fr,.string x.tt,.int .i64 x.de]
theorem afh (x:iH):(qi x).size=3:=rfl
theorem afg (x:iH):(qi x).all (·.oneCell')=true:=by unfold qi;simp[af]
theorem VE (x:iH):(qi x)[0]?=X (.string x.fr):=rfl
theorem VF (x:iH):(qi x)[1]?=X (.string x.tt):=rfl
theorem VG (x:iH):(qi x)[2]?=X (.int .i64 x.de):=rfl
theorem aeL:Big 145 3:=⟨⟨_,underlying145,rfl⟩,by kernel_rfl⟩
def nC:Rec iH:=fun _ _ x c=>c=qi x
theorem nC.map:fe nC:=by intro G H w w2 _ _ x c h;exact h
theorem nC.is {G:Nat->Prop} {w:U} {x:iH} {c:Array V} (h:nC G w x c):c.size=3/\c.all (·.oneCell')=true:=by
 subst h;exact⟨afh x,afg x⟩
structure ed where
 Dz:Option aj
 Dy:Nat
 Fu:Nat
 tY:Option aj
 tX:Nat
 xR:Nat
 t_:Option aj
 tZ:Nat
 xS:Nat
 sM:Option aj
 sK:Nat
 wH:Nat
 sP:Option aj
 sN:Nat
 wI:Nat
def dV (x:dm) (P:ed):Array V:=#[.string x.nm,.int .i64 x.un,.slice P.Dz P.Dy P.Fu,.int .i64 x.cy,.string x.fs,.int .i64 x.up.op,.int .i64 x.up.a,.int .i64 x.up.b,.int .i64 x.up.n,.slice P.tY P.tX P.xR,.slice P.t_ P.tZ P.xS,.int .i64 x.dn.op,.int .i64 x.dn.a,.int .i64 x.dn.b,.int .i64 x.dn.n,.slice P.sM P.sK P.wH,.slice P.sP P.sN P.wI]
theorem afy (x:dm) (P:ed):(dV x P).size=17:=rfl
theorem Ce (x:dm) (P:ed):(dV x P).all (·.oneCell')=true:=by unfold dV;simp[af]
theorem Po (x:dm) (P:ed):(dV x P)[0]?=X (.string x.nm):=rfl
theorem afk (x:dm) (P:ed):(dV x P)[1]?=X (.int .i64 x.un):=rfl
theorem VM (x:dm) (P:ed):(dV x P)[2]?=X (.slice P.Dz P.Dy P.Fu):=rfl
theorem VO (x:dm) (P:ed):(dV x P)[3]?=X (.int .i64 x.cy):=rfl
theorem afs (x:dm) (P:ed):(dV x P)[4]?=X (.string x.fs):=rfl
theorem aft (x:dm) (P:ed):(dV x P)[5]?=X (.int .i64 x.up.op):=rfl
theorem afu (x:dm) (P:ed):(dV x P)[6]?=X (.int .i64 x.up.a):=rfl
theorem afv (x:dm) (P:ed):(dV x P)[7]?=X (.int .i64 x.up.b):=rfl
theorem afw (x:dm) (P:ed):(dV x P)[8]?=X (.int .i64 x.up.n):=rfl
theorem afx (x:dm) (P:ed):(dV x P)[9]?=X (.slice P.tY P.tX P.xR):=rfl
theorem afl (x:dm) (P:ed):(dV x P)[10]?=X (.slice P.t_ P.tZ P.xS):=rfl
theorem afm (x:dm) (P:ed):(dV x P)[11]?=X (.int .i64 x.dn.op):=rfl
theorem afn (x:dm) (P:ed):(dV x P)[12]?=X (.int .i64 x.dn.a):=rfl
theorem afo (x:dm) (P:ed):(dV x P)[13]?=X (.int .i64 x.dn.b):=rfl
theorem afp (x:dm) (P:ed):(dV x P)[14]?=X (.int .i64 x.dn.n):=rfl
theorem afq (x:dm) (P:ed):(dV x P)[15]?=X (.slice P.sM P.sK P.wH):=rfl
theorem afr (x:dm) (P:ed):(dV x P)[16]?=X (.slice P.sP P.sN P.wI):=rfl
theorem Az:Big 199 17:=⟨⟨_,underlying199,rfl⟩,by kernel_rfl⟩
structure ny (G:Nat->Prop) (w:U) (x:dm) (P:ed):Prop where
 sh:Rw 2 iM G w x.sh P.Dz P.Dy
 upv:Ints G w x.up.vs P.tY P.tX
 upw:Ints G w x.up.ws P.t_ P.tZ
 Xl:Ints G w x.dn.vs P.sM P.sK
 Xm:Ints G w x.dn.ws P.sP P.sN
theorem ny.map {G H:Nat->Prop} {w w2:U} (hs:w.heap.size<=w2.heap.size) (hk:∀b,G b->b<w.heap.size->H b/\w2.heap[b]?=w.heap[b]?) {x:dm} {P:ed} (h:ny G w x P):ny H w2 x P:=
 ⟨h.sh.map iM.map hs hk,h.upv.map hs hk,h.upw.map hs hk,h.Xl.map hs hk,h.Xm.map hs hk⟩
theorem ny.on {w w2:U} (hb:ai w.heap.size w w2) {x:dm} {P:ed} (h:ny (Lo w.heap.size) w x P):ny (Lo w2.heap.size) w2 x P:=h.map hb.size fun b g _=>⟨ag g hb.size,hb.block b g⟩
theorem ny.all {G:Nat->Prop} {w:U} {x:dm} {P:ed} (h:ny G w x P):ny (Lo w.heap.size) w x P:=h.map (ak _) fun b _ hb=>⟨hb,rfl⟩
def iO:Rec dm:=fun G w x c=>∃P,c=dV x P/\ny G w x P
theorem iO.map:fe iO:=by intro G H w w2 hs hk x c ⟨P,h1,h2⟩;exact⟨P,h1,h2.map hs hk⟩
theorem iO.is {G:Nat->Prop} {w:U} {x:dm} {c:Array V} (h:iO G w x c):c.size=17/\c.all (·.oneCell')=true:=by
 obtain⟨P,rfl,-⟩:=h;exact⟨afy x P,Ce x P⟩
structure p_ where
 Fj:Option aj
 nL:Nat
 Mo:Nat
 LY:Option aj
 Ir:Nat
 Rv:Nat
 Ca:Option aj
 B_:Nat
 Es:Nat
def jQ (x:fo) (P:p_):Array V:=#[.string x.nm,.slice P.Fj P.nL P.Mo,.slice P.LY P.Ir P.Rv,.slice P.Ca P.B_ P.Es]
theorem afA (x:fo) (P:p_):(jQ x P).size=4:=rfl
theorem Pp (x:fo) (P:p_):(jQ x P).all (·.oneCell')=true:=by unfold jQ;simp[af]
theorem Kc (x:fo) (P:p_):(jQ x P)[0]?=X (.string x.nm):=rfl
theorem VP (x:fo) (P:p_):(jQ x P)[1]?=X (.slice P.Fj P.nL P.Mo):=rfl
theorem afz (x:fo) (P:p_):(jQ x P)[2]?=X (.slice P.LY P.Ir P.Rv):=rfl
theorem VQ (x:fo) (P:p_):(jQ x P)[3]?=X (.slice P.Ca P.B_ P.Es):=rfl
theorem JV:Big 215 4:=⟨⟨_,underlying215,rfl⟩,by kernel_rfl⟩
structure oH (G:Nat->Prop) (w:U) (x:fo) (P:p_):Prop where
 ps:Rw 2 dE G w x.ps P.Fj P.nL
 ls:Rw 2 dE G w x.ls P.LY P.Ir
 bo:dA G w x.bo P.Ca P.B_
theorem oH.map {G H:Nat->Prop} {w w2:U} (hs:w.heap.size<=w2.heap.size) (hk:∀b,G b->b<w.heap.size->H b/\w2.heap[b]?=w.heap[b]?) {x:fo} {P:p_} (h:oH G w x P):oH H w2 x P:=
 ⟨h.ps.map dE.map hs hk,h.ls.map dE.map hs hk,h.bo.map hs hk⟩
theorem oH.on {w w2:U} (hb:ai w.heap.size w w2) {x:fo} {P:p_} (h:oH (Lo w.heap.size) w x P):oH (Lo w2.heap.size) w2 x P:=h.map hb.size fun b g _=>⟨ag g hb.size,hb.block b g⟩
theorem oH.all {G:Nat->Prop} {w:U} {x:fo} {P:p_} (h:oH G w x P):oH (Lo w.heap.size) w x P:=h.map (ak _) fun b _ hb=>⟨hb,rfl⟩
def gU:Rec fo:=fun G w x c=>∃P,c=jQ x P/\oH G w x P
theorem gU.map:fe gU:=by intro G H w w2 hs hk x c ⟨P,h1,h2⟩;exact⟨P,h1,h2.map hs hk⟩
theorem gU.is {G:Nat->Prop} {w:U} {x:fo} {c:Array V} (h:gU G w x c):c.size=4/\c.all (·.oneCell')=true:=by
 obtain⟨P,rfl,-⟩:=h;exact⟨afA x P,Pp x P⟩
structure qf where
 El:Option aj
 arm:Nat
 OL:Nat
def iZ (x:iP) (P:qf):Array V:=#[.string x.ro,.slice P.El P.arm P.OL,.int .i64 x.a,.int .i64 x.e,.int .i64 x.u]
theorem VZ (x:iP) (P:qf):(iZ x P).size=5:=rfl
theorem Ke (x:iP) (P:qf):(iZ x P).all (·.oneCell')=true:=by unfold iZ;simp[af]
theorem afB (x:iP) (P:qf):(iZ x P)[0]?=X (.string x.ro):=rfl
theorem VS (x:iP) (P:qf):(iZ x P)[1]?=X (.slice P.El P.arm P.OL):=rfl
theorem VV (x:iP) (P:qf):(iZ x P)[2]?=X (.int .i64 x.a):=rfl
theorem VW (x:iP) (P:qf):(iZ x P)[3]?=X (.int .i64 x.e):=rfl
theorem VY (x:iP) (P:qf):(iZ x P)[4]?=X (.int .i64 x.u):=rfl
theorem JW:Big 219 5:=⟨⟨_,underlying219,rfl⟩,by kernel_rfl⟩
structure nV (G:Nat->Prop) (w:U) (x:iP) (P:qf):Prop where
 ar:Ints G w x.ar P.El P.arm
theorem nV.map {G H:Nat->Prop} {w w2:U} (hs:w.heap.size<=w2.heap.size) (hk:∀b,G b->b<w.heap.size->H b/\w2.heap[b]?=w.heap[b]?) {x:iP} {P:qf} (h:nV G w x P):nV H w2 x P:=
 ⟨h.ar.map hs hk⟩
theorem nV.on {w w2:U} (hb:ai w.heap.size w w2) {x:iP} {P:qf} (h:nV (Lo w.heap.size) w x P):nV (Lo w2.heap.size) w2 x P:=h.map hb.size fun b g _=>⟨ag g hb.size,hb.block b g⟩
theorem nV.all {G:Nat->Prop} {w:U} {x:iP} {P:qf} (h:nV G w x P):nV (Lo w.heap.size) w x P:=h.map (ak _) fun b _ hb=>⟨hb,rfl⟩
def kN:Rec iP:=fun G w x c=>∃P,c=iZ x P/\nV G w x P
theorem kN.map:fe kN:=by intro G H w w2 hs hk x c ⟨P,h1,h2⟩;exact⟨P,h1,h2.map hs hk⟩
theorem kN.is {G:Nat->Prop} {w:U} {x:iP} {c:Array V} (h:kN G w x c):c.size=5/\c.all (·.oneCell')=true:=by
 obtain⟨P,rfl,-⟩:=h;exact⟨VZ x P,Ke x P⟩
structure rD where
 MZ:Option aj
 DL:Nat
 TA:Nat
def jm (x:Lw) (P:rD):Array V:=#[.string x.nm,.slice P.MZ P.DL P.TA,.int .i64 x.tt]
theorem afi (x:Lw) (P:rD):(jm x P).size=3:=rfl
theorem Kb (x:Lw) (P:rD):(jm x P).all (·.oneCell')=true:=by unfold jm;simp[af]
theorem Ka (x:Lw) (P:rD):(jm x P)[0]?=X (.string x.nm):=rfl
theorem VH (x:Lw) (P:rD):(jm x P)[1]?=X (.slice P.MZ P.DL P.TA):=rfl
theorem Ph (x:Lw) (P:rD):(jm x P)[2]?=X (.int .i64 x.tt):=rfl
theorem JU:Big 241 3:=⟨⟨_,underlying241,rfl⟩,by kernel_rfl⟩
structure oG (G:Nat->Prop) (w:U) (x:Lw) (P:rD):Prop where
 ts:Rw 3 jk G w x.ts P.MZ P.DL
theorem oG.map {G H:Nat->Prop} {w w2:U} (hs:w.heap.size<=w2.heap.size) (hk:∀b,G b->b<w.heap.size->H b/\w2.heap[b]?=w.heap[b]?) {x:Lw} {P:rD} (h:oG G w x P):oG H w2 x P:=
 ⟨h.ts.map jk.map hs hk⟩
theorem oG.on {w w2:U} (hb:ai w.heap.size w w2) {x:Lw} {P:rD} (h:oG (Lo w.heap.size) w x P):oG (Lo w2.heap.size) w2 x P:=h.map hb.size fun b g _=>⟨ag g hb.size,hb.block b g⟩
theorem oG.all {G:Nat->Prop} {w:U} {x:Lw} {P:rD} (h:oG G w x P):oG (Lo w.heap.size) w x P:=h.map (ak _) fun b _ hb=>⟨hb,rfl⟩
def kL:Rec Lw:=fun G w x c=>∃P,c=jm x P/\oG G w x P
theorem kL.map:fe kL:=by intro G H w w2 hs hk x c ⟨P,h1,h2⟩;exact⟨P,h1,h2.map hs hk⟩
theorem kL.is {G:Nat->Prop} {w:U} {x:Lw} {c:Array V} (h:kL G w x c):c.size=3/\c.all (·.oneCell')=true:=by
 obtain⟨P,rfl,-⟩:=h;exact⟨afi x P,Kb x P⟩
structure eP where
 xX:Option aj
 xW:Nat
 xV:Nat
 vJ:Option aj
 vI:Nat
 qx:Nat
 vN:Option aj
 fC:Nat
 xJ:Nat
 uu:Option aj
 uq:Nat
 wy:Nat
 xz:Option aj
 xy:Nat
 xx:Nat
 tT:Option aj
 tQ:Nat
 tO:Nat
 xL:Option aj
 xK:Nat
 tac:Nat
 wX:Option aj
 wW:Nat
 wV:Nat
 wG:Option aj
 wF:Nat
 wE:Nat
 xB:Option aj
 rV:Nat
 zV:Nat
 Bp:Option aj
 Bo:Nat
 DD:Nat
 Ii:Option aj
 lam:Nat
 LP:Nat
def b_ (x:cz) (P:eP):Array V:=#[.string x.nm,.slice P.xX P.xW P.xV,.slice P.vJ P.vI P.qx,.slice P.vN P.fC P.xJ,.slice P.uu P.uq P.wy,.slice P.xz P.xy P.xx,.slice P.tT P.tQ P.tO,.slice P.xL P.xK P.tac,.slice P.wX P.wW P.wV,.slice P.wG P.wF P.wE,.slice P.xB P.rV P.zV,.slice P.Bp P.Bo P.DD,.slice P.Ii P.lam P.LP]
theorem Pv (x:cz) (P:eP):(b_ x P).size=13:=rfl
theorem Wp (x:cz) (P:eP):(b_ x P).all (·.oneCell')=true:=by unfold b_;simp[af]
theorem Pq (x:cz) (P:eP):(b_ x P)[0]?=X (.string x.nm):=rfl
theorem V_ (x:cz) (P:eP):(b_ x P)[1]?=X (.slice P.xX P.xW P.xV):=rfl
theorem Wh (x:cz) (P:eP):(b_ x P)[2]?=X (.slice P.vJ P.vI P.qx):=rfl
theorem Wi (x:cz) (P:eP):(b_ x P)[3]?=X (.slice P.vN P.fC P.xJ):=rfl
theorem Wj (x:cz) (P:eP):(b_ x P)[4]?=X (.slice P.uu P.uq P.wy):=rfl
theorem Wl (x:cz) (P:eP):(b_ x P)[5]?=X (.slice P.xz P.xy P.xx):=rfl
theorem Pt (x:cz) (P:eP):(b_ x P)[6]?=X (.slice P.tT P.tQ P.tO):=rfl
theorem Wm (x:cz) (P:eP):(b_ x P)[7]?=X (.slice P.xL P.xK P.tac):=rfl
theorem Wn (x:cz) (P:eP):(b_ x P)[8]?=X (.slice P.wX P.wW P.wV):=rfl
theorem Wo (x:cz) (P:eP):(b_ x P)[9]?=X (.slice P.wG P.wF P.wE):=rfl
theorem Kg (x:cz) (P:eP):(b_ x P)[10]?=X (.slice P.xB P.rV P.zV):=rfl
theorem Wd (x:cz) (P:eP):(b_ x P)[11]?=X (.slice P.Bp P.Bo P.DD):=rfl
theorem We (x:cz) (P:eP):(b_ x P)[12]?=X (.slice P.Ii P.lam P.LP):=rfl
theorem JX:Big 54 13:=⟨⟨_,underlying54,rfl⟩,by kernel_rfl⟩
structure iL (G:Nat->Prop) (w:U) (x:cz) (P:eP):Prop where
 va:Rw 3 ik G w x.va P.xX P.xW
 rs:Rw 17 iO G w x.rs P.vJ P.vI
 st:Rw 3 jY G w x.st P.vN P.fC
 be:Rw 3 jX G w x.be P.uu P.uq
 qu:Rw 1 dU G w x.qu P.xz P.xy
 sm:Rw 1 dU G w x.sm P.tT P.tQ
 ta:Rw 1 dU G w x.ta P.xL P.xK
 le:Rw 1 dU G w x.le P.wX P.wW
 co:Rw 1 dU G w x.co P.wG P.wF
 ro:Rw 4 gU G w x.ro P.xB P.rV
 ss:Rw 5 kN G w x.ss P.Bp P.Bo
 la:Rw 3 kL G w x.la P.Ii P.lam
theorem iL.map {G H:Nat->Prop} {w w2:U} (hs:w.heap.size<=w2.heap.size) (hk:∀b,G b->b<w.heap.size->H b/\w2.heap[b]?=w.heap[b]?) {x:cz} {P:eP} (h:iL G w x P):iL H w2 x P:=
 ⟨h.va.map ik.map hs hk,h.rs.map iO.map hs hk,h.st.map jY.map hs hk,h.be.map jX.map hs hk,h.qu.map dU.map hs hk,h.sm.map dU.map hs hk,h.ta.map dU.map hs hk,h.le.map dU.map hs hk,h.co.map dU.map hs hk,h.ro.map gU.map hs hk,h.ss.map kN.map hs hk,h.la.map kL.map hs hk⟩
theorem iL.on {w w2:U} (hb:ai w.heap.size w w2) {x:cz} {P:eP} (h:iL (Lo w.heap.size) w x P):iL (Lo w2.heap.size) w2 x P:=h.map hb.size fun b g _=>⟨ag g hb.size,hb.block b g⟩
theorem iL.all {G:Nat->Prop} {w:U} {x:cz} {P:eP} (h:iL G w x P):iL (Lo w.heap.size) w x P:=h.map (ak _) fun b _ hb=>⟨hb,rfl⟩
def gK:Rec cz:=fun G w x c=>∃P,c=b_ x P/\iL G w x P
theorem gK.map:fe gK:=by intro G H w w2 hs hk x c ⟨P,h1,h2⟩;exact⟨P,h1,h2.map hs hk⟩
theorem gK.is {G:Nat->Prop} {w:U} {x:cz} {c:Array V} (h:gK G w x c):c.size=13/\c.all (·.oneCell')=true:=by
 obtain⟨P,rfl,-⟩:=h;exact⟨Pv x P,Wp x P⟩
structure k_ where
 pap:Option aj
 Dh:Nat
 Dg:Nat
 yR:Option aj
 xE:Nat
 Bh:Nat
 EU:Option aj
 lim:Nat
 Io:Nat
def dS (x:dL) (P:k_):Array V:=#[.string x.nm,.slice P.pap P.Dh P.Dg,.slice P.yR P.xE P.Bh,.slice P.EU P.lim P.Io]
theorem afj (x:dL) (P:k_):(dS x P).size=4:=rfl
theorem VK (x:dL) (P:k_):(dS x P).all (·.oneCell')=true:=by unfold dS;simp[af]
theorem Pj (x:dL) (P:k_):(dS x P)[0]?=X (.string x.nm):=rfl
theorem Pk (x:dL) (P:k_):(dS x P)[1]?=X (.slice P.pap P.Dh P.Dg):=rfl
theorem Pm (x:dL) (P:k_):(dS x P)[2]?=X (.slice P.yR P.xE P.Bh):=rfl
theorem VJ (x:dL) (P:k_):(dS x P)[3]?=X (.slice P.EU P.lim P.Io):=rfl
theorem aeM:Big 40 4:=⟨⟨_,underlying40,rfl⟩,by kernel_rfl⟩
structure jB (G:Nat->Prop) (w:U) (x:dL) (P:k_):Prop where
 pa:Rw 3 ik G w x.pa P.pap P.Dh
 si:Rw 13 gK G w x.si P.yR P.xE
 li:Rw 3 nC G w x.li P.EU P.lim
theorem jB.map {G H:Nat->Prop} {w w2:U} (hs:w.heap.size<=w2.heap.size) (hk:∀b,G b->b<w.heap.size->H b/\w2.heap[b]?=w.heap[b]?) {x:dL} {P:k_} (h:jB G w x P):jB H w2 x P:=
 ⟨h.pa.map ik.map hs hk,h.si.map gK.map hs hk,h.li.map nC.map hs hk⟩
theorem jB.on {w w2:U} (hb:ai w.heap.size w w2) {x:dL} {P:k_} (h:jB (Lo w.heap.size) w x P):jB (Lo w2.heap.size) w2 x P:=h.map hb.size fun b g _=>⟨ag g hb.size,hb.block b g⟩
theorem jB.all {G:Nat->Prop} {w:U} {x:dL} {P:k_} (h:jB G w x P):jB (Lo w.heap.size) w x P:=h.map (ak _) fun b _ hb=>⟨hb,rfl⟩
def zi:Rec dL:=fun G w x c=>∃P,c=dS x P/\jB G w x P
theorem zi.map:fe zi:=by intro G H w w2 hs hk x c ⟨P,h1,h2⟩;exact⟨P,h1,h2.map hs hk⟩
theorem zi.is {G:Nat->Prop} {w:U} {x:dL} {c:Array V} (h:zi G w x c):c.size=4/\c.all (·.oneCell')=true:=by
 obtain⟨P,rfl,-⟩:=h;exact⟨afj x P,VK x P⟩
end Md
namespace Md
open Go.RowKit
open Na (bs fst)
open Ex (Lo Gives take_one nN)
def gM {α:Type} (f:α->Bool):List α->Int
 | []=>-1
 | x::t=>if f x=true then 0 else if gM f t = -1 then -1 else gM f t+1
theorem Q9 {α:Type} {f:α->Bool}:∀l:List α,-1<=gM f l
 | []=>by unfold gM;omega
 | x::t=>by
  have:=Q9 (f:=f) t;unfold gM
  split
  · omega
  · split <;> omega
theorem Q8 {α:Type} {f:α->Bool}:∀{a b:List α},gM f a = -1->gM f (a++b)=if gM f b = -1 then -1 else a.length+gM f b
 | [],b,_=>by
  rw[List.nil_append]
  split
  · assumption
  · simp
 | x::t,b,h=>by
  rw[List.cons_append,gM];rw[gM] at h;by_cases hx:f x=true
  · rw[if_pos hx] at h;omega
  · rw[if_neg hx] at h ⊢;have h0:=Q9 (f:=f) t;have h1:=Q9 (f:=f) b;by_cases ht:gM f t = -1
    · rw[Q8 ht];by_cases hb:gM f b = -1
      · rw[if_pos hb,if_pos hb,if_pos rfl]
      · rw[if_neg hb,if_neg hb,if_neg bT,List.length_cons];omega
    · rw[if_neg ht] at h;omega
theorem ai9 {α:Type} {f:α->Bool} {l:List α} {k:Nat} {x:α} (hx:l[k]?=X x) (h:gM f (l.take k) = -1) (g:f x=false):gM f (l.take (k+1)) = -1:=by
 rw[take_one hx,Q8 h];have:gM f [x] = -1:=by unfold gM;rw[g];rfl
 rw[if_pos this]
theorem ai8 {α:Type} {f:α->Bool} {l:List α} {k:Nat} {x:α} (hx:l[k]?=X x) (h:gM f (l.take k) = -1) (g:f x=true):gM f l=(k:Int):=by
 obtain⟨hk,e⟩:=List.getElem?_eq_some_iff.1 hx;have h1:=List.take_append_drop k l;rw[List.drop_eq_getElem_cons hk,e] at h1;have h2:=Q8 (b:=x::l.drop (k+1)) h;rw[h1] at h2;have h3:gM f (x::l.drop (k+1))=0:=by unfold gM;rw[if_pos g]
 rw[h2,h3,if_neg bT,List.length_take];omega
theorem Cv {α:Type} {nm:α->ByteArray} {s:ByteArray}:∀{l:List α},gM (fun x=>gD (nm x) s) l=fst (l.map nm) s
 | []=>rfl
 | x::t=>by
  rw[List.map_cons,Yw,gM,Cv];have:(gD (nm x) s=true)=(bs (nm x)=bs s):=by unfold gD;rw[decide_eq_true_eq]
  simp only[this]
theorem Bu (a b:ByteArray):(a.toList==b.toList)=gD a b:=by
 unfold gD;by_cases h:bs a=bs b
 · rw[decide_eq_true h];exact Na.rH h
 · rw[decide_eq_false h];exact Na.vk h
theorem FE {p:Prop} (h:p:=by
 have ld1:=dO.fZ hcsz;have oU:=dO.sV bt;have oV:=dO.vE bt;obtain⟨x,hx⟩:∃x,l[k]=x:=⟨_,rfl⟩
 rw[hx] at HX HR;clear hcell hcs hat dO bt hR hx hkl;go_wp2_with fail;refine(hc.out x c _ HR.out HW.out).mono ?_;rintro e w2 ⟨rfl,hb2⟩;have HW2:Hid (ai w.heap.size w w2):=ay qG;clear ld1 oU oV hb2
 cases hr:f x
 · have H:=ay (ai9 HX.out HA.out hr);clear hr;go_wp2_with fail;go_roundw
   case rel=>exact⟨k+1,by omega,by go_num,HW2,H⟩
   case measure=>simp[intOf];omega
 · have H:=ay (ai8 HX.out HA.out hr);clear hr;go_wp2_with fail;go_ret;exact⟨nN H.out.symm,HW2.out⟩
 ):p:=h
theorem FF {p:Prop} (h:p:=by
 obtain rfl:m=k:=by omega
 have HT:=ay (show gM f l = -1 by have h1:=HA.out;rwa [List.take_of_length_le x_] at h1);go_wp2_with fail;go_ret;exact⟨nN HT.out.symm,HW.out⟩
 ):p:=h
theorem ajd {l:List cz} {p:Option aj} {m c:Nat} {w:U} (hl:Hid (Rw 13 gK (Lo w.heap.size) w l p m)) (bnd cap:Array V) (f:cz->Bool)
 (hc:Hid (∀x c W,gK (Lo W.heap.size) W x c->ai w.heap.size w W->au ae 149 (bnd.push (.agg c)++cap) W (Gives (.bool (f x)) W))) :
 au ae 148 #[.slice p m c,.func (.func 149) bnd cap] w (Gives (.int .i64 (gM f l)) w):=by
 obtain⟨hlm,hm⟩:=hl.out.len;have HL:=ay hlm;have t3:(m:Int)<=9223372036854775807:=by omega
 clear hlm hm;obtain⟨kk,hkk⟩:∃n:Nat,13=n:=⟨_,rfl⟩
 have hsz:∀w,(sizeOf 54).run ae w=.ok kk w:=fun w=>by rw[sizeOf54,hkk]
 have HKK:=ay hkk;clear hkk;go_enter func148,ntmps148;go_wp2_with fail;go_loopw [8] (fun i wr=>∃k:Nat,k<=m/\i=.int .i64 (k:Nat)/\Hid (ai w.heap.size w wr)/\Hid (gM f (l.take k) = -1)) (fun i _=>m-(intOf i).toNat)
 case atStart=>exact⟨0,az _,rfl,ay (aA _ _),ay rfl⟩
 case round=>
  obtain⟨k,hk,rfl,HW,HA⟩:=hrel;have k0:(0:Int)<=(k:Int):=by omega
  rcases ax k m with h|h
  · have k1:(k:Int)<(m:Int):=by omega
    have hkl:k<l.length:=by rw[HL.out];exact h
    have HX:=ay (ah hkl);obtain⟨b,o,rfl,lT,hG,hcell⟩:=(hl.out.below gK.map HW.out).rows bT;obtain⟨c,hcs,hat,hR⟩:=hcell.out k hkl;have HC:=ay hcs;have HR:=ay (gK.map.all hR);have hcsz:c.size=kk:=by rw[HC.out,HKK.out]
    have dO:=hat.at HKK.out;have bt:Big 54 c.size:=by rw[HC.out];exact JX
    exact FE
  · exact FF
theorem ajc {l:List fo} {p:Option aj} {m c:Nat} {w:U} (hl:Hid (Rw 4 gU (Lo w.heap.size) w l p m)) (bnd cap:Array V) (f:fo->Bool)
 (hc:Hid (∀x c W,gU (Lo W.heap.size) W x c->ai w.heap.size w W->au ae 206 (bnd.push (.agg c)++cap) W (Gives (.bool (f x)) W))) :
 au ae 205 #[.slice p m c,.func (.func 206) bnd cap] w (Gives (.int .i64 (gM f l)) w):=by
 obtain⟨hlm,hm⟩:=hl.out.len;have HL:=ay hlm;have t3:(m:Int)<=9223372036854775807:=by omega
 clear hlm hm;obtain⟨kk,hkk⟩:∃n:Nat,4=n:=⟨_,rfl⟩
 have hsz:∀w,(sizeOf 215).run ae w=.ok kk w:=fun w=>by rw[sizeOf215,hkk]
 have HKK:=ay hkk;clear hkk;go_enter func205,ntmps205;go_wp2_with fail;go_loopw [8] (fun i wr=>∃k:Nat,k<=m/\i=.int .i64 (k:Nat)/\Hid (ai w.heap.size w wr)/\Hid (gM f (l.take k) = -1)) (fun i _=>m-(intOf i).toNat)
 case atStart=>exact⟨0,az _,rfl,ay (aA _ _),ay rfl⟩
 case round=>
  obtain⟨k,hk,rfl,HW,HA⟩:=hrel;have k0:(0:Int)<=(k:Int):=by omega
  rcases ax k m with h|h
  · have k1:(k:Int)<(m:Int):=by omega
    have hkl:k<l.length:=by rw[HL.out];exact h
    have HX:=ay (ah hkl);obtain⟨b,o,rfl,lT,hG,hcell⟩:=(hl.out.below gU.map HW.out).rows bT;obtain⟨c,hcs,hat,hR⟩:=hcell.out k hkl;have HC:=ay hcs;have HR:=ay (gU.map.all hR);have hcsz:c.size=kk:=by rw[HC.out,HKK.out]
    have dO:=hat.at HKK.out;have bt:Big 215 c.size:=by rw[HC.out];exact JV
    exact FE
  · exact FF
theorem ajf {l:List Val} {p:Option aj} {m c:Nat} {w:U} (hl:Hid (Rw 3 ik (Lo w.heap.size) w l p m)) (bnd cap:Array V) (f:Val->Bool)
 (hc:Hid (∀x c W,ik (Lo W.heap.size) W x c->ai w.heap.size w W->au ae 230 (bnd.push (.agg c)++cap) W (Gives (.bool (f x)) W))) :
 au ae 229 #[.slice p m c,.func (.func 230) bnd cap] w (Gives (.int .i64 (gM f l)) w):=by
 obtain⟨hlm,hm⟩:=hl.out.len;have HL:=ay hlm;have t3:(m:Int)<=9223372036854775807:=by omega
 clear hlm hm;obtain⟨kk,hkk⟩:∃n:Nat,3=n:=⟨_,rfl⟩
 have hsz:∀w,(sizeOf 105).run ae w=.ok kk w:=fun w=>by rw[sizeOf105,hkk]
 have HKK:=ay hkk;clear hkk;go_enter func229,ntmps229;go_wp2_with fail;go_loopw [8] (fun i wr=>∃k:Nat,k<=m/\i=.int .i64 (k:Nat)/\Hid (ai w.heap.size w wr)/\Hid (gM f (l.take k) = -1)) (fun i _=>m-(intOf i).toNat)
 case atStart=>exact⟨0,az _,rfl,ay (aA _ _),ay rfl⟩
 case round=>
  obtain⟨k,hk,rfl,HW,HA⟩:=hrel;have k0:(0:Int)<=(k:Int):=by omega
  rcases ax k m with h|h
  · have k1:(k:Int)<(m:Int):=by omega
    have hkl:k<l.length:=by rw[HL.out];exact h
    have HX:=ay (ah hkl);obtain⟨b,o,rfl,lT,hG,hcell⟩:=(hl.out.below ik.map HW.out).rows bT;obtain⟨c,hcs,hat,hR⟩:=hcell.out k hkl;have HC:=ay hcs;have HR:=ay (ik.map.all hR);have hcsz:c.size=kk:=by rw[HC.out,HKK.out]
    have dO:=hat.at HKK.out;have bt:Big 105 c.size:=by rw[HC.out];exact Vn
    exact FE
  · exact FF
theorem ajb {l:List dm} {p:Option aj} {m c:Nat} {w:U} (hl:Hid (Rw 17 iO (Lo w.heap.size) w l p m)) (bnd cap:Array V) (f:dm->Bool)
 (hc:Hid (∀x c W,iO (Lo W.heap.size) W x c->ai w.heap.size w W->au ae 232 (bnd.push (.agg c)++cap) W (Gives (.bool (f x)) W))) :
 au ae 231 #[.slice p m c,.func (.func 232) bnd cap] w (Gives (.int .i64 (gM f l)) w):=by
 obtain⟨hlm,hm⟩:=hl.out.len;have HL:=ay hlm;have t3:(m:Int)<=9223372036854775807:=by omega
 clear hlm hm;obtain⟨kk,hkk⟩:∃n:Nat,17=n:=⟨_,rfl⟩
 have hsz:∀w,(sizeOf 199).run ae w=.ok kk w:=fun w=>by rw[sizeOf199,hkk]
 have HKK:=ay hkk;clear hkk;go_enter func231,ntmps231;go_wp2_with fail;go_loopw [8] (fun i wr=>∃k:Nat,k<=m/\i=.int .i64 (k:Nat)/\Hid (ai w.heap.size w wr)/\Hid (gM f (l.take k) = -1)) (fun i _=>m-(intOf i).toNat)
 case atStart=>exact⟨0,az _,rfl,ay (aA _ _),ay rfl⟩
 case round=>
  obtain⟨k,hk,rfl,HW,HA⟩:=hrel;have k0:(0:Int)<=(k:Int):=by omega
  rcases ax k m with h|h
  · have k1:(k:Int)<(m:Int):=by omega
    have hkl:k<l.length:=by rw[HL.out];exact h
    have HX:=ay (ah hkl);obtain⟨b,o,rfl,lT,hG,hcell⟩:=(hl.out.below iO.map HW.out).rows bT;obtain⟨c,hcs,hat,hR⟩:=hcell.out k hkl;have HC:=ay hcs;have HR:=ay (iO.map.all hR);have hcsz:c.size=kk:=by rw[HC.out,HKK.out]
    have dO:=hat.at HKK.out;have bt:Big 199 c.size:=by rw[HC.out];exact Az
    exact FE
  · exact FF
theorem aje {l:List jP} {p:Option aj} {m c:Nat} {w:U} (hl:Hid (Rw 3 jY (Lo w.heap.size) w l p m)) (bnd cap:Array V) (f:jP->Bool)
 (hc:Hid (∀x c W,jY (Lo W.heap.size) W x c->ai w.heap.size w W->au ae 234 (bnd.push (.agg c)++cap) W (Gives (.bool (f x)) W))) :
 au ae 233 #[.slice p m c,.func (.func 234) bnd cap] w (Gives (.int .i64 (gM f l)) w):=by
 obtain⟨hlm,hm⟩:=hl.out.len;have HL:=ay hlm;have t3:(m:Int)<=9223372036854775807:=by omega
 clear hlm hm;obtain⟨kk,hkk⟩:∃n:Nat,3=n:=⟨_,rfl⟩
 have hsz:∀w,(sizeOf 205).run ae w=.ok kk w:=fun w=>by rw[sizeOf205,hkk]
 have HKK:=ay hkk;clear hkk;go_enter func233,ntmps233;go_wp2_with fail;go_loopw [8] (fun i wr=>∃k:Nat,k<=m/\i=.int .i64 (k:Nat)/\Hid (ai w.heap.size w wr)/\Hid (gM f (l.take k) = -1)) (fun i _=>m-(intOf i).toNat)
 case atStart=>exact⟨0,az _,rfl,ay (aA _ _),ay rfl⟩
 case round=>
  obtain⟨k,hk,rfl,HW,HA⟩:=hrel;have k0:(0:Int)<=(k:Int):=by omega
  rcases ax k m with h|h
  · have k1:(k:Int)<(m:Int):=by omega
    have hkl:k<l.length:=by rw[HL.out];exact h
    have HX:=ay (ah hkl);obtain⟨b,o,rfl,lT,hG,hcell⟩:=(hl.out.below jY.map HW.out).rows bT;obtain⟨c,hcs,hat,hR⟩:=hcell.out k hkl;have HC:=ay hcs;have HR:=ay (jY.map.all hR);have hcsz:c.size=kk:=by rw[HC.out,HKK.out]
    have dO:=hat.at HKK.out;have bt:Big 205 c.size:=by rw[HC.out];exact Vm
    exact FE
  · exact FF
theorem aja {l:List jO} {p:Option aj} {m c:Nat} {w:U} (hl:Hid (Rw 3 jX (Lo w.heap.size) w l p m)) (bnd cap:Array V) (f:jO->Bool)
 (hc:Hid (∀x c W,jX (Lo W.heap.size) W x c->ai w.heap.size w W->au ae 236 (bnd.push (.agg c)++cap) W (Gives (.bool (f x)) W))) :
 au ae 235 #[.slice p m c,.func (.func 236) bnd cap] w (Gives (.int .i64 (gM f l)) w):=by
 obtain⟨hlm,hm⟩:=hl.out.len;have HL:=ay hlm;have t3:(m:Int)<=9223372036854775807:=by omega
 clear hlm hm;obtain⟨kk,hkk⟩:∃n:Nat,3=n:=⟨_,rfl⟩
 have hsz:∀w,(sizeOf 209).run ae w=.ok kk w:=fun w=>by rw[sizeOf209,hkk]
 have HKK:=ay hkk;clear hkk;go_enter func235,ntmps235;go_wp2_with fail;go_loopw [8] (fun i wr=>∃k:Nat,k<=m/\i=.int .i64 (k:Nat)/\Hid (ai w.heap.size w wr)/\Hid (gM f (l.take k) = -1)) (fun i _=>m-(intOf i).toNat)
 case atStart=>exact⟨0,az _,rfl,ay (aA _ _),ay rfl⟩
 case round=>
  obtain⟨k,hk,rfl,HW,HA⟩:=hrel;have k0:(0:Int)<=(k:Int):=by omega
  rcases ax k m with h|h
  · have k1:(k:Int)<(m:Int):=by omega
    have hkl:k<l.length:=by rw[HL.out];exact h
    have HX:=ay (ah hkl);obtain⟨b,o,rfl,lT,hG,hcell⟩:=(hl.out.below jX.map HW.out).rows bT;obtain⟨c,hcs,hat,hR⟩:=hcell.out k hkl;have HC:=ay hcs;have HR:=ay (jX.map.all hR);have hcsz:c.size=kk:=by rw[HC.out,HKK.out]
    have dO:=hat.at HKK.out;have bt:Big 209 c.size:=by rw[HC.out];exact Vl
    exact FE
  · exact FF
end Md
namespace Md
open Go.RowKit
open Na (bs jl)
def oI (v:V) (w:U) (e:Ending) (w':U):Prop:=e=.returned v/\w=w'
theorem Ag {p:Prop} (h:p:=by
 exact Ea
 ):p:=h
theorem J6 (lo n hi:Int) (w:U):au ae 98 #[.int .i64 lo,.int .i64 n,.int .i64 hi] w (oI (.bool (iy lo n hi)) w):=by
 unfold iy;by_cases h1:lo<=n
 · by_cases h2:n<=hi
   · have d1:=decide_eq_true h1;have d2:=decide_eq_true h2;rw[d1,d2];go_enter func98,ntmps98;exact Ag
   · have d1:=decide_eq_true h1;have d2:=decide_eq_false h2;rw[d1,d2];go_enter func98,ntmps98;exact Ag
 · have d1:=decide_eq_false h1;rw[d1];go_enter func98,ntmps98;exact Ag
theorem BZ {lo n hi:Int} {b:Bool} (h:iy lo n hi=b) (w:U):au ae 98 #[.int .i64 lo,.int .i64 n,.int .i64 hi] w (oI (.bool b) w):=by rw[← h];exact J6 lo n hi w
theorem ZB (n:Int) (w:U):au ae 130 #[.int .i64 n] w (oI (.bool (rO n)) w):=by
 go_enter func130,ntmps130;go_wp2_with fail;refine(J6 0 n 1000000000 w).mono ?_;exact Jr
theorem ZE (n:Int) (w:U):au ae 174 #[.int .i64 n] w (oI (.bool (Hy n)) w):=by
 go_enter func174,ntmps174;go_wp2_with fail;refine(J6 0 n 1000 w).mono ?_;exact Jr
theorem TB (t:Int):t=1∨t=2∨t=3∨((t==1)=false/\(t==2)=false/\(t==3)=false/\¬t=1/\¬t=2/\¬t=3):=by
 by_cases h1:t=1
 · exact .inl h1
 by_cases h2:t=2
 · exact .inr (.inl h2)
 by_cases h3:t=3
 · exact .inr (.inr (.inl h3))
 exact .inr (.inr (.inr ⟨beq_eq_false_iff_ne.2 h1,beq_eq_false_iff_ne.2 h2,beq_eq_false_iff_ne.2 h3,h1,h2,h3⟩))
theorem ZC (t:Int) (w:U):au ae 90 #[.int .i64 t] w (oI (.bool (typ t)) w):=by
 rcases TB t with rfl|rfl|rfl|⟨e1,e2,e3,h1,h2,h3⟩
 · exact NT
 · exact NT
 · exact NT
 · have hz:typ t=false:=by unfold typ;rw[decide_eq_false h1,decide_eq_false h2,decide_eq_false h3];rfl
   rw[hz];clear hz h1 h2 h3;exact NT
theorem Cw (n:Int) (w:U):au ae 129 #[.int .i64 n] w (oI (.bool (iy (-1000000000000) n 1000000000000)) w):=by
 unfold iy;by_cases h1:-1000000000000<=n
 · by_cases h2:n<=1000000000000
   · have d1:=decide_eq_true h1;have d2:=decide_eq_true h2;rw[d1,d2];go_enter func129,ntmps129;exact Ag
   · have d1:=decide_eq_true h1;have d2:=decide_eq_false h2;rw[d1,d2];go_enter func129,ntmps129;exact Ag
 · have d1:=decide_eq_false h1;rw[d1];go_enter func129,ntmps129;exact Ag
theorem Yd (t n:Int) (w:U):au ae 91 #[.int .i64 t,.int .i64 n] w (oI (.bool (fits t n)) w):=by
 rcases TB t with rfl|rfl|rfl|⟨e1,e2,e3,h1,h2,h3⟩
 · go_enter func91,ntmps91;go_wp2_with fail;refine(Cw n w).mono ?_;exact Jr
 · go_enter func91,ntmps91;go_wp2_with fail;refine(J6 0 n 1 w).mono ?_;exact Jr
 · go_enter func91,ntmps91;go_wp2_with fail;refine(ZB n w).mono ?_;exact Jr
 · have hz:fits t n=false:=by unfold fits;rw[if_neg h1,if_neg h2,if_neg h3]
   rw[hz];clear hz h1 h2 h3;go_enter func91,ntmps91;exact Ag
theorem clash {x:Bool} (h:x=true) (g:x=false):False:=by rw[h] at g;cases g
theorem aji {s:ByteArray} {c:List UInt8} (h:(s.toList==c)=true):s=⟨c.toArray⟩:=by
 have g:=eq_of_beq h;rw[Lib.toList_data] at g;exact jl (by show bs s=_;unfold bs;simpa using g)
theorem CY {s:ByteArray} {c:List UInt8} (h:(s.toList==c)=false):¬s=⟨c.toArray⟩:=by
 rintro rfl;rw[beq_eq_false_iff_ne] at h;exact h (by rw[Lib.toList_data])
theorem agL {s:ByteArray} (h1:¬s=Tf) (h2:¬s=Ti) (h3:¬s=Tm) (h4:¬s=Tp) (h5:¬s=Tj) (h6:¬s=Tn) (h7:¬s=Tg):Ey s=Sm.nE:=by
 unfold Ey;rw[if_neg (by simp[h1,h2,h3]),if_neg (by simp[h4,h5,h6]),if_neg h7]
theorem yZ {p:Prop} (h:p:=by assumption):p:=h
theorem agR (s:ByteArray) (w:U):au ae 215 #[.string s] w (oI (.string (Ey s)) w):=by
 go_enter func215,ntmps215;go_wp2_with fail
 all_goals first
  | exact(clash yZ yZ).elim
  | (go_ret;refine⟨?_,rfl⟩;rw[aji (s:=s) yZ];rfl)
  | (go_ret;refine⟨?_,rfl⟩;have n1:¬s=Tf:=CY yZ;have n2:¬s=Ti:=CY yZ;have n3:¬s=Tm:=CY yZ;have n4:¬s=Tp:=CY yZ;have n5:¬s=Tj:=CY yZ;have n6:¬s=Tn:=CY yZ;have n7:¬s=Tg:=CY yZ;rw[agL n1 n2 n3 n4 n5 n6 n7];rfl)
end Md
namespace Na
open Go.RowKit
theorem clash {x:Bool} (h:x=true) (g:x=false):False:=by rw[h] at g;cases g
theorem Ih {s:ByteArray} {c:List UInt8} (h:(s.toList==c)=true) (hc:ER.contains c=true):true=gX (bs s):=by
 have e:bs s=c:=by
  have g:=eq_of_beq h;rw[Lib.toList_data] at g;exact g
 unfold gX;rw[e,hc]
theorem ajO (s:ByteArray):gX (bs s)=ER.any fun c=>s.toList==c:=by
 unfold gX;simp only[Lib.toList_data];rw[List.contains_eq_any_beq]
theorem Rl (s:ByteArray) (w:U):au ae 87 #[.string s] w fun e w'=>e=.returned (.bool (gX (bs s)))/\w'=w:=by
 go_enter func87,ntmps87;go_wp2_with fail
 all_goals first
  | exact(clash (by assumption) (by assumption)).elim
  | (go_ret;exact⟨lC (Ih (by assumption) bR),rfl⟩)
  | (go_ret;exact⟨lC (by rw[ajO];simp only[ER,List.any_cons,List.any_nil,Bool.or_false, *]),rfl⟩)
theorem aap {s:ByteArray} {b:Bool} (h:gX (bs s)=b) (w:U):au ae 87 #[.string s] w fun e w'=>e=.returned (.bool b)/\w'=w:=by rw[← h];exact Rl s w
end Na
end Go.Proofs.YtkpekhpgdajabaaGreatDoor
