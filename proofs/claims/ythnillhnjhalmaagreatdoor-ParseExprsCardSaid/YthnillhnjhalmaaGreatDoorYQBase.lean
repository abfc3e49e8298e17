/-
  Parts of this proof: The records of a model in memory. The contracts of slices.IndexFunc at its types. The contracts of the small functions.
-/
import Derived.Test.YthnillhnjhalmaaGreatDoorYPBase
open Go.Proofs.Tryz
open Go renaming World->U,Value->V,Addr->aj,Calls->au,TypeId->av
open Go.Proofs.Tryz renaming prog->ae
open Option renaming some->X
open Go.Value renaming oneCell'->af
open Nat renaming lt_of_lt_of_le->ag,le_refl->ak,lt_or_ge->ax,zero_le->az
open List renaming getElem?_eq_getElem->ah
open Go.RowKit renaming Below->ai
open Go.Lib renaming hid->ay
open Go.RowKit.Below renaming refl->aA
set_option linter.unusedVariables false
set_option maxRecDepth 100000
set_option maxHeartbeats 2000000
open Go.Lib (hid)
namespace Go.Proofs.YthnillhnjhalmaaGreatDoor
namespace Md
open Go.RowKit
open Na (Strs)
open Ex (Lo)
open Sm (ry Ints dE)
def At (w:U) (b o:Nat) (c:Array V):Prop:=∀r v,c[r]?=X v->w.cell? ⟨b,o+r,none⟩=X v
theorem At.keep {w w2:U} {b o:Nat} {c:Array V} (hb:w2.heap[b]?=w.heap[b]?) (h:At w b o c):At w2 b o c:=fun r v hv=>(World.cell?_of_block (w:=w) (a:=⟨b,o+r,none⟩) hb).trans (h r v hv)
theorem At.on {w w2:U} {b o:Nat} {c:Array V} (hb:ai w.heap.size w w2) (hg:b<w.heap.size) (h:At w b o c):At w2 b o c:=h.keep (hb.block b hg)
theorem At.get {w:U} {b o:Nat} {c:Array V} (h:At w b o c) {r:Nat} {v:V} (hv:c[r]?=X v):w.cell? ⟨b,o+r,none⟩=X v:=h r v hv
theorem At.range {w:U} {b o:Nat} {c:Array V} (h:At w b o c):w.rangeAt b o c.toList:=fun j v hv=>h j v Wm
theorem At.load {w:U} {b o:Nat} {c:Array V} (h:At w b o c):(loadCellsFrom ⟨b,o,none⟩ 0 c.size #[]).run ae w=.ok c w:=by
 have:=run_loadCells_list (P:=ae) w ⟨b,o,none⟩ c.toList (fun j v hv=>by rw[Addr.add_mid];exact h j v Wm);rw[Array.length_toList,Array.toArray_toList] at this;exact this
theorem At.gJ {w:U} {b o n:Nat} {c:Array V} (h:At w b o c) (hn:c.size=n):(loadCellsFrom ⟨b,o,none⟩ 0 n #[]).run ae w=.ok c w:=by subst hn;exact h.load
def Big (t:av) (k:Nat):Prop:=(∃d,Tryz.prog.underlying t=X d/\d.isRow=true)/\(Tryz.prog.info? t).map (·.size)=X k
theorem At.uM {w:U} {b o:Nat} {c:Array V} {t:av} (h:At w b o c) (ht:Big t c.size):(loadVar t ⟨b,o,none⟩).run ae w=.ok (.agg c) w:=by
 obtain⟨⟨d,h1,h2⟩,h3⟩:=ht;have:=run_loadVar_mid (P:=ae) w b o t c.toList d h.range h1 h2 (by rw[h3];simp);rwa [Array.toArray_toList] at this
theorem At.wM {w:U} {b o:Nat} {c:Array V} {t:av} (h:At w b o c) (ht:Big t c.size):(Instr.loadAt t (.pointer (X ⟨b,o,none⟩))).run ae w=.ok (.agg c) w:=by
 simp only[Instr.loadAt,Instr.sureAddr,Sem.run_bind,Sem.run_pure,Result.andThen_ok,h.uM ht]
theorem At.at {w:U} {b o i k n:Nat} {c:Array V} (h:At w b (o+i*k) c) (hn:k=n):At w b (o+i*n) c:=by subst hn;exact h
theorem yf {t:av} {c:Array V} (ht:Big t c.size) (h1:c.all (·.oneCell')=true) (z:Array V) (hz:z.size=c.size) (W:U) (B:Nat) (hB:W.heap.size=B):(storeVar t ⟨B,0,none⟩ (.agg c)).run ae (W.alloc (.cells z t))=.ok () (W.alloc (.cells c t)):=by
 subst hB;exact run_storeVar_new W _ _ _ ht.2 hz h1
theorem x_ {t:av} {c:Array V} (ht:Big t c.size) (h1:c.all (·.oneCell')=true) (z:Array V) (hz:z.size=c.size) (W:U) (B:Nat) (hB:W.heap.size=B):(Instr.storeAt t (.pointer (X ⟨B,0,none⟩)) (.agg c)).run ae (W.alloc (.cells z t))=.ok () (W.alloc (.cells c t)):=by
 subst hB;exact run_storeAt_new W _ _ _ ht.2 hz h1
theorem yc {t:av} {c:Array V} (ht:Big t c.size) (h1:c.all (·.oneCell')=true) (z:Array V) (hz:z.size=c.size) (W:U) (B:Nat) (hB:W.heap.size=B):(storeCells ⟨B,0,none⟩ c.toList 0).run ae (W.alloc (.cells z t))=.ok () (W.alloc (.cells c t)):=by
 subst hB;exact run_storeCells_new W _ _ _ ht.2 hz h1
def bX (w:U) (g:Nat) (t:av) (c:Array V):Prop:=w.heap[g]?=X (.cells c t (0,0))
theorem bX.lt {w:U} {g:Nat} {t:av} {c:Array V} (h:bX w g t c):g<w.heap.size:=(Array.getElem?_eq_some_iff.1 h).1
theorem bX.keep {w w2:U} {g:Nat} {t:av} {c:Array V} (hb:w2.heap[g]?=w.heap[g]?) (h:bX w g t c):bX w2 g t c:=hb.trans h
theorem bX.on {w w2:U} {g:Nat} {t:av} {c:Array V} (hb:ai w.heap.size w w2) (h:bX w g t c):bX w2 g t c:=h.keep (hb.block g h.lt)
theorem bX.new {w:U} {t:av} {c:Array V}:bX (w.alloc (.cells c t)) w.heap.size t c:=World.alloc_heap_new w _
theorem bX.cell {w:U} {g:Nat} {t:av} {c:Array V} (h:bX w g t c):At w g 0 c:=fun r v hv=>by
 rw[Nat.zero_add,cell_of_row w g r _ _ _ h];exact hv
theorem bX.get {w:U} {g:Nat} {t:av} {c:Array V} (h:bX w g t c) {r:Nat} {v:V} (hv:c[r]?=X v):w.cell? ⟨g,r,none⟩=X v:=by
 rw[cell_of_row w g r _ _ _ h];exact hv
theorem far {w:U} (t:av) (c:Array V):Hid (∀W,ai (w.alloc (.cells c t)).heap.size (w.alloc (.cells c t)) W->bX W w.heap.size t c):=ay fun W hb=>bX.new.on hb
theorem xE {w:U} (t u:av) (c d:Array V):Hid (∀W,ai ((w.alloc (.cells c t)).alloc (.cells d u)).heap.size ((w.alloc (.cells c t)).alloc (.cells d u)) W->bX W w.heap.size t c/\bX W (w.heap.size+1) u d):=ay fun W hb=>by
 have h1:bX (w.alloc (.cells c t)) w.heap.size t c:=bX.new;have h2:=bX.new (w:=w.alloc (.cells c t)) (c:=d) (t:=u);have e:(w.alloc (.cells c t)).heap.size=w.heap.size+1:=by simp
 rw[e] at h2;exact⟨(h1.on bl).on hb,h2.on hb⟩
abbrev Rec (α:Type):=(Nat->Prop)->U->α->Array V->Prop
def fC {α:Type} (R:Rec α):Prop:=∀{G H:Nat->Prop} {w w2:U},w.heap.size<=w2.heap.size->(∀b,G b->b<w.heap.size->H b/\w2.heap[b]?=w.heap[b]?)->∀{x:α} {c:Array V},R G w x c->R H w2 x c
def Rw {α:Type} (k:Nat) (R:Rec α) (G:Nat->Prop) (w:U) (l:List α) (p:Option aj) (m:Nat):Prop:=ry G w l.length m p fun b o=>Hid (∀i,(h:i<l.length)->∃c,c.size=k/\At w b (o+i*k) c/\R G w l[i] c)
section
variable {α:Type} {k:Nat} {R:Rec α} {G H:Nat->Prop} {w w2:U} {l:List α} {p:Option aj} {m:Nat}
theorem Rw.map (hm:fC R) (hs:w.heap.size<=w2.heap.size) (hk:∀b,G b->b<w.heap.size->H b/\w2.heap[b]?=w.heap[b]?) (h:Rw k R G w l p m):Rw k R H w2 l p m:=
 Sm.ry.imp hs hk (fun b o hg hb h=>ay fun i hl=>let ⟨c,h0,h1,h2⟩:=h.out i hl;⟨c,h0,h1.keep (hk b hg hb).2,hm hs hk h2⟩) h
theorem Rw.mono (hm:fC R) (hk:∀b,G b->b<w.heap.size->H b) (h:Rw k R G w l p m):Rw k R H w l p m:=h.map hm (ak _) fun b g hb=>⟨hk b g hb,rfl⟩
theorem Rw.below {B:Nat} (hm:fC R) (hb:ai B w w2) (h:Rw k R (Lo B) w l p m):Rw k R (Lo B) w2 l p m:=h.map hm hb.size fun b g _=>⟨g,hb.block b g⟩
theorem Rw.all (hm:fC R) (h:Rw k R G w l p m):Rw k R (Lo w.heap.size) w l p m:=h.mono hm fun b _ hb=>hb
theorem Rw.on (hm:fC R) (hb:ai w.heap.size w w2) (h:Rw k R (Lo w.heap.size) w l p m):Rw k R (Lo w2.heap.size) w2 l p m:=(h.below hm hb).all hm
theorem Rw.len (h:Rw k R G w l p m):l.length=m/\m<=9223372036854775807:=⟨h.1,h.2.1⟩
theorem Rw.nil:Rw k R G w ([]:List α) p 0:=⟨rfl,by omega,.inl rfl⟩
theorem Rw.rows (h:Rw k R G w l p m) (hm:0<m):∃b o,p=X ⟨b,o,none⟩/\G b/\b<w.heap.size/\Hid (∀i,(h:i<l.length)->∃c,c.size=k/\At w b (o+i*k) c/\R G w l[i] c):=by
 rcases h.2.2 with h|h
 · omega
 · exact h
theorem Rw.take (h:Rw k R G w l p m) {j:Nat} (hj:j<=m):Rw k R G w (l.take j) p j:=by
 obtain⟨h1,h2,h3⟩:=h;refine⟨by rw[List.length_take];omega,by omega,?_⟩;by_cases h0:j=0
 · exact .inl h0
 · rcases h3 with h3|⟨b,o,rfl,hg,hb,hc⟩
   · omega
   · refine .inr ⟨b,o,rfl,hg,hb,ay fun i hi=>?_⟩;rw[List.length_take] at hi;obtain⟨c,q⟩:=hc.out i bU;exact⟨c,by rw[List.getElem_take];exact q⟩
end
theorem Ints.on {w w2:U} {l:List Int} {p:Option aj} {m:Nat} (hb:ai w.heap.size w w2) (h:Ints (Lo w.heap.size) w l p m):Ints (Lo w2.heap.size) w2 l p m:=h.map hb.size fun b g _=>⟨ag g hb.size,hb.block b g⟩
theorem fC.on {α:Type} {R:Rec α} (hm:fC R) {w w2:U} {x:α} {c:Array V} (hb:ai w.heap.size w w2) (h:R (Lo w.heap.size) w x c):R (Lo w2.heap.size) w2 x c:=hm hb.size (fun b g=>fun hb2=>⟨ag hb2 hb.size,hb.block b hb2⟩) h
theorem fC.all {α:Type} {R:Rec α} (hm:fC R) {G:Nat->Prop} {w:U} {x:α} {c:Array V} (h:R G w x c):R (Lo w.heap.size) w x c:=hm (ak _) (fun b _ hb=>⟨hb,rfl⟩) h
def dZ:Rec ByteArray:=fun _ _ x c=>c=#[.string x]
theorem dZ.map:fC dZ:=by intro G H w w2 _ _ x c h;exact h
theorem Rw.strs {w:U} {l:List ByteArray} {p:Option aj} {m:Nat} {G:Nat->Prop} (h:Rw 1 dZ G w l p m):Strs w p m l:=by
 obtain⟨h1,h2,h3⟩:=h;refine⟨h1,h2,?_⟩;rcases h3 with h3|⟨b,o,rfl,hg,hb,hc⟩
 · exact .inl h3
 · refine .inr ⟨b,o,rfl,hb,ay fun i hi=>?_⟩;obtain⟨c,-,h4,rfl⟩:=hc.out i hi;have:=h4 0 _ rfl;rwa [show o+i*1+0=o+i by omega] at this
def Dr (x:dV):Array V:=#[.int .i64 x.t,.int .i64 x.u]
theorem agF (x:dV):(Dr x).size=2:=rfl
theorem agE (x:dV):(Dr x).all (·.oneCell')=true:=by unfold Dr;simp[af]
def jd:Rec dV:=fun _ _ x c=>c=Dr x
theorem jd.map:fC jd:=by intro G H w w2 _ _ x c h;exact h
theorem jd.is {G:Nat->Prop} {w:U} {x:dV} {c:Array V} (h:jd G w x c):c.size=2/\c.all (·.oneCell')=true:=by
 subst h;exact⟨agF x,agE x⟩
def ni (x:Val):Array V:=#[.string x.nm,.int .i64 x.ty,.int .i64 x.n]
theorem ahd (x:Val):(ni x).size=3:=rfl
theorem ahc (x:Val):(ni x).all (·.oneCell')=true:=by unfold ni;simp[af]
theorem X4 (x:Val):(ni x)[0]?=X (.string x.nm):=rfl
theorem Q0 (x:Val):(ni x)[1]?=X (.int .i64 x.ty):=rfl
theorem Q3 (x:Val):(ni x)[2]?=X (.int .i64 x.n):=rfl
theorem Xf:Big 103 3:=⟨⟨_,underlying103,rfl⟩,by kernel_rfl⟩
def iI:Rec Val:=fun _ _ x c=>c=ni x
theorem iI.map:fC iI:=by intro G H w w2 _ _ x c h;exact h
theorem iI.is {G:Nat->Prop} {w:U} {x:Val} {c:Array V} (h:iI G w x c):c.size=3/\c.all (·.oneCell')=true:=by
 subst h;exact⟨ahd x,ahc x⟩
def mq (x:ko):Array V:=#[.string x.nm,.int .i64 x.rm,.int .i64 x.po]
theorem ag8 (x:ko):(mq x).size=3:=rfl
theorem ag7 (x:ko):(mq x).all (·.oneCell')=true:=by unfold mq;simp[af]
theorem Ma (x:ko):(mq x)[0]?=X (.string x.nm):=rfl
theorem ag5 (x:ko):(mq x)[1]?=X (.int .i64 x.rm):=rfl
theorem ag6 (x:ko):(mq x)[2]?=X (.int .i64 x.po):=rfl
theorem Xe:Big 200 3:=⟨⟨_,underlying200,rfl⟩,by kernel_rfl⟩
def kG:Rec ko:=fun _ _ x c=>c=mq x
theorem kG.map:fC kG:=by intro G H w w2 _ _ x c h;exact h
theorem kG.is {G:Nat->Prop} {w:U} {x:ko} {c:Array V} (h:kG G w x c):c.size=3/\c.all (·.oneCell')=true:=by
 subst h;exact⟨ag8 x,ag7 x⟩
def mo (x:j_):Array V:=#[.string x.nm,.int .i64 x.ln,.int .i64 x.sp]
theorem agD (x:j_):(mo x).size=3:=rfl
theorem agC (x:j_):(mo x).all (·.oneCell')=true:=by unfold mo;simp[af]
theorem LY (x:j_):(mo x)[0]?=X (.string x.nm):=rfl
theorem agA (x:j_):(mo x)[1]?=X (.int .i64 x.ln):=rfl
theorem agB (x:j_):(mo x)[2]?=X (.int .i64 x.sp):=rfl
theorem Xd:Big 204 3:=⟨⟨_,underlying204,rfl⟩,by kernel_rfl⟩
def kF:Rec j_:=fun _ _ x c=>c=mo x
theorem kF.map:fC kF:=by intro G H w w2 _ _ x c h;exact h
theorem kF.is {G:Nat->Prop} {w:U} {x:j_} {c:Array V} (h:kF G w x c):c.size=3/\c.all (·.oneCell')=true:=by
 subst h;exact⟨agD x,agC x⟩
def iy (x:eZ):Array V:=#[.string x.nm,.int .i64 x.ty]
theorem agI (x:eZ):(iy x).size=2:=rfl
theorem agH (x:eZ):(iy x).all (·.oneCell')=true:=by unfold iy;simp[af]
theorem agG (x:eZ):(iy x)[0]?=X (.string x.nm):=rfl
theorem Xv (x:eZ):(iy x)[1]?=X (.int .i64 x.ty):=rfl
theorem agk:Big 239 2:=⟨⟨_,underlying239,rfl⟩,by kernel_rfl⟩
def dI:Rec eZ:=fun _ _ x c=>c=iy x
theorem dI.map:fC dI:=by intro G H w w2 _ _ x c h;exact h
theorem dI.is {G:Nat->Prop} {w:U} {x:eZ} {c:Array V} (h:dI G w x c):c.size=2/\c.all (·.oneCell')=true:=by
 subst h;exact⟨agI x,agH x⟩
def i_ (x:jD):Array V:=#[.int .i64 x.co,.string x.wh,.string x.nm]
theorem ahb (x:jD):(i_ x).size=3:=rfl
theorem aha (x:jD):(i_ x).all (·.oneCell')=true:=by unfold i_;simp[af]
theorem X0 (x:jD):(i_ x)[0]?=X (.int .i64 x.co):=rfl
theorem ag9 (x:jD):(i_ x)[1]?=X (.string x.wh):=rfl
theorem ag_ (x:jD):(i_ x)[2]?=X (.string x.nm):=rfl
theorem agp:Big 263 3:=⟨⟨_,underlying263,rfl⟩,by kernel_rfl⟩
def jI:Rec jD:=fun _ _ x c=>c=i_ x
theorem jI.map:fC jI:=by intro G H w w2 _ _ x c h;exact h
theorem jI.is {G:Nat->Prop} {w:U} {x:jD} {c:Array V} (h:jI G w x c):c.size=3/\c.all (·.oneCell')=true:=by
 subst h;exact⟨ahb x,aha x⟩
def qI (x:iY):Array V:=#[.string x.fr,.string x.tt,.int .i64 x.de]
theorem agK (x:iY):(qI x).size=3:=rfl
theorem agJ (x:iY):(qI x).all (·.oneCell')=true:=by unfold qI;simp[af]
theorem Xw (x:iY):(qI x)[0]?=X (.string x.fr):=rfl
theorem Xx (x:iY):(qI x)[1]?=X (.string x.tt):=rfl
theorem Xy (x:iY):(qI x)[2]?=X (.int .i64 x.de):=rfl
theorem agm:Big 139 3:=⟨⟨_,underlying139,rfl⟩,by kernel_rfl⟩
def nP:Rec iY:=fun _ _ x c=>c=qI x
theorem nP.map:fC nP:=by intro G H w w2 _ _ x c h;exact h
theorem nP.is {G:Nat->Prop} {w:U} {x:iY} {c:Array V} (h:nP G w x c):c.size=3/\c.all (·.oneCell')=true:=by
 subst h;exact⟨agK x,agJ x⟩
structure eO where
 EC:Option aj
 EB:Nat
 Gx:Nat
 u_:Option aj
 uZ:Nat
 yK:Nat
 vg:Option aj
 ve:Nat
 yL:Nat
 uz:Option aj
 uy:Nat
 xC:Nat
 uH:Option aj
 uC:Nat
 xD:Nat
def d_ (x:dx) (P:eO):Array V:=#[.string x.nm,.int .i64 x.un,.slice P.EC P.EB P.Gx,.int .i64 x.cy,.string x.fs,.int .i64 x.up.op,.int .i64 x.up.a,.int .i64 x.up.b,.int .i64 x.up.n,.slice P.u_ P.uZ P.yK,.slice P.vg P.ve P.yL,.int .i64 x.dn.op,.int .i64 x.dn.a,.int .i64 x.dn.b,.int .i64 x.dn.n,.slice P.uz P.uy P.xC,.slice P.uH P.uC P.xD]
theorem ag1 (x:dx) (P:eO):(d_ x P).size=17:=rfl
theorem Du (x:dx) (P:eO):(d_ x P).all (·.oneCell')=true:=by unfold d_;simp[af]
theorem QU (x:dx) (P:eO):(d_ x P)[0]?=X (.string x.nm):=rfl
theorem agN (x:dx) (P:eO):(d_ x P)[1]?=X (.int .i64 x.un):=rfl
theorem XD (x:dx) (P:eO):(d_ x P)[2]?=X (.slice P.EC P.EB P.Gx):=rfl
theorem XE (x:dx) (P:eO):(d_ x P)[3]?=X (.int .i64 x.cy):=rfl
theorem agV (x:dx) (P:eO):(d_ x P)[4]?=X (.string x.fs):=rfl
theorem agW (x:dx) (P:eO):(d_ x P)[5]?=X (.int .i64 x.up.op):=rfl
theorem agX (x:dx) (P:eO):(d_ x P)[6]?=X (.int .i64 x.up.a):=rfl
theorem agY (x:dx) (P:eO):(d_ x P)[7]?=X (.int .i64 x.up.b):=rfl
theorem agZ (x:dx) (P:eO):(d_ x P)[8]?=X (.int .i64 x.up.n):=rfl
theorem ag0 (x:dx) (P:eO):(d_ x P)[9]?=X (.slice P.u_ P.uZ P.yK):=rfl
theorem agO (x:dx) (P:eO):(d_ x P)[10]?=X (.slice P.vg P.ve P.yL):=rfl
theorem agP (x:dx) (P:eO):(d_ x P)[11]?=X (.int .i64 x.dn.op):=rfl
theorem agQ (x:dx) (P:eO):(d_ x P)[12]?=X (.int .i64 x.dn.a):=rfl
theorem agR (x:dx) (P:eO):(d_ x P)[13]?=X (.int .i64 x.dn.b):=rfl
theorem agS (x:dx) (P:eO):(d_ x P)[14]?=X (.int .i64 x.dn.n):=rfl
theorem agT (x:dx) (P:eO):(d_ x P)[15]?=X (.slice P.uz P.uy P.xC):=rfl
theorem agU (x:dx) (P:eO):(d_ x P)[16]?=X (.slice P.uH P.uC P.xD):=rfl
theorem Bz:Big 194 17:=⟨⟨_,underlying194,rfl⟩,by kernel_rfl⟩
structure nN (G:Nat->Prop) (w:U) (x:dx) (P:eO):Prop where
 sh:Rw 2 jd G w x.sh P.EC P.EB
 upv:Ints G w x.up.vs P.u_ P.uZ
 upw:Ints G w x.up.ws P.vg P.ve
 YJ:Ints G w x.dn.vs P.uz P.uy
 YK:Ints G w x.dn.ws P.uH P.uC
theorem nN.map {G H:Nat->Prop} {w w2:U} (hs:w.heap.size<=w2.heap.size) (hk:∀b,G b->b<w.heap.size->H b/\w2.heap[b]?=w.heap[b]?) {x:dx} {P:eO} (h:nN G w x P):nN H w2 x P:=
 ⟨h.sh.map jd.map hs hk,h.upv.map hs hk,h.upw.map hs hk,h.YJ.map hs hk,h.YK.map hs hk⟩
theorem nN.on {w w2:U} (hb:ai w.heap.size w w2) {x:dx} {P:eO} (h:nN (Lo w.heap.size) w x P):nN (Lo w2.heap.size) w2 x P:=h.map hb.size fun b g _=>⟨ag g hb.size,hb.block b g⟩
theorem nN.all {G:Nat->Prop} {w:U} {x:dx} {P:eO} (h:nN G w x P):nN (Lo w.heap.size) w x P:=h.map (ak _) fun b _ hb=>⟨hb,rfl⟩
def je:Rec dx:=fun G w x c=>∃P,c=d_ x P/\nN G w x P
theorem je.map:fC je:=by intro G H w w2 hs hk x c ⟨P,h1,h2⟩;exact⟨P,h1,h2.map hs hk⟩
theorem je.is {G:Nat->Prop} {w:U} {x:dx} {c:Array V} (h:je G w x c):c.size=17/\c.all (·.oneCell')=true:=by
 obtain⟨P,rfl,-⟩:=h;exact⟨ag1 x P,Du x P⟩
structure qC where
 Gs:Option aj
 nY:Nat
 NK:Nat
 Nn:Option aj
 JG:Nat
 TB:Nat
 Dp:Option aj
 Dm:Nat
 Fw:Nat
def kr (x:fD) (P:qC):Array V:=#[.string x.nm,.slice P.Gs P.nY P.NK,.slice P.Nn P.JG P.TB,.slice P.Dp P.Dm P.Fw]
theorem ag3 (x:fD) (P:qC):(kr x P).size=4:=rfl
theorem QV (x:fD) (P:qC):(kr x P).all (·.oneCell')=true:=by unfold kr;simp[af]
theorem L8 (x:fD) (P:qC):(kr x P)[0]?=X (.string x.nm):=rfl
theorem XF (x:fD) (P:qC):(kr x P)[1]?=X (.slice P.Gs P.nY P.NK):=rfl
theorem ag2 (x:fD) (P:qC):(kr x P)[2]?=X (.slice P.Nn P.JG P.TB):=rfl
theorem XG (x:fD) (P:qC):(kr x P)[3]?=X (.slice P.Dp P.Dm P.Fw):=rfl
theorem LJ:Big 210 4:=⟨⟨_,underlying210,rfl⟩,by kernel_rfl⟩
structure oV (G:Nat->Prop) (w:U) (x:fD) (P:qC):Prop where
 ps:Rw 2 dI G w x.ps P.Gs P.nY
 ls:Rw 2 dI G w x.ls P.Nn P.JG
 bo:dE G w x.bo P.Dp P.Dm
theorem oV.map {G H:Nat->Prop} {w w2:U} (hs:w.heap.size<=w2.heap.size) (hk:∀b,G b->b<w.heap.size->H b/\w2.heap[b]?=w.heap[b]?) {x:fD} {P:qC} (h:oV G w x P):oV H w2 x P:=
 ⟨h.ps.map dI.map hs hk,h.ls.map dI.map hs hk,h.bo.map hs hk⟩
theorem oV.on {w w2:U} (hb:ai w.heap.size w w2) {x:fD} {P:qC} (h:oV (Lo w.heap.size) w x P):oV (Lo w2.heap.size) w2 x P:=h.map hb.size fun b g _=>⟨ag g hb.size,hb.block b g⟩
theorem oV.all {G:Nat->Prop} {w:U} {x:fD} {P:qC} (h:oV G w x P):oV (Lo w.heap.size) w x P:=h.map (ak _) fun b _ hb=>⟨hb,rfl⟩
def il:Rec fD:=fun G w x c=>∃P,c=kr x P/\oV G w x P
theorem il.map:fC il:=by intro G H w w2 hs hk x c ⟨P,h1,h2⟩;exact⟨P,h1,h2.map hs hk⟩
theorem il.is {G:Nat->Prop} {w:U} {x:fD} {c:Array V} (h:il G w x c):c.size=4/\c.all (·.oneCell')=true:=by
 obtain⟨P,rfl,-⟩:=h;exact⟨ag3 x P,QV x P⟩
structure qD where
 Fj:Option aj
 arm:Nat
 Qt:Nat
def jq (x:jf) (P:qD):Array V:=#[.string x.ro,.slice P.Fj P.arm P.Qt,.int .i64 x.a,.int .i64 x.e,.int .i64 x.u]
theorem XL (x:jf) (P:qD):(jq x P).size=5:=rfl
theorem L9 (x:jf) (P:qD):(jq x P).all (·.oneCell')=true:=by unfold jq;simp[af]
theorem ag4 (x:jf) (P:qD):(jq x P)[0]?=X (.string x.ro):=rfl
theorem XH (x:jf) (P:qD):(jq x P)[1]?=X (.slice P.Fj P.arm P.Qt):=rfl
theorem XI (x:jf) (P:qD):(jq x P)[2]?=X (.int .i64 x.a):=rfl
theorem XJ (x:jf) (P:qD):(jq x P)[3]?=X (.int .i64 x.e):=rfl
theorem XK (x:jf) (P:qD):(jq x P)[4]?=X (.int .i64 x.u):=rfl
theorem LK:Big 214 5:=⟨⟨_,underlying214,rfl⟩,by kernel_rfl⟩
structure oz (G:Nat->Prop) (w:U) (x:jf) (P:qD):Prop where
 ar:Ints G w x.ar P.Fj P.arm
theorem oz.map {G H:Nat->Prop} {w w2:U} (hs:w.heap.size<=w2.heap.size) (hk:∀b,G b->b<w.heap.size->H b/\w2.heap[b]?=w.heap[b]?) {x:jf} {P:qD} (h:oz G w x P):oz H w2 x P:=
 ⟨h.ar.map hs hk⟩
theorem oz.on {w w2:U} (hb:ai w.heap.size w w2) {x:jf} {P:qD} (h:oz (Lo w.heap.size) w x P):oz (Lo w2.heap.size) w2 x P:=h.map hb.size fun b g _=>⟨ag g hb.size,hb.block b g⟩
theorem oz.all {G:Nat->Prop} {w:U} {x:jf} {P:qD} (h:oz G w x P):oz (Lo w.heap.size) w x P:=h.map (ak _) fun b _ hb=>⟨hb,rfl⟩
def lq:Rec jf:=fun G w x c=>∃P,c=jq x P/\oz G w x P
theorem lq.map:fC lq:=by intro G H w w2 hs hk x c ⟨P,h1,h2⟩;exact⟨P,h1,h2.map hs hk⟩
theorem lq.is {G:Nat->Prop} {w:U} {x:jf} {c:Array V} (h:lq G w x c):c.size=5/\c.all (·.oneCell')=true:=by
 obtain⟨P,rfl,-⟩:=h;exact⟨XL x P,L9 x P⟩
structure sO where
 Om:Option aj
 EJ:Nat
 UU:Nat
def jJ (x:Lw) (P:sO):Array V:=#[.string x.nm,.slice P.Om P.EJ P.UU,.int .i64 x.tt]
theorem agL (x:Lw) (P:sO):(jJ x P).size=3:=rfl
theorem L6 (x:Lw) (P:sO):(jJ x P).all (·.oneCell')=true:=by unfold jJ;simp[af]
theorem LZ (x:Lw) (P:sO):(jJ x P)[0]?=X (.string x.nm):=rfl
theorem Xz (x:Lw) (P:sO):(jJ x P)[1]?=X (.slice P.Om P.EJ P.UU):=rfl
theorem QN (x:Lw) (P:sO):(jJ x P)[2]?=X (.int .i64 x.tt):=rfl
theorem LH:Big 233 3:=⟨⟨_,underlying233,rfl⟩,by kernel_rfl⟩
structure oU (G:Nat->Prop) (w:U) (x:Lw) (P:sO):Prop where
 ts:Rw 3 jI G w x.ts P.Om P.EJ
theorem oU.map {G H:Nat->Prop} {w w2:U} (hs:w.heap.size<=w2.heap.size) (hk:∀b,G b->b<w.heap.size->H b/\w2.heap[b]?=w.heap[b]?) {x:Lw} {P:sO} (h:oU G w x P):oU H w2 x P:=
 ⟨h.ts.map jI.map hs hk⟩
theorem oU.on {w w2:U} (hb:ai w.heap.size w w2) {x:Lw} {P:sO} (h:oU (Lo w.heap.size) w x P):oU (Lo w2.heap.size) w2 x P:=h.map hb.size fun b g _=>⟨ag g hb.size,hb.block b g⟩
theorem oU.all {G:Nat->Prop} {w:U} {x:Lw} {P:sO} (h:oU G w x P):oU (Lo w.heap.size) w x P:=h.map (ak _) fun b _ hb=>⟨hb,rfl⟩
def lh:Rec Lw:=fun G w x c=>∃P,c=jJ x P/\oU G w x P
theorem lh.map:fC lh:=by intro G H w w2 hs hk x c ⟨P,h1,h2⟩;exact⟨P,h1,h2.map hs hk⟩
theorem lh.is {G:Nat->Prop} {w:U} {x:Lw} {c:Array V} (h:lh G w x c):c.size=3/\c.all (·.oneCell')=true:=by
 obtain⟨P,rfl,-⟩:=h;exact⟨agL x P,L6 x P⟩
structure fe where
 yP:Option aj
 yO:Nat
 yN:Nat
 wS:Option aj
 wR:Nat
 qQ:Nat
 wT:Option aj
 fJ:Nat
 yB:Nat
 vM:Option aj
 vL:Nat
 xw:Nat
 yn:Option aj
 ym:Nat
 yj:Nat
 uX:Option aj
 uW:Nat
 uV:Nat
 yD:Option aj
 yC:Nat
 tac:Nat
 xP:Option aj
 xO:Nat
 xN:Nat
 xB:Option aj
 xA:Nat
 xz:Nat
 yt:Option aj
 tJ:Nat
 A7:Nat
 Ci:Option aj
 Ch:Nat
 EE:Nat
 Jz:Option aj
 lam:Nat
 Ni:Nat
def cK (x:cZ) (P:fe):Array V:=#[.string x.nm,.slice P.yP P.yO P.yN,.slice P.wS P.wR P.qQ,.slice P.wT P.fJ P.yB,.slice P.vM P.vL P.xw,.slice P.yn P.ym P.yj,.slice P.uX P.uW P.uV,.slice P.yD P.yC P.tac,.slice P.xP P.xO P.xN,.slice P.xB P.xA P.xz,.slice P.yt P.tJ P.A7,.slice P.Ci P.Ch P.EE,.slice P.Jz P.lam P.Ni]
theorem QZ (x:cZ) (P:fe):(cK x P).size=13:=rfl
theorem XZ (x:cZ) (P:fe):(cK x P).all (·.oneCell')=true:=by unfold cK;simp[af]
theorem QW (x:cZ) (P:fe):(cK x P)[0]?=X (.string x.nm):=rfl
theorem XM (x:cZ) (P:fe):(cK x P)[1]?=X (.slice P.yP P.yO P.yN):=rfl
theorem XR (x:cZ) (P:fe):(cK x P)[2]?=X (.slice P.wS P.wR P.qQ):=rfl
theorem XT (x:cZ) (P:fe):(cK x P)[3]?=X (.slice P.wT P.fJ P.yB):=rfl
theorem XU (x:cZ) (P:fe):(cK x P)[4]?=X (.slice P.vM P.vL P.xw):=rfl
theorem XV (x:cZ) (P:fe):(cK x P)[5]?=X (.slice P.yn P.ym P.yj):=rfl
theorem QY (x:cZ) (P:fe):(cK x P)[6]?=X (.slice P.uX P.uW P.uV):=rfl
theorem XW (x:cZ) (P:fe):(cK x P)[7]?=X (.slice P.yD P.yC P.tac):=rfl
theorem XX (x:cZ) (P:fe):(cK x P)[8]?=X (.slice P.xP P.xO P.xN):=rfl
theorem XY (x:cZ) (P:fe):(cK x P)[9]?=X (.slice P.xB P.xA P.xz):=rfl
theorem L_ (x:cZ) (P:fe):(cK x P)[10]?=X (.slice P.yt P.tJ P.A7):=rfl
theorem XN (x:cZ) (P:fe):(cK x P)[11]?=X (.slice P.Ci P.Ch P.EE):=rfl
theorem XP (x:cZ) (P:fe):(cK x P)[12]?=X (.slice P.Jz P.lam P.Ni):=rfl
theorem LM:Big 50 13:=⟨⟨_,underlying50,rfl⟩,by kernel_rfl⟩
structure jc (G:Nat->Prop) (w:U) (x:cZ) (P:fe):Prop where
 va:Rw 3 iI G w x.va P.yP P.yO
 rs:Rw 17 je G w x.rs P.wS P.wR
 st:Rw 3 kG G w x.st P.wT P.fJ
 be:Rw 3 kF G w x.be P.vM P.vL
 qu:Rw 1 dZ G w x.qu P.yn P.ym
 sm:Rw 1 dZ G w x.sm P.uX P.uW
 ta:Rw 1 dZ G w x.ta P.yD P.yC
 le:Rw 1 dZ G w x.le P.xP P.xO
 co:Rw 1 dZ G w x.co P.xB P.xA
 ro:Rw 4 il G w x.ro P.yt P.tJ
 ss:Rw 5 lq G w x.ss P.Ci P.Ch
 la:Rw 3 lh G w x.la P.Jz P.lam
theorem jc.map {G H:Nat->Prop} {w w2:U} (hs:w.heap.size<=w2.heap.size) (hk:∀b,G b->b<w.heap.size->H b/\w2.heap[b]?=w.heap[b]?) {x:cZ} {P:fe} (h:jc G w x P):jc H w2 x P:=
 ⟨h.va.map iI.map hs hk,h.rs.map je.map hs hk,h.st.map kG.map hs hk,h.be.map kF.map hs hk,h.qu.map dZ.map hs hk,h.sm.map dZ.map hs hk,h.ta.map dZ.map hs hk,h.le.map dZ.map hs hk,h.co.map dZ.map hs hk,h.ro.map il.map hs hk,h.ss.map lq.map hs hk,h.la.map lh.map hs hk⟩
theorem jc.on {w w2:U} (hb:ai w.heap.size w w2) {x:cZ} {P:fe} (h:jc (Lo w.heap.size) w x P):jc (Lo w2.heap.size) w2 x P:=h.map hb.size fun b g _=>⟨ag g hb.size,hb.block b g⟩
theorem jc.all {G:Nat->Prop} {w:U} {x:cZ} {P:fe} (h:jc G w x P):jc (Lo w.heap.size) w x P:=h.map (ak _) fun b _ hb=>⟨hb,rfl⟩
def g_:Rec cZ:=fun G w x c=>∃P,c=cK x P/\jc G w x P
theorem g_.map:fC g_:=by intro G H w w2 hs hk x c ⟨P,h1,h2⟩;exact⟨P,h1,h2.map hs hk⟩
theorem g_.is {G:Nat->Prop} {w:U} {x:cZ} {c:Array V} (h:g_ G w x c):c.size=13/\c.all (·.oneCell')=true:=by
 obtain⟨P,rfl,-⟩:=h;exact⟨QZ x P,XZ x P⟩
structure lN where
 pap:Option aj
 El:Nat
 Ej:Nat
 zM:Option aj
 yu:Nat
 Cc:Nat
 Gh:Option aj
 lim:Nat
 JD:Nat
def dX (x:dM) (P:lN):Array V:=#[.string x.nm,.slice P.pap P.El P.Ej,.slice P.zM P.yu P.Cc,.slice P.Gh P.lim P.JD]
theorem agM (x:dM) (P:lN):(dX x P).size=4:=rfl
theorem XB (x:dM) (P:lN):(dX x P).all (·.oneCell')=true:=by unfold dX;simp[af]
theorem QQ (x:dM) (P:lN):(dX x P)[0]?=X (.string x.nm):=rfl
theorem QR (x:dM) (P:lN):(dX x P)[1]?=X (.slice P.pap P.El P.Ej):=rfl
theorem QT (x:dM) (P:lN):(dX x P)[2]?=X (.slice P.zM P.yu P.Cc):=rfl
theorem XA (x:dM) (P:lN):(dX x P)[3]?=X (.slice P.Gh P.lim P.JD):=rfl
theorem agn:Big 36 4:=⟨⟨_,underlying36,rfl⟩,by kernel_rfl⟩
structure jS (G:Nat->Prop) (w:U) (x:dM) (P:lN):Prop where
 pa:Rw 3 iI G w x.pa P.pap P.El
 si:Rw 13 g_ G w x.si P.zM P.yu
 li:Rw 3 nP G w x.li P.Gh P.lim
theorem jS.map {G H:Nat->Prop} {w w2:U} (hs:w.heap.size<=w2.heap.size) (hk:∀b,G b->b<w.heap.size->H b/\w2.heap[b]?=w.heap[b]?) {x:dM} {P:lN} (h:jS G w x P):jS H w2 x P:=
 ⟨h.pa.map iI.map hs hk,h.si.map g_.map hs hk,h.li.map nP.map hs hk⟩
theorem jS.on {w w2:U} (hb:ai w.heap.size w w2) {x:dM} {P:lN} (h:jS (Lo w.heap.size) w x P):jS (Lo w2.heap.size) w2 x P:=h.map hb.size fun b g _=>⟨ag g hb.size,hb.block b g⟩
theorem jS.all {G:Nat->Prop} {w:U} {x:dM} {P:lN} (h:jS G w x P):jS (Lo w.heap.size) w x P:=h.map (ak _) fun b _ hb=>⟨hb,rfl⟩
def Ah:Rec dM:=fun G w x c=>∃P,c=dX x P/\jS G w x P
theorem Ah.map:fC Ah:=by intro G H w w2 hs hk x c ⟨P,h1,h2⟩;exact⟨P,h1,h2.map hs hk⟩
theorem Ah.is {G:Nat->Prop} {w:U} {x:dM} {c:Array V} (h:Ah G w x c):c.size=4/\c.all (·.oneCell')=true:=by
 obtain⟨P,rfl,-⟩:=h;exact⟨agM x P,XB x P⟩
end Md
namespace Md
open Go.RowKit
open Na (bs fst)
open Ex (Lo Gives take_one nZ)
def ib {α:Type} (f:α->Bool):List α->Int
 | []=>-1
 | x::t=>if f x=true then 0 else if ib f t = -1 then -1 else ib f t+1
theorem Td {α:Type} {f:α->Bool}:∀l:List α,-1<=ib f l
 | []=>by unfold ib;omega
 | x::t=>by
  have:=Td (f:=f) t;unfold ib
  split
  · omega
  · split <;> omega
theorem Tc {α:Type} {f:α->Bool}:∀{a b:List α},ib f a = -1->ib f (a++b)=if ib f b = -1 then -1 else a.length+ib f b
 | [],b,_=>by
  rw[List.nil_append]
  split
  · assumption
  · simp
 | x::t,b,h=>by
  rw[List.cons_append,ib];rw[ib] at h;by_cases hx:f x=true
  · rw[if_pos hx] at h;omega
  · rw[if_neg hx] at h ⊢;have h0:=Td (f:=f) t;have h1:=Td (f:=f) b;by_cases ht:ib f t = -1
    · rw[Tc ht];by_cases hb:ib f b = -1
      · rw[if_pos hb,if_pos hb,if_pos rfl]
      · rw[if_neg hb,if_neg hb,if_neg bU,List.length_cons];omega
    · rw[if_neg ht] at h;omega
theorem akx {α:Type} {f:α->Bool} {l:List α} {k:Nat} {x:α} (hx:l[k]?=X x) (h:ib f (l.take k) = -1) (g:f x=false):ib f (l.take (k+1)) = -1:=by
 rw[take_one hx,Tc h];have:ib f [x] = -1:=by unfold ib;rw[g];rfl
 rw[if_pos this]
theorem akw {α:Type} {f:α->Bool} {l:List α} {k:Nat} {x:α} (hx:l[k]?=X x) (h:ib f (l.take k) = -1) (g:f x=true):ib f l=(k:Int):=by
 obtain⟨hk,e⟩:=List.getElem?_eq_some_iff.1 hx;have h1:=List.take_append_drop k l;rw[List.drop_eq_getElem_cons hk,e] at h1;have h2:=Tc (b:=x::l.drop (k+1)) h;rw[h1] at h2;have h3:ib f (x::l.drop (k+1))=0:=by unfold ib;rw[if_pos g]
 rw[h2,h3,if_neg bU,List.length_take];omega
theorem DT {α:Type} {nm:α->ByteArray} {s:ByteArray}:∀{l:List α},ib (fun x=>gP (nm x) s) l=fst (l.map nm) s
 | []=>rfl
 | x::t=>by
  rw[List.map_cons,ZW,ib,DT];have:(gP (nm x) s=true)=(bs (nm x)=bs s):=by unfold gP;rw[decide_eq_true_eq]
  simp only[this]
theorem Cn (a b:ByteArray):(a.toList==b.toList)=gP a b:=by
 unfold gP;by_cases h:bs a=bs b
 · rw[decide_eq_true h];exact Na.nS h
 · rw[decide_eq_false h];exact Na.pE h
theorem as_ {p:Prop} (h:p:=by
 have ld1:=dR.gJ hcsz;have pI:=dR.uM bt;have pJ:=dR.wM bt;obtain⟨x,hx⟩:∃x,l[k]=x:=⟨_,rfl⟩
 rw[hx] at HX HR;clear hcell hcs hat dR bt hR hx hkl;go_wp2_with fail;refine(hc.out x c _ HR.out HW.out).mono ?_;rintro e w2 ⟨rfl,hb2⟩;have HW2:Hid (ai w.heap.size w w2):=ay rq;clear ld1 pI pJ hb2
 cases hr:f x
 · have H:=ay (akx HX.out HA.out hr);clear hr;go_wp2_with fail;go_roundw
   case rel=>exact⟨k+1,by omega,by go_num,HW2,H⟩
   case measure=>simp[intOf];omega
 · have H:=ay (akw HX.out HA.out hr);clear hr;go_wp2_with fail;go_ret;exact⟨nZ H.out.symm,HW2.out⟩
 ):p:=h
theorem ata {p:Prop} (h:p:=by
 obtain rfl:m=k:=by omega
 have HT:=ay (show ib f l = -1 by have h1:=HA.out;rwa [List.take_of_length_le t_] at h1);go_wp2_with fail;go_ret;exact⟨nZ HT.out.symm,HW.out⟩
 ):p:=h
theorem akC {l:List cZ} {p:Option aj} {m c:Nat} {w:U} (hl:Hid (Rw 13 g_ (Lo w.heap.size) w l p m)) (bnd cap:Array V) (f:cZ->Bool)
 (hc:Hid (∀x c W,g_ (Lo W.heap.size) W x c->ai w.heap.size w W->au ae 158 (bnd.push (.agg c)++cap) W (Gives (.bool (f x)) W))) :
 au ae 157 #[.slice p m c,.func (.func 158) bnd cap] w (Gives (.int .i64 (ib f l)) w):=by
 obtain⟨hlm,hm⟩:=hl.out.len;have HL:=ay hlm;have t3:(m:Int)<=9223372036854775807:=by omega
 clear hlm hm;obtain⟨kk,hkk⟩:∃n:Nat,13=n:=⟨_,rfl⟩
 have hsz:∀w,(sizeOf 50).run ae w=.ok kk w:=fun w=>by rw[sizeOf50,hkk]
 have HKK:=ay hkk;clear hkk;go_enter func157,ntmps157;go_wp2_with fail;go_loopw [8] (fun i wr=>∃k:Nat,k<=m/\i=.int .i64 (k:Nat)/\Hid (ai w.heap.size w wr)/\Hid (ib f (l.take k) = -1)) (fun i _=>m-(intOf i).toNat)
 case atStart=>exact⟨0,az _,rfl,ay (aA _ _),ay rfl⟩
 case round=>
  obtain⟨k,hk,rfl,HW,HA⟩:=hrel;have k0:(0:Int)<=(k:Int):=by omega
  rcases ax k m with h|h
  · have k1:(k:Int)<(m:Int):=by omega
    have hkl:k<l.length:=by rw[HL.out];exact h
    have HX:=ay (ah hkl);obtain⟨b,o,rfl,mD,hG,hcell⟩:=(hl.out.below g_.map HW.out).rows bU;obtain⟨c,hcs,hat,hR⟩:=hcell.out k hkl;have HC:=ay hcs;have HR:=ay (g_.map.all hR);have hcsz:c.size=kk:=by rw[HC.out,HKK.out]
    have dR:=hat.at HKK.out;have bt:Big 50 c.size:=by rw[HC.out];exact LM
    exact as_
  · exact ata
theorem akB {l:List fD} {p:Option aj} {m c:Nat} {w:U} (hl:Hid (Rw 4 il (Lo w.heap.size) w l p m)) (bnd cap:Array V) (f:fD->Bool)
 (hc:Hid (∀x c W,il (Lo W.heap.size) W x c->ai w.heap.size w W->au ae 223 (bnd.push (.agg c)++cap) W (Gives (.bool (f x)) W))) :
 au ae 222 #[.slice p m c,.func (.func 223) bnd cap] w (Gives (.int .i64 (ib f l)) w):=by
 obtain⟨hlm,hm⟩:=hl.out.len;have HL:=ay hlm;have t3:(m:Int)<=9223372036854775807:=by omega
 clear hlm hm;obtain⟨kk,hkk⟩:∃n:Nat,4=n:=⟨_,rfl⟩
 have hsz:∀w,(sizeOf 210).run ae w=.ok kk w:=fun w=>by rw[sizeOf210,hkk]
 have HKK:=ay hkk;clear hkk;go_enter func222,ntmps222;go_wp2_with fail;go_loopw [8] (fun i wr=>∃k:Nat,k<=m/\i=.int .i64 (k:Nat)/\Hid (ai w.heap.size w wr)/\Hid (ib f (l.take k) = -1)) (fun i _=>m-(intOf i).toNat)
 case atStart=>exact⟨0,az _,rfl,ay (aA _ _),ay rfl⟩
 case round=>
  obtain⟨k,hk,rfl,HW,HA⟩:=hrel;have k0:(0:Int)<=(k:Int):=by omega
  rcases ax k m with h|h
  · have k1:(k:Int)<(m:Int):=by omega
    have hkl:k<l.length:=by rw[HL.out];exact h
    have HX:=ay (ah hkl);obtain⟨b,o,rfl,mD,hG,hcell⟩:=(hl.out.below il.map HW.out).rows bU;obtain⟨c,hcs,hat,hR⟩:=hcell.out k hkl;have HC:=ay hcs;have HR:=ay (il.map.all hR);have hcsz:c.size=kk:=by rw[HC.out,HKK.out]
    have dR:=hat.at HKK.out;have bt:Big 210 c.size:=by rw[HC.out];exact LJ
    exact as_
  · exact ata
theorem akE {l:List Val} {p:Option aj} {m c:Nat} {w:U} (hl:Hid (Rw 3 iI (Lo w.heap.size) w l p m)) (bnd cap:Array V) (f:Val->Bool)
 (hc:Hid (∀x c W,iI (Lo W.heap.size) W x c->ai w.heap.size w W->au ae 257 (bnd.push (.agg c)++cap) W (Gives (.bool (f x)) W))) :
 au ae 256 #[.slice p m c,.func (.func 257) bnd cap] w (Gives (.int .i64 (ib f l)) w):=by
 obtain⟨hlm,hm⟩:=hl.out.len;have HL:=ay hlm;have t3:(m:Int)<=9223372036854775807:=by omega
 clear hlm hm;obtain⟨kk,hkk⟩:∃n:Nat,3=n:=⟨_,rfl⟩
 have hsz:∀w,(sizeOf 103).run ae w=.ok kk w:=fun w=>by rw[sizeOf103,hkk]
 have HKK:=ay hkk;clear hkk;go_enter func256,ntmps256;go_wp2_with fail;go_loopw [8] (fun i wr=>∃k:Nat,k<=m/\i=.int .i64 (k:Nat)/\Hid (ai w.heap.size w wr)/\Hid (ib f (l.take k) = -1)) (fun i _=>m-(intOf i).toNat)
 case atStart=>exact⟨0,az _,rfl,ay (aA _ _),ay rfl⟩
 case round=>
  obtain⟨k,hk,rfl,HW,HA⟩:=hrel;have k0:(0:Int)<=(k:Int):=by omega
  rcases ax k m with h|h
  · have k1:(k:Int)<(m:Int):=by omega
    have hkl:k<l.length:=by rw[HL.out];exact h
    have HX:=ay (ah hkl);obtain⟨b,o,rfl,mD,hG,hcell⟩:=(hl.out.below iI.map HW.out).rows bU;obtain⟨c,hcs,hat,hR⟩:=hcell.out k hkl;have HC:=ay hcs;have HR:=ay (iI.map.all hR);have hcsz:c.size=kk:=by rw[HC.out,HKK.out]
    have dR:=hat.at HKK.out;have bt:Big 103 c.size:=by rw[HC.out];exact Xf
    exact as_
  · exact ata
theorem akA {l:List dx} {p:Option aj} {m c:Nat} {w:U} (hl:Hid (Rw 17 je (Lo w.heap.size) w l p m)) (bnd cap:Array V) (f:dx->Bool)
 (hc:Hid (∀x c W,je (Lo W.heap.size) W x c->ai w.heap.size w W->au ae 259 (bnd.push (.agg c)++cap) W (Gives (.bool (f x)) W))) :
 au ae 258 #[.slice p m c,.func (.func 259) bnd cap] w (Gives (.int .i64 (ib f l)) w):=by
 obtain⟨hlm,hm⟩:=hl.out.len;have HL:=ay hlm;have t3:(m:Int)<=9223372036854775807:=by omega
 clear hlm hm;obtain⟨kk,hkk⟩:∃n:Nat,17=n:=⟨_,rfl⟩
 have hsz:∀w,(sizeOf 194).run ae w=.ok kk w:=fun w=>by rw[sizeOf194,hkk]
 have HKK:=ay hkk;clear hkk;go_enter func258,ntmps258;go_wp2_with fail;go_loopw [8] (fun i wr=>∃k:Nat,k<=m/\i=.int .i64 (k:Nat)/\Hid (ai w.heap.size w wr)/\Hid (ib f (l.take k) = -1)) (fun i _=>m-(intOf i).toNat)
 case atStart=>exact⟨0,az _,rfl,ay (aA _ _),ay rfl⟩
 case round=>
  obtain⟨k,hk,rfl,HW,HA⟩:=hrel;have k0:(0:Int)<=(k:Int):=by omega
  rcases ax k m with h|h
  · have k1:(k:Int)<(m:Int):=by omega
    have hkl:k<l.length:=by rw[HL.out];exact h
    have HX:=ay (ah hkl);obtain⟨b,o,rfl,mD,hG,hcell⟩:=(hl.out.below je.map HW.out).rows bU;obtain⟨c,hcs,hat,hR⟩:=hcell.out k hkl;have HC:=ay hcs;have HR:=ay (je.map.all hR);have hcsz:c.size=kk:=by rw[HC.out,HKK.out]
    have dR:=hat.at HKK.out;have bt:Big 194 c.size:=by rw[HC.out];exact Bz
    exact as_
  · exact ata
theorem akD {l:List ko} {p:Option aj} {m c:Nat} {w:U} (hl:Hid (Rw 3 kG (Lo w.heap.size) w l p m)) (bnd cap:Array V) (f:ko->Bool)
 (hc:Hid (∀x c W,kG (Lo W.heap.size) W x c->ai w.heap.size w W->au ae 261 (bnd.push (.agg c)++cap) W (Gives (.bool (f x)) W))) :
 au ae 260 #[.slice p m c,.func (.func 261) bnd cap] w (Gives (.int .i64 (ib f l)) w):=by
 obtain⟨hlm,hm⟩:=hl.out.len;have HL:=ay hlm;have t3:(m:Int)<=9223372036854775807:=by omega
 clear hlm hm;obtain⟨kk,hkk⟩:∃n:Nat,3=n:=⟨_,rfl⟩
 have hsz:∀w,(sizeOf 200).run ae w=.ok kk w:=fun w=>by rw[sizeOf200,hkk]
 have HKK:=ay hkk;clear hkk;go_enter func260,ntmps260;go_wp2_with fail;go_loopw [8] (fun i wr=>∃k:Nat,k<=m/\i=.int .i64 (k:Nat)/\Hid (ai w.heap.size w wr)/\Hid (ib f (l.take k) = -1)) (fun i _=>m-(intOf i).toNat)
 case atStart=>exact⟨0,az _,rfl,ay (aA _ _),ay rfl⟩
 case round=>
  obtain⟨k,hk,rfl,HW,HA⟩:=hrel;have k0:(0:Int)<=(k:Int):=by omega
  rcases ax k m with h|h
  · have k1:(k:Int)<(m:Int):=by omega
    have hkl:k<l.length:=by rw[HL.out];exact h
    have HX:=ay (ah hkl);obtain⟨b,o,rfl,mD,hG,hcell⟩:=(hl.out.below kG.map HW.out).rows bU;obtain⟨c,hcs,hat,hR⟩:=hcell.out k hkl;have HC:=ay hcs;have HR:=ay (kG.map.all hR);have hcsz:c.size=kk:=by rw[HC.out,HKK.out]
    have dR:=hat.at HKK.out;have bt:Big 200 c.size:=by rw[HC.out];exact Xe
    exact as_
  · exact ata
theorem akz {l:List j_} {p:Option aj} {m c:Nat} {w:U} (hl:Hid (Rw 3 kF (Lo w.heap.size) w l p m)) (bnd cap:Array V) (f:j_->Bool)
 (hc:Hid (∀x c W,kF (Lo W.heap.size) W x c->ai w.heap.size w W->au ae 263 (bnd.push (.agg c)++cap) W (Gives (.bool (f x)) W))) :
 au ae 262 #[.slice p m c,.func (.func 263) bnd cap] w (Gives (.int .i64 (ib f l)) w):=by
 obtain⟨hlm,hm⟩:=hl.out.len;have HL:=ay hlm;have t3:(m:Int)<=9223372036854775807:=by omega
 clear hlm hm;obtain⟨kk,hkk⟩:∃n:Nat,3=n:=⟨_,rfl⟩
 have hsz:∀w,(sizeOf 204).run ae w=.ok kk w:=fun w=>by rw[sizeOf204,hkk]
 have HKK:=ay hkk;clear hkk;go_enter func262,ntmps262;go_wp2_with fail;go_loopw [8] (fun i wr=>∃k:Nat,k<=m/\i=.int .i64 (k:Nat)/\Hid (ai w.heap.size w wr)/\Hid (ib f (l.take k) = -1)) (fun i _=>m-(intOf i).toNat)
 case atStart=>exact⟨0,az _,rfl,ay (aA _ _),ay rfl⟩
 case round=>
  obtain⟨k,hk,rfl,HW,HA⟩:=hrel;have k0:(0:Int)<=(k:Int):=by omega
  rcases ax k m with h|h
  · have k1:(k:Int)<(m:Int):=by omega
    have hkl:k<l.length:=by rw[HL.out];exact h
    have HX:=ay (ah hkl);obtain⟨b,o,rfl,mD,hG,hcell⟩:=(hl.out.below kF.map HW.out).rows bU;obtain⟨c,hcs,hat,hR⟩:=hcell.out k hkl;have HC:=ay hcs;have HR:=ay (kF.map.all hR);have hcsz:c.size=kk:=by rw[HC.out,HKK.out]
    have dR:=hat.at HKK.out;have bt:Big 204 c.size:=by rw[HC.out];exact Xd
    exact as_
  · exact ata
end Md
namespace Md
open Go.RowKit
open Na (bs kH)
def oW (v:V) (w:U) (e:Ending) (w':U):Prop:=e=.returned v/\w=w'
theorem as7 {p:Prop} (h:p:=by
 exact CQ
 ):p:=h
theorem LV (lo n hi:Int) (w:U):au ae 100 #[.int .i64 lo,.int .i64 n,.int .i64 hi] w (oW (.bool (iL lo n hi)) w):=by
 unfold iL;by_cases h1:lo<=n
 · by_cases h2:n<=hi
   · have d1:=decide_eq_true h1;have d2:=decide_eq_true h2;rw[d1,d2];go_enter func100,ntmps100;exact as7
   · have d1:=decide_eq_true h1;have d2:=decide_eq_false h2;rw[d1,d2];go_enter func100,ntmps100;exact as7
 · have d1:=decide_eq_false h1;rw[d1];go_enter func100,ntmps100;exact as7
theorem Dl {lo n hi:Int} {b:Bool} (h:iL lo n hi=b) (w:U):au ae 100 #[.int .i64 lo,.int .i64 n,.int .i64 hi] w (oW (.bool b) w):=by rw[← h];exact LV lo n hi w
theorem aaH (n:Int) (w:U):au ae 139 #[.int .i64 n] w (oW (.bool (sZ n)) w):=by
 go_enter func139,ntmps139;go_wp2_with fail;refine(LV 0 n 1000000000 w).mono ?_;exact VZ
theorem aaJ (n:Int) (w:U):au ae 187 #[.int .i64 n] w (oW (.bool (Jg n)) w):=by
 go_enter func187,ntmps187;go_wp2_with fail;refine(LV 0 n 1000 w).mono ?_;exact VZ
theorem UW (t:Int):t=1∨t=2∨t=3∨((t==1)=false/\(t==2)=false/\(t==3)=false/\¬t=1/\¬t=2/\¬t=3):=by
 by_cases h1:t=1
 · exact .inl h1
 by_cases h2:t=2
 · exact .inr (.inl h2)
 by_cases h3:t=3
 · exact .inr (.inr (.inl h3))
 exact .inr (.inr (.inr ⟨beq_eq_false_iff_ne.2 h1,beq_eq_false_iff_ne.2 h2,beq_eq_false_iff_ne.2 h3,h1,h2,h3⟩))
theorem aaI (t:Int) (w:U):au ae 92 #[.int .i64 t] w (oW (.bool (typ t)) w):=by
 rcases UW t with rfl|rfl|rfl|⟨e1,e2,e3,h1,h2,h3⟩
 · exact KW
 · exact KW
 · exact KW
 · have hz:typ t=false:=by unfold typ;rw[decide_eq_false h1,decide_eq_false h2,decide_eq_false h3];rfl
   rw[hz];clear hz h1 h2 h3;exact KW
theorem DU (n:Int) (w:U):au ae 138 #[.int .i64 n] w (oW (.bool (iL (-1000000000000) n 1000000000000)) w):=by
 unfold iL;by_cases h1:-1000000000000<=n
 · by_cases h2:n<=1000000000000
   · have d1:=decide_eq_true h1;have d2:=decide_eq_true h2;rw[d1,d2];go_enter func138,ntmps138;exact as7
   · have d1:=decide_eq_true h1;have d2:=decide_eq_false h2;rw[d1,d2];go_enter func138,ntmps138;exact as7
 · have d1:=decide_eq_false h1;rw[d1];go_enter func138,ntmps138;exact as7
theorem ZA (t n:Int) (w:U):au ae 93 #[.int .i64 t,.int .i64 n] w (oW (.bool (fits t n)) w):=by
 rcases UW t with rfl|rfl|rfl|⟨e1,e2,e3,h1,h2,h3⟩
 · go_enter func93,ntmps93;go_wp2_with fail;refine(DU n w).mono ?_;exact VZ
 · go_enter func93,ntmps93;go_wp2_with fail;refine(LV 0 n 1 w).mono ?_;exact VZ
 · go_enter func93,ntmps93;go_wp2_with fail;refine(aaH n w).mono ?_;exact VZ
 · have hz:fits t n=false:=by unfold fits;rw[if_neg h1,if_neg h2,if_neg h3]
   rw[hz];clear hz h1 h2 h3;go_enter func93,ntmps93;exact as7
theorem clash {x:Bool} (h:x=true) (g:x=false):False:=by rw[h] at g;cases g
theorem akG {s:ByteArray} {c:List UInt8} (h:(s.toList==c)=true):s=⟨c.toArray⟩:=by
 have g:=eq_of_beq h;rw[Lib.toList_data] at g;exact kH (by show bs s=_;unfold bs;simpa using g)
theorem Ee {s:ByteArray} {c:List UInt8} (h:(s.toList==c)=false):¬s=⟨c.toArray⟩:=by
 rintro rfl;rw[beq_eq_false_iff_ne] at h;exact h (by rw[Lib.toList_data])
theorem aid {s:ByteArray} (h1:¬s=UD) (h2:¬s=UF) (h3:¬s=UH) (h4:¬s=UJ) (h5:¬s=UG) (h6:¬s=UI) (h7:¬s=UE):FB s=Sm.nE:=by
 unfold FB;rw[if_neg (by simp[h1,h2,h3]),if_neg (by simp[h4,h5,h6]),if_neg h7]
theorem as5 {p:Prop} (h:p:=by assumption):p:=h
theorem aik (s:ByteArray) (w:U):au ae 233 #[.string s] w (oW (.string (FB s)) w):=by
 go_enter func233,ntmps233;go_wp2_with fail
 all_goals first
  | exact(clash as5 as5).elim
  | (go_ret;refine⟨?_,rfl⟩;rw[akG (s:=s) as5];rfl)
  | (go_ret;refine⟨?_,rfl⟩;have n1:¬s=UD:=Ee as5;have n2:¬s=UF:=Ee as5;have n3:¬s=UH:=Ee as5;have n4:¬s=UJ:=Ee as5;have n5:¬s=UG:=Ee as5;have n6:¬s=UI:=Ee as5;have n7:¬s=UE:=Ee as5;rw[aid n1 n2 n3 n4 n5 n6 n7];rfl)
end Md
end Go.Proofs.YthnillhnjhalmaaGreatDoor
