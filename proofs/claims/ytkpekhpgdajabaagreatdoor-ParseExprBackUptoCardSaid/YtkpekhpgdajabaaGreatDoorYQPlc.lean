/-
  Parts of this proof: The contracts of place, Kind and Index.
-/
import Derived.Test.YtkpekhpgdajabaaGreatDoorYPChk1
open Go.Ground renaming phase->ae,data->ah
open Go.AllReadyH renaming cons->af,nil->aj
open Go.Operand renaming tmp->ag
open Go.Act renaming put->U
open Go.Proofs.Tryz renaming prog->ai
open Go renaming World->V,Calls->au
open Go.RowKit renaming Below->ak
open Option renaming none->X,some->Y
open Go.Lib renaming hid->av
set_option linter.unusedSimpArgs false
set_option linter.unusedVariables false
set_option maxRecDepth 100000
set_option maxHeartbeats 8000000
open Go.Lib (hid)
namespace Go.Proofs.YtkpekhpgdajabaaGreatDoor
namespace Md
open Go.RowKit
open Na (Strs fst)
open Ex (Lo Gives yn)
set_option linter.unusedSimpArgs false
theorem aeK:Big 302 20:=⟨⟨_,Tryz.underlying302,rfl⟩,by kernel_rfl⟩
def Zk (W:V) (B:Nat):Prop:=W.heap[B]?=Y (.cells #[.string ⟨#[]⟩,.int .i64 0,.string ⟨#[]⟩,.int .i64 0,.string ⟨#[]⟩,.int .i64 0,.string ⟨#[]⟩,.int .i64 0,.string ⟨#[]⟩,.int .i64 0,.string ⟨#[]⟩,.int .i64 0,.string ⟨#[]⟩,.int .i64 0,.string ⟨#[]⟩,.int .i64 0,.string ⟨#[]⟩,.int .i64 0,.string ⟨#[]⟩,.int .i64 0] 302 (0,0))
theorem Zk.new {W:V}:Zk (W.alloc (.cells #[.string ⟨#[]⟩,.int .i64 0,.string ⟨#[]⟩,.int .i64 0,.string ⟨#[]⟩,.int .i64 0,.string ⟨#[]⟩,.int .i64 0,.string ⟨#[]⟩,.int .i64 0,.string ⟨#[]⟩,.int .i64 0,.string ⟨#[]⟩,.int .i64 0,.string ⟨#[]⟩,.int .i64 0,.string ⟨#[]⟩,.int .i64 0,.string ⟨#[]⟩,.int .i64 0] 302)) W.heap.size:=World.alloc_heap_new W _
theorem Zk.far {W:V} {B:Nat} (h:Zk W B):Hid (∀W2,ak W.heap.size W W2->Zk W2 B):=av fun _ hb=>(hb.block B (Array.getElem?_eq_some_iff.1 h).1).trans h
theorem Zk.there {W:V} {B:Nat} (h:Zk W B) {c:Array Value} (hs:c.size=20):W.there B 0 c.size:=fun j hj=>by
 rw[hs] at hj;rw[Nat.zero_add,cell_of_row W B j _ _ _ h,Array.getElem?_eq_getElem (by simpa using hj)];exact⟨rfl,by unfold World.frozen?; rw[show W.heap[(⟨B,j,X⟩:Addr).block]?=_ from h];simp⟩
theorem Zk.new' {W:V} {n:Nat} (h:W.heap.size=n):Zk (W.alloc (.cells #[.string ⟨#[]⟩,.int .i64 0,.string ⟨#[]⟩,.int .i64 0,.string ⟨#[]⟩,.int .i64 0,.string ⟨#[]⟩,.int .i64 0,.string ⟨#[]⟩,.int .i64 0,.string ⟨#[]⟩,.int .i64 0,.string ⟨#[]⟩,.int .i64 0,.string ⟨#[]⟩,.int .i64 0,.string ⟨#[]⟩,.int .i64 0,.string ⟨#[]⟩,.int .i64 0] 302)) n:=by subst h;exact Zk.new
theorem alu {W:V} {B:Nat} {c:Array Value} (h:W.there B 0 c.size):At (W.setCells B 0 c.toList) B 0 c:=fun r v hv=>World.rangeAt_setCells_same W B 0 c.toList (by rw[Array.length_toList];exact h) r v (by rwa [Array.getElem?_toList])
theorem VA {a:V} {b:Nat} (hb:a.heap.size<=b):∀(vs:List Value) (o:Nat) (w:V),ak a.heap.size a w->ak a.heap.size a (w.setCells b o vs)
 | [],_,_,h=>h
 | v::t,o,w,h=>VA hb t (o+1) _ (yn h hb v)
theorem Vz {a w:V} {b o:Nat} {vs:List Value} (h:ak a.heap.size a w) (hb:a.heap.size<=b):ak a.heap.size a (w.setCells b o vs):=VA hb vs o w h
theorem G6 (p:Option Addr) (m c:Nat) (l:List ByteArray) (s:ByteArray) (w:V) {v:Int} (hv:fst l s=v) (hb:Strs w p m l):au ai 203 #[.slice p m c,.string s] w (Gives (.int .i64 v) w):=by
 subst hv;exact(Na.Yc p m c l s w hb).mono fun e w' h=>⟨h.1,by rw[h.2];exact Below.refl _ _⟩
structure gG (w:V) (P:eP) (x:cz) (s:ByteArray) (n13:Nat) (W:V):Prop where
 f1:W.cell? ⟨w.heap.size,1,X⟩=Y (.slice P.xX P.xW P.xV)
 f2:W.cell? ⟨w.heap.size,2,X⟩=Y (.slice P.vJ P.vI P.qx)
 f3:W.cell? ⟨w.heap.size,3,X⟩=Y (.slice P.vN P.fC P.xJ)
 f4:W.cell? ⟨w.heap.size,4,X⟩=Y (.slice P.uu P.uq P.wy)
 f5:W.cell? ⟨w.heap.size,5,X⟩=Y (.slice P.xz P.xy P.xx)
 f6:W.cell? ⟨w.heap.size,6,X⟩=Y (.slice P.tT P.tQ P.tO)
 f7:W.cell? ⟨w.heap.size,7,X⟩=Y (.slice P.xL P.xK P.tac)
 f8:W.cell? ⟨w.heap.size,8,X⟩=Y (.slice P.wX P.wW P.wV)
 f9:W.cell? ⟨w.heap.size,9,X⟩=Y (.slice P.wG P.wF P.wE)
 f10:W.cell? ⟨w.heap.size+1,0,X⟩=Y (.string s)
 f11:(loadCellsFrom ⟨w.heap.size,0,X⟩ 0 n13 #[]).run ai W=.ok (b_ x P) W
structure Vd (w:V) (P:eP) (x:cz) (s:ByteArray) (i1 i2 i3 i4 i5 i6 i7 i8 i9 i10:Int):Prop where
 c1:∀W,ak w.heap.size w W->W.cell? ⟨w.heap.size+1,0,X⟩=Y (.string s)->au ai 229 #[.slice P.xX P.xW P.xV,.func (.func 230) #[] #[.pointer (Y ⟨w.heap.size+1,0,X⟩)]] W (Gives (.int .i64 i1) W)
 c2:∀W,ak w.heap.size w W->W.cell? ⟨w.heap.size+1,0,X⟩=Y (.string s)->au ai 231 #[.slice P.vJ P.vI P.qx,.func (.func 232) #[] #[.pointer (Y ⟨w.heap.size+1,0,X⟩)]] W (Gives (.int .i64 i2) W)
 c3:∀W,ak w.heap.size w W->W.cell? ⟨w.heap.size+1,0,X⟩=Y (.string s)->au ai 233 #[.slice P.vN P.fC P.xJ,.func (.func 234) #[] #[.pointer (Y ⟨w.heap.size+1,0,X⟩)]] W (Gives (.int .i64 i3) W)
 c4:∀W,ak w.heap.size w W->W.cell? ⟨w.heap.size+1,0,X⟩=Y (.string s)->au ai 235 #[.slice P.uu P.uq P.wy,.func (.func 236) #[] #[.pointer (Y ⟨w.heap.size+1,0,X⟩)]] W (Gives (.int .i64 i4) W)
 c5:∀W,ak w.heap.size w W->au ai 203 #[.slice P.xz P.xy P.xx,.string s] W (Gives (.int .i64 i5) W)
 c6:∀W,ak w.heap.size w W->au ai 203 #[.slice P.tT P.tQ P.tO,.string s] W (Gives (.int .i64 i6) W)
 c7:∀W,ak w.heap.size w W->au ai 203 #[.slice P.xL P.xK P.tac,.string s] W (Gives (.int .i64 i7) W)
 c8:∀W,ak w.heap.size w W->au ai 203 #[.slice P.wX P.wW P.wV,.string s] W (Gives (.int .i64 i8) W)
 c9:∀W,ak w.heap.size w W->au ai 203 #[.slice P.wG P.wF P.wE,.string s] W (Gives (.int .i64 i9) W)
 c10:∀W,ak w.heap.size w W->au ai 180 #[.agg (b_ x P),.string s] W (Gives (.int .i64 i10) W)
def iD:List ByteArray->List Int->ByteArray×Int
 | w::t,i::u=>if 0<=i then (w,i) else iD t u
 | _,_=>(Sm.nE,-1)
theorem aa0:∀(ws:List ByteArray) (L:List (List ByteArray)) (s:ByteArray),iD ws (L.map fun l=>fst l s)=II ws L s
 | [],_,_=>rfl
 | _::_,[],_=>rfl
 | w::t,l::u,s=>by rw[List.map_cons,iD,II,aa0]
theorem alk {x:cz} {s:ByteArray}:iD words ((names x).map fun l=>fst l s)=(zK x s,Ht x s):=aa0 _ _ _
theorem ali (x:cz) (P:eP) (s:ByteArray) (w:V) (hx:iL (Lo w.heap.size) w x P):∃(n13 n20:Nat) (_:∀w,(sizeOf 54).run ai w=.ok n13 w) (_:∀w,(sizeOf 302).run ai w=.ok n20 w) (_:Hid (20=n20)) (i1 i2 i3 i4 i5 i6 i7 i8 i9 i10:Int) (_:Vd w P x s i1 i2 i3 i4 i5 i6 i7 i8 i9 i10) (_:Hid (∀W,ak ((w.alloc (.cells (b_ x P) 54)).alloc (.cells #[.string s] 9)).heap.size ((w.alloc (.cells (b_ x P) 54)).alloc (.cells #[.string s] 9)) W->gG w P x s n13 W)),(zK x s,Ht x s)=iD words [i1,i2,i3,i4,i5,i6,i7,i8,i9,i10]:=by
 have HX:=av hx;clear hx;have FX:=wJ (w:=w) 54 9 (b_ x P) #[.string s];obtain⟨i1,h1⟩:∃i,fst (x.va.map (·.nm)) s=i:=⟨_,rfl⟩
 obtain⟨i2,h2⟩:∃i,fst (x.rs.map (·.nm)) s=i:=⟨_,rfl⟩
 obtain⟨i3,h3⟩:∃i,fst (x.st.map (·.nm)) s=i:=⟨_,rfl⟩
 obtain⟨i4,h4⟩:∃i,fst (x.be.map (·.nm)) s=i:=⟨_,rfl⟩
 obtain⟨i5,h5⟩:∃i,fst (x.qu) s=i:=⟨_,rfl⟩
 obtain⟨i6,h6⟩:∃i,fst (x.sm) s=i:=⟨_,rfl⟩
 obtain⟨i7,h7⟩:∃i,fst (x.ta) s=i:=⟨_,rfl⟩
 obtain⟨i8,h8⟩:∃i,fst (x.le) s=i:=⟨_,rfl⟩
 obtain⟨i9,h9⟩:∃i,fst (x.co) s=i:=⟨_,rfl⟩
 obtain⟨i10,h10⟩:∃i,fst (x.ro.map (·.nm)) s=i:=⟨_,rfl⟩
 have HR:=av (show(zK x s,Ht x s)=iD words [i1,i2,i3,i4,i5,i6,i7,i8,i9,i10] by rw[← alk];unfold names;simp only[List.map_cons,List.map_nil,h1,h2,h3,h4,h5,h6,h7,h8,h9,h10]);have C1:=av (fun W (hW:ak w.heap.size w W) (hn:W.cell? ⟨w.heap.size+1,0,X⟩=Y (.string s))=>(show au ai 229 #[.slice P.xX P.xW P.xV,.func (.func 230) #[] #[.pointer (Y ⟨w.heap.size+1,0,X⟩)]] W (Gives (.int .i64 i1) W) by rw[← h1];exact aib s _ (HX.out.va.on ik.map hW) hn));have C2:=av (fun W (hW:ak w.heap.size w W) (hn:W.cell? ⟨w.heap.size+1,0,X⟩=Y (.string s))=>(show au ai 231 #[.slice P.vJ P.vI P.qx,.func (.func 232) #[] #[.pointer (Y ⟨w.heap.size+1,0,X⟩)]] W (Gives (.int .i64 i2) W) by rw[← h2];exact ah8 s _ (HX.out.rs.on iO.map hW) hn));have C3:=av (fun W (hW:ak w.heap.size w W) (hn:W.cell? ⟨w.heap.size+1,0,X⟩=Y (.string s))=>(show au ai 233 #[.slice P.vN P.fC P.xJ,.func (.func 234) #[] #[.pointer (Y ⟨w.heap.size+1,0,X⟩)]] W (Gives (.int .i64 i3) W) by rw[← h3];exact aia s _ (HX.out.st.on jY.map hW) hn));have C4:=av (fun W (hW:ak w.heap.size w W) (hn:W.cell? ⟨w.heap.size+1,0,X⟩=Y (.string s))=>(show au ai 235 #[.slice P.uu P.uq P.wy,.func (.func 236) #[] #[.pointer (Y ⟨w.heap.size+1,0,X⟩)]] W (Gives (.int .i64 i4) W) by rw[← h4];exact ah7 s _ (HX.out.be.on jX.map hW) hn));have C5:=av (fun W (hW:ak w.heap.size w W)=>G6 P.xz P.xy P.xx x.qu s W h5 (HX.out.qu.on dU.map hW).strs);have C6:=av (fun W (hW:ak w.heap.size w W)=>G6 P.tT P.tQ P.tO x.sm s W h6 (HX.out.sm.on dU.map hW).strs);have C7:=av (fun W (hW:ak w.heap.size w W)=>G6 P.xL P.xK P.tac x.ta s W h7 (HX.out.ta.on dU.map hW).strs);have C8:=av (fun W (hW:ak w.heap.size w W)=>G6 P.wX P.wW P.wV x.le s W h8 (HX.out.le.on dU.map hW).strs);have C9:=av (fun W (hW:ak w.heap.size w W)=>G6 P.wG P.wF P.wE x.co s W h9 (HX.out.co.on dU.map hW).strs);have Ob:=av (fun W (hW:ak w.heap.size w W)=>(show au ai 180 #[.agg (b_ x P),.string s] W (Gives (.int .i64 i10) W) by rw[← h10];exact Mx x P s W (HX.out.ro.on gU.map hW)));obtain⟨n13,ji⟩:∃n:Nat,13=n:=⟨_,rfl⟩
 have AR:∀w,(sizeOf 54).run ai w=.ok n13 w:=fun w=>by rw[Tryz.sizeOf54,ji]
 obtain⟨n20,QZ⟩:∃n:Nat,20=n:=⟨_,rfl⟩
 have Zo:∀w,(sizeOf 302).run ai w=.ok n20 w:=fun w=>by rw[Tryz.sizeOf302,QZ]
 have Oo:=av QZ;have FK:Hid (∀W,ak ((w.alloc (.cells (b_ x P) 54)).alloc (.cells #[.string s] 9)).heap.size ((w.alloc (.cells (b_ x P) 54)).alloc (.cells #[.string s] 9)) W->gG w P x s n13 W):=av fun W hb=>by
  have q:=FX.out W hb;exact⟨q.1.get (V_ x P),q.1.get (Wh x P),q.1.get (Wi x P),q.1.get (Wj x P),q.1.get (Wl x P),q.1.get (Pt x P),q.1.get (Wm x P),q.1.get (Wn x P),q.1.get (Wo x P),q.2.get rfl,q.1.cell.fZ ji⟩
 clear HX FX ji QZ h1 h2 h3 h4 h5 h6 h7 h8 h9 h10;exact⟨n13,n20,AR,Zo,Oo,i1,i2,i3,i4,i5,i6,i7,i8,i9,i10,⟨C1.out,C2.out,C3.out,C4.out,C5.out,C6.out,C7.out,C8.out,C9.out,Ob.out⟩,FK,HR.out⟩
theorem kH {p:Prop} (h:p:=by kernel_rfl):p:=h
theorem ac6 {p:Prop} (h:p:=by
 refine wpAnyH_ready (rs:=[51]) kH cK ?_;refine af (o:={ dst:=X,op:=Op.store 302 (ag 6) (ag 58),type:=0,pos := "model.go:72",after:=#[{ on:=50,ground:=ah },{ on:=49,ground:=ah },{ on:=47,ground:=Ground.chain },{ on:=0,ground:=ae },{ on:=1,ground:=ae },{ on:=2,ground:=ae },{ on:=3,ground:=ae },{ on:=4,ground:=ae },{ on:=5,ground:=ae },{ on:=6,ground:=ae },{ on:=7,ground:=ae },{ on:=8,ground:=ae },{ on:=9,ground:=ae },{ on:=10,ground:=ae },{ on:=11,ground:=ae },{ on:=12,ground:=ae },{ on:=13,ground:=ae },{ on:=14,ground:=ae },{ on:=15,ground:=ae },{ on:=16,ground:=ae },{ on:=17,ground:=ae },{ on:=18,ground:=ae },{ on:=19,ground:=ae },{ on:=20,ground:=ae },{ on:=21,ground:=ae },{ on:=22,ground:=ae },{ on:=23,ground:=ae },{ on:=24,ground:=ae },{ on:=25,ground:=ae },{ on:=26,ground:=ae },{ on:=27,ground:=ae },{ on:=28,ground:=ae },{ on:=29,ground:=ae },{ on:=30,ground:=ae },{ on:=31,ground:=ae },{ on:=32,ground:=ae },{ on:=33,ground:=ae },{ on:=34,ground:=ae },{ on:=35,ground:=ae },{ on:=36,ground:=ae },{ on:=37,ground:=ae },{ on:=38,ground:=ae },{ on:=39,ground:=ae },{ on:=40,ground:=ae },{ on:=41,ground:=ae },{ on:=42,ground:=ae },{ on:=43,ground:=ae },{ on:=44,ground:=ae },{ on:=45,ground:=ae },{ on:=46,ground:=ae },{ on:=47,ground:=ae },{ on:=48,ground:=ae },{ on:=49,ground:=ae },{ on:=50,ground:=ae }],guard:=X }) rfl (fun K hK=>?_) aj;refine wp_store_mid _ _ _ rfl _ _ #[.string mo,.int .i64 i1,.string mg,.int .i64 i2,.string lI,.int .i64 i3,.string l_,.int .i64 i4,.string mf,.int .i64 i5,.string mh,.int .i64 i6,.string mi,.int .i64 i7,.string ma,.int .i64 i8,.string lG,.int .i64 i9,.string lH,.int .i64 i10] rfl rfl ta aeK.2 (by simp[Value.oneCell']) ?_;clear hHeld;have tp:=alu ta;refine hK.out _ _ (show((fun(W:V)=>gG w P x s n13 W)) _ from FK.out _ (Vz bl hs2)) (fun hHeld=>?_);clear hK K
 try simp only[U,sA,sB,sC]
 refine wpAnyH_done kH ?_ _
 try refine NoPanic.normal ?_
 go_wp2_with fail
 go_meet
 exact⟨_,rfl,av tp,av (Vz bl hs1)⟩
 ):p:=h
theorem ac4 {p:Prop} (h:p:=by
 try simp only[U,sA,sB,sC]
 refine wpAnyH_ready (rs:=[47]) kH cK ?_;refine af (o:={ dst:=Y 56,op:=Op.call { callee:=Callee.value (Operand.func 180),args:=#[ag 54,ag 55],argTypes:=#[54,9] },type:=3,pos := "model.go:85",after:=#[{ on:=45,ground:=ah },{ on:=46,ground:=ah },{ on:=43,ground:=Ground.chain }],guard:=X }) rfl (fun K hK=>?_) aj
 go_simp
 refine(HC.c10 _ bl).mono ?_;rintro e v10 ⟨rfl,QT⟩;clear hHeld;refine hK.out _ _ (show((fun(W:V)=>gG w P x s n13 W)) _ from FK.out _ bl) (fun hHeld=>?_);clear hK K
 try simp only[U,sA,sB,sC]
 refine htake 48 (.agg #[.string lH,.int .i64 i10]) (hy:=fun W2 hS2=>by clear hHeld HC FK;first|(go_simp;done)|(go_simp;with_reducible rfl)|(go_simp;rfl)) (h:=?_)
 try simp only[U,sA,sB,sC]
 refine htake 49 (.agg #[.string mo,.int .i64 i1,.string mg,.int .i64 i2,.string lI,.int .i64 i3,.string l_,.int .i64 i4,.string mf,.int .i64 i5,.string mh,.int .i64 i6,.string mi,.int .i64 i7,.string ma,.int .i64 i8,.string lG,.int .i64 i9,.string lH,.int .i64 i10]) (hy:=fun W2 hS2=>by clear hHeld HC FK;first|(go_simp;done)|(go_simp;with_reducible rfl)|(go_simp;rfl)) (h:=?_)
 try simp only[U,sA,sB,sC]
 have ta:=(HZ.out v10 bl).there (c:=#[.string mo,.int .i64 i1,.string mg,.int .i64 i2,.string lI,.int .i64 i3,.string l_,.int .i64 i4,.string mf,.int .i64 i5,.string mh,.int .i64 i6,.string mi,.int .i64 i7,.string ma,.int .i64 i8,.string lG,.int .i64 i9,.string lH,.int .i64 i10]) rfl;exact ac6
 ):p:=h
theorem ac9 {p:Prop} (h:p:=by
 try simp only[U,sA,sB,sC]
 refine wpAnyH_ready (rs:=[43]) kH cK ?_;refine af (o:={ dst:=Y 52,op:=Op.call { callee:=Callee.value (Operand.func 203),args:=#[ag 50,ag 51],argTypes:=#[49,9] },type:=3,pos := "model.go:84",after:=#[{ on:=41,ground:=ah },{ on:=42,ground:=ah },{ on:=38,ground:=Ground.chain }],guard:=X }) rfl (fun K hK=>?_) aj
 go_simp
 refine(HC.c9 _ bl).mono ?_;rintro e v9 ⟨rfl,Ct⟩;clear hHeld;refine hK.out _ _ (show((fun(W:V)=>gG w P x s n13 W)) _ from FK.out _ bl) (fun hHeld=>?_);clear hK K
 try simp only[U,sA,sB,sC]
 refine htake 44 (.agg #[.string lG,.int .i64 i9]) (hy:=fun W2 hS2=>by clear hHeld HC FK;first|(go_simp;done)|(go_simp;with_reducible rfl)|(go_simp;rfl)) (h:=?_);exact ac4
 ):p:=h
theorem ac2 {p:Prop} (h:p:=by
 try simp only[U,sA,sB,sC]
 refine wpAnyH_ready (rs:=[38]) kH cK ?_;refine af (o:={ dst:=Y 47,op:=Op.call { callee:=Callee.value (Operand.func 203),args:=#[ag 45,ag 46],argTypes:=#[49,9] },type:=3,pos := "model.go:83",after:=#[{ on:=36,ground:=ah },{ on:=37,ground:=ah },{ on:=33,ground:=Ground.chain }],guard:=X }) rfl (fun K hK=>?_) aj
 go_simp
 refine(HC.c8 _ bl).mono ?_;rintro e v8 ⟨rfl,qP⟩;clear hHeld;refine hK.out _ _ (show((fun(W:V)=>gG w P x s n13 W)) _ from FK.out _ bl) (fun hHeld=>?_);clear hK K
 try simp only[U,sA,sB,sC]
 refine htake 39 (.agg #[.string ma,.int .i64 i8]) (hy:=fun W2 hS2=>by clear hHeld HC FK;first|(go_simp;done)|(go_simp;with_reducible rfl)|(go_simp;rfl)) (h:=?_);exact ac9
 ):p:=h
theorem ac_ {p:Prop} (h:p:=by
 try simp only[U,sA,sB,sC]
 refine wpAnyH_ready (rs:=[33]) kH cK ?_;refine af (o:={ dst:=Y 42,op:=Op.call { callee:=Callee.value (Operand.func 203),args:=#[ag 40,ag 41],argTypes:=#[49,9] },type:=3,pos := "model.go:82",after:=#[{ on:=31,ground:=ah },{ on:=32,ground:=ah },{ on:=28,ground:=Ground.chain }],guard:=X }) rfl (fun K hK=>?_) aj
 go_simp
 refine(HC.c7 _ bl).mono ?_;rintro e v7 ⟨rfl,Hg⟩;clear hHeld;refine hK.out _ _ (show((fun(W:V)=>gG w P x s n13 W)) _ from FK.out _ bl) (fun hHeld=>?_);clear hK K
 try simp only[U,sA,sB,sC]
 refine htake 34 (.agg #[.string mi,.int .i64 i7]) (hy:=fun W2 hS2=>by clear hHeld HC FK;first|(go_simp;done)|(go_simp;with_reducible rfl)|(go_simp;rfl)) (h:=?_);exact ac2
 ):p:=h
theorem ac5 {p:Prop} (h:p:=by
 try simp only[U,sA,sB,sC]
 refine wpAnyH_ready (rs:=[28]) kH cK ?_;refine af (o:={ dst:=Y 37,op:=Op.call { callee:=Callee.value (Operand.func 203),args:=#[ag 35,ag 36],argTypes:=#[49,9] },type:=3,pos := "model.go:81",after:=#[{ on:=26,ground:=ah },{ on:=27,ground:=ah },{ on:=23,ground:=Ground.chain }],guard:=X }) rfl (fun K hK=>?_) aj
 go_simp
 refine(HC.c6 _ bl).mono ?_;rintro e v6 ⟨rfl,hb6⟩;clear hHeld;refine hK.out _ _ (show((fun(W:V)=>gG w P x s n13 W)) _ from FK.out _ bl) (fun hHeld=>?_);clear hK K
 try simp only[U,sA,sB,sC]
 refine htake 29 (.agg #[.string mh,.int .i64 i6]) (hy:=fun W2 hS2=>by clear hHeld HC FK;first|(go_simp;done)|(go_simp;with_reducible rfl)|(go_simp;rfl)) (h:=?_);exact ac_
 ):p:=h
theorem ada {p:Prop} (h:p:=by
 try simp only[U,sA,sB,sC]
 refine wpAnyH_ready (rs:=[23]) kH cK ?_;refine af (o:={ dst:=Y 32,op:=Op.call { callee:=Callee.value (Operand.func 203),args:=#[ag 30,ag 31],argTypes:=#[49,9] },type:=3,pos := "model.go:80",after:=#[{ on:=21,ground:=ah },{ on:=22,ground:=ah },{ on:=18,ground:=Ground.chain }],guard:=X }) rfl (fun K hK=>?_) aj
 go_simp
 refine(HC.c5 _ bl).mono ?_;rintro e v5 ⟨rfl,hb5⟩;clear hHeld;refine hK.out _ _ (show((fun(W:V)=>gG w P x s n13 W)) _ from FK.out _ bl) (fun hHeld=>?_);clear hK K
 try simp only[U,sA,sB,sC]
 refine htake 24 (.agg #[.string mf,.int .i64 i5]) (hy:=fun W2 hS2=>by clear hHeld HC FK;first|(go_simp;done)|(go_simp;with_reducible rfl)|(go_simp;rfl)) (h:=?_);exact ac5
 ):p:=h
theorem ac3 {p:Prop} (h:p:=by
 try simp only[U,sA,sB,sC]
 refine wpAnyH_ready (rs:=[18]) kH cK ?_;refine af (o:={ dst:=Y 27,op:=Op.call { callee:=Callee.value (Operand.func 235),args:=#[ag 25,ag 26],argTypes:=#[48,301] },type:=3,pos := "model.go:79",after:=#[{ on:=16,ground:=ah },{ on:=17,ground:=ah },{ on:=13,ground:=Ground.chain }],guard:=X }) rfl (fun K hK=>?_) aj
 go_simp
 refine(HC.c4 _ bl hHeld.f10).mono ?_;rintro e v4 ⟨rfl,hb4⟩;clear hHeld;refine hK.out _ _ (show((fun(W:V)=>gG w P x s n13 W)) _ from FK.out _ bl) (fun hHeld=>?_);clear hK K
 try simp only[U,sA,sB,sC]
 refine htake 19 (.agg #[.string l_,.int .i64 i4]) (hy:=fun W2 hS2=>by clear hHeld HC FK;first|(go_simp;done)|(go_simp;with_reducible rfl)|(go_simp;rfl)) (h:=?_);exact ada
 ):p:=h
theorem ac7 {p:Prop} (h:p:=by
 try simp only[U,sA,sB,sC]
 refine wpAnyH_ready (rs:=[13]) kH cK ?_;refine af (o:={ dst:=Y 22,op:=Op.call { callee:=Callee.value (Operand.func 233),args:=#[ag 20,ag 21],argTypes:=#[47,299] },type:=3,pos := "model.go:78",after:=#[{ on:=11,ground:=ah },{ on:=12,ground:=ah },{ on:=8,ground:=Ground.chain }],guard:=X }) rfl (fun K hK=>?_) aj
 go_simp
 refine(HC.c3 _ bl hHeld.f10).mono ?_;rintro e v3 ⟨rfl,hb3⟩;clear hHeld;refine hK.out _ _ (show((fun(W:V)=>gG w P x s n13 W)) _ from FK.out _ bl) (fun hHeld=>?_);clear hK K
 try simp only[U,sA,sB,sC]
 refine htake 14 (.agg #[.string lI,.int .i64 i3]) (hy:=fun W2 hS2=>by clear hHeld HC FK;first|(go_simp;done)|(go_simp;with_reducible rfl)|(go_simp;rfl)) (h:=?_);exact ac3
 ):p:=h
theorem y8 {p:Prop} (h:p:=by
 rw[if_pos g] at e;rw[e];have d:=decide_eq_true g;clear e HP;go_wp2_with fail
 go_quiet (fail)
 go_wp2_with fail;go_ret2
 exact⟨rfl,by have bY:=HW.out;exact bl⟩
 ):p:=h
theorem ac8 {p:Prop} (h:p:=by
 try simp only[U,sA,sB,sC]
 refine wpAnyH_ready (rs:=[8]) kH cK ?_;refine af (o:={ dst:=Y 17,op:=Op.call { callee:=Callee.value (Operand.func 231),args:=#[ag 15,ag 16],argTypes:=#[46,297] },type:=3,pos := "model.go:77",after:=#[{ on:=6,ground:=ah },{ on:=7,ground:=ah },{ on:=3,ground:=Ground.chain }],guard:=X }) rfl (fun K hK=>?_) aj
 go_simp
 refine(HC.c2 _ bl hHeld.f10).mono ?_;rintro e v2 ⟨rfl,hb2⟩;clear hHeld;refine hK.out _ _ (show((fun(W:V)=>gG w P x s n13 W)) _ from FK.out _ bl) (fun hHeld=>?_);clear hK K
 try simp only[U,sA,sB,sC]
 refine htake 9 (.agg #[.string mg,.int .i64 i2]) (hy:=fun W2 hS2=>by clear hHeld HC FK;first|(go_simp;done)|(go_simp;with_reducible rfl)|(go_simp;rfl)) (h:=?_);exact ac7
 ):p:=h
theorem y_ {p:Prop} (h:p:=by have bY:=HW.out;exact bl):p:=h
theorem alj (x:cz) (P:eP) (s:ByteArray) (w:V) (n13 n20:Nat) (AR:∀w,(sizeOf 54).run ai w=.ok n13 w) (Zo:∀w,(sizeOf 302).run ai w=.ok n20 w) (Oo:Hid (20=n20)) (i1 i2 i3 i4 i5 i6 i7 i8 i9 i10:Int) (HC:Vd w P x s i1 i2 i3 i4 i5 i6 i7 i8 i9 i10) (FK:Hid (∀W,ak ((w.alloc (.cells (b_ x P) 54)).alloc (.cells #[.string s] 9)).heap.size ((w.alloc (.cells (b_ x P) 54)).alloc (.cells #[.string s] 9)) W->gG w P x s n13 W)):au ai 221 #[.agg (b_ x P),.string s] w (Gives (.tuple #[.string (iD words [i1,i2,i3,i4,i5,i6,i7,i8,i9,i10]).1,.int .i64 (iD words [i1,i2,i3,i4,i5,i6,i7,i8,i9,i10]).2]) w):=by
 go_enter Tryz.func221,Tryz.ntmps221
 go_upto_region 1 with fail
 go_cut [6] from 9 to 58 (fun v wr=>∃B,v=.pointer (Y ⟨B,0,X⟩)/\Hid (At wr B 0 #[.string mo,.int .i64 i1,.string mg,.int .i64 i2,.string lI,.int .i64 i3,.string l_,.int .i64 i4,.string mf,.int .i64 i5,.string mh,.int .i64 i6,.string mi,.int .i64 i7,.string ma,.int .i64 i8,.string lG,.int .i64 i9,.string lH,.int .i64 i10])/\Hid (ak w.heap.size w wr))
 case first=>
  try refine wp_region_noPanic ?_
  refine wp_region_held_drew (S:=(fun(W:V)=>gG w P x s n13 W)) kH (show((fun(W:V)=>gG w P x s n13 W)) _ from FK.out _ bl) (fun hHeld=>?_);refine htake 0 (.pointer (Y ⟨w.heap.size,1,X⟩)) (hy:=fun W2 hS2=>by clear hHeld HC FK;first|(go_simp;done)|(go_simp;with_reducible rfl)|(go_simp;rfl)) (h:=?_)
  try simp only[U,sA,sB,sC]
  refine htake 1 (.slice P.xX P.xW P.xV) (hy:=fun W2 hS2=>by have q1:=hS2.f1;clear hHeld HC FK;first|(go_simp;done)|(go_simp;with_reducible rfl)|(go_simp;rfl)) (h:=?_)
  try simp only[U,sA,sB,sC]
  refine htake 2 (.func (.func 230) #[] #[.pointer (Y ⟨w.heap.size+1,0,X⟩)]) (hy:=fun W2 hS2=>by clear hHeld HC FK;first|(go_simp;done)|(go_simp;with_reducible rfl)|(go_simp;rfl)) (h:=?_)
  try simp only[U,sA,sB,sC]
  refine htake 5 (.pointer (Y ⟨w.heap.size,2,X⟩)) (hy:=fun W2 hS2=>by clear hHeld HC FK;first|(go_simp;done)|(go_simp;with_reducible rfl)|(go_simp;rfl)) (h:=?_)
  try simp only[U,sA,sB,sC]
  refine htake 6 (.slice P.vJ P.vI P.qx) (hy:=fun W2 hS2=>by have q2:=hS2.f2;clear hHeld HC FK;first|(go_simp;done)|(go_simp;with_reducible rfl)|(go_simp;rfl)) (h:=?_)
  try simp only[U,sA,sB,sC]
  refine htake 7 (.func (.func 232) #[] #[.pointer (Y ⟨w.heap.size+1,0,X⟩)]) (hy:=fun W2 hS2=>by clear hHeld HC FK;first|(go_simp;done)|(go_simp;with_reducible rfl)|(go_simp;rfl)) (h:=?_)
  try simp only[U,sA,sB,sC]
  refine htake 10 (.pointer (Y ⟨w.heap.size,3,X⟩)) (hy:=fun W2 hS2=>by clear hHeld HC FK;first|(go_simp;done)|(go_simp;with_reducible rfl)|(go_simp;rfl)) (h:=?_)
  try simp only[U,sA,sB,sC]
  refine htake 11 (.slice P.vN P.fC P.xJ) (hy:=fun W2 hS2=>by have q3:=hS2.f3;clear hHeld HC FK;first|(go_simp;done)|(go_simp;with_reducible rfl)|(go_simp;rfl)) (h:=?_)
  try simp only[U,sA,sB,sC]
  refine htake 12 (.func (.func 234) #[] #[.pointer (Y ⟨w.heap.size+1,0,X⟩)]) (hy:=fun W2 hS2=>by clear hHeld HC FK;first|(go_simp;done)|(go_simp;with_reducible rfl)|(go_simp;rfl)) (h:=?_)
  try simp only[U,sA,sB,sC]
  refine htake 15 (.pointer (Y ⟨w.heap.size,4,X⟩)) (hy:=fun W2 hS2=>by clear hHeld HC FK;first|(go_simp;done)|(go_simp;with_reducible rfl)|(go_simp;rfl)) (h:=?_)
  try simp only[U,sA,sB,sC]
  refine htake 16 (.slice P.uu P.uq P.wy) (hy:=fun W2 hS2=>by have q4:=hS2.f4;clear hHeld HC FK;first|(go_simp;done)|(go_simp;with_reducible rfl)|(go_simp;rfl)) (h:=?_)
  try simp only[U,sA,sB,sC]
  refine htake 17 (.func (.func 236) #[] #[.pointer (Y ⟨w.heap.size+1,0,X⟩)]) (hy:=fun W2 hS2=>by clear hHeld HC FK;first|(go_simp;done)|(go_simp;with_reducible rfl)|(go_simp;rfl)) (h:=?_)
  try simp only[U,sA,sB,sC]
  refine htake 20 (.pointer (Y ⟨w.heap.size,5,X⟩)) (hy:=fun W2 hS2=>by clear hHeld HC FK;first|(go_simp;done)|(go_simp;with_reducible rfl)|(go_simp;rfl)) (h:=?_)
  try simp only[U,sA,sB,sC]
  refine htake 21 (.slice P.xz P.xy P.xx) (hy:=fun W2 hS2=>by have q5:=hS2.f5;clear hHeld HC FK;first|(go_simp;done)|(go_simp;with_reducible rfl)|(go_simp;rfl)) (h:=?_)
  try simp only[U,sA,sB,sC]
  refine htake 22 (.string s) (hy:=fun W2 hS2=>by have vG:=hS2.f10;clear hHeld HC FK;first|(go_simp;done)|(go_simp;with_reducible rfl)|(go_simp;rfl)) (h:=?_)
  try simp only[U,sA,sB,sC]
  refine htake 25 (.pointer (Y ⟨w.heap.size,6,X⟩)) (hy:=fun W2 hS2=>by clear hHeld HC FK;first|(go_simp;done)|(go_simp;with_reducible rfl)|(go_simp;rfl)) (h:=?_)
  try simp only[U,sA,sB,sC]
  refine htake 26 (.slice P.tT P.tQ P.tO) (hy:=fun W2 hS2=>by have q6:=hS2.f6;clear hHeld HC FK;first|(go_simp;done)|(go_simp;with_reducible rfl)|(go_simp;rfl)) (h:=?_)
  try simp only[U,sA,sB,sC]
  refine htake 27 (.string s) (hy:=fun W2 hS2=>by have vG:=hS2.f10;clear hHeld HC FK;first|(go_simp;done)|(go_simp;with_reducible rfl)|(go_simp;rfl)) (h:=?_)
  try simp only[U,sA,sB,sC]
  refine htake 30 (.pointer (Y ⟨w.heap.size,7,X⟩)) (hy:=fun W2 hS2=>by clear hHeld HC FK;first|(go_simp;done)|(go_simp;with_reducible rfl)|(go_simp;rfl)) (h:=?_)
  try simp only[U,sA,sB,sC]
  refine htake 31 (.slice P.xL P.xK P.tac) (hy:=fun W2 hS2=>by have q7:=hS2.f7;clear hHeld HC FK;first|(go_simp;done)|(go_simp;with_reducible rfl)|(go_simp;rfl)) (h:=?_)
  try simp only[U,sA,sB,sC]
  refine htake 32 (.string s) (hy:=fun W2 hS2=>by have vG:=hS2.f10;clear hHeld HC FK;first|(go_simp;done)|(go_simp;with_reducible rfl)|(go_simp;rfl)) (h:=?_)
  try simp only[U,sA,sB,sC]
  refine htake 35 (.pointer (Y ⟨w.heap.size,8,X⟩)) (hy:=fun W2 hS2=>by clear hHeld HC FK;first|(go_simp;done)|(go_simp;with_reducible rfl)|(go_simp;rfl)) (h:=?_)
  try simp only[U,sA,sB,sC]
  refine htake 36 (.slice P.wX P.wW P.wV) (hy:=fun W2 hS2=>by have q8:=hS2.f8;clear hHeld HC FK;first|(go_simp;done)|(go_simp;with_reducible rfl)|(go_simp;rfl)) (h:=?_)
  try simp only[U,sA,sB,sC]
  refine htake 37 (.string s) (hy:=fun W2 hS2=>by have vG:=hS2.f10;clear hHeld HC FK;first|(go_simp;done)|(go_simp;with_reducible rfl)|(go_simp;rfl)) (h:=?_)
  try simp only[U,sA,sB,sC]
  refine htake 40 (.pointer (Y ⟨w.heap.size,9,X⟩)) (hy:=fun W2 hS2=>by clear hHeld HC FK;first|(go_simp;done)|(go_simp;with_reducible rfl)|(go_simp;rfl)) (h:=?_)
  try simp only[U,sA,sB,sC]
  refine htake 41 (.slice P.wG P.wF P.wE) (hy:=fun W2 hS2=>by have q9:=hS2.f9;clear hHeld HC FK;first|(go_simp;done)|(go_simp;with_reducible rfl)|(go_simp;rfl)) (h:=?_)
  try simp only[U,sA,sB,sC]
  refine htake 42 (.string s) (hy:=fun W2 hS2=>by have vG:=hS2.f10;clear hHeld HC FK;first|(go_simp;done)|(go_simp;with_reducible rfl)|(go_simp;rfl)) (h:=?_)
  try simp only[U,sA,sB,sC]
  refine htake 45 (.agg (b_ x P)) (hy:=fun W2 hS2=>by have Mq:=hS2.f11;clear hHeld HC FK;first|(go_simp;done)|(go_simp;with_reducible rfl)|(go_simp;rfl)) (h:=?_)
  try simp only[U,sA,sB,sC]
  refine htake 46 (.string s) (hy:=fun W2 hS2=>by have vG:=hS2.f10;clear hHeld HC FK;first|(go_simp;done)|(go_simp;with_reducible rfl)|(go_simp;rfl)) (h:=?_)
  try simp only[U,sA,sB,sC]
  refine wpAnyH_ready (rs:=[3,50]) kH cK ?_;refine af (o:={ dst:=Y 12,op:=Op.call { callee:=Callee.value (Operand.func 229),args:=#[ag 10,ag 11],argTypes:=#[36,294] },type:=3,pos := "model.go:76",after:=#[{ on:=1,ground:=ah },{ on:=2,ground:=ah }],guard:=X }) rfl (fun K hK=>?_) ?_;rotate_left 1
  · refine af (o:={ dst:=Y 6,op:=Op.alloc 302,type:=0,pos := "model.go:72",after:=#[],guard:=X }) rfl (fun K hK=>?_) aj
    go_simp
    clear hHeld;have HZ:=(Zk.new' (W:=((w.alloc (.cells (b_ x P) 54)).alloc (.cells #[.string s] 9))) (n:=w.heap.size+1+1) cK).far;have hs1:w.heap.size<=w.heap.size+1+1:=by omega
    have hs2:((w.alloc (.cells (b_ x P) 54)).alloc (.cells #[.string s] 9)).heap.size<=w.heap.size+1+1:=by simp
    refine hK.out _ _ (show((fun(W:V)=>gG w P x s n13 W)) _ from FK.out _ bl) (fun hHeld=>?_);clear hK K
    try simp only[U,sA,sB,sC]
    refine wpAnyH_ready (rs:=[3]) kH cK ?_;refine af (o:={ dst:=Y 12,op:=Op.call { callee:=Callee.value (Operand.func 229),args:=#[ag 10,ag 11],argTypes:=#[36,294] },type:=3,pos := "model.go:76",after:=#[{ on:=1,ground:=ah },{ on:=2,ground:=ah }],guard:=X }) rfl (fun K hK=>?_) aj
    go_simp
    refine(HC.c1 _ bl hHeld.f10).mono ?_;rintro e v1 ⟨rfl,hb1⟩;clear hHeld;refine hK.out _ _ (show((fun(W:V)=>gG w P x s n13 W)) _ from FK.out _ bl) (fun hHeld=>?_);clear hK K
    try simp only[U,sA,sB,sC]
    refine htake 4 (.agg #[.string mo,.int .i64 i1]) (hy:=fun W2 hS2=>by clear hHeld HC FK;first|(go_simp;done)|(go_simp;with_reducible rfl)|(go_simp;rfl)) (h:=?_);exact ac8
  go_simp
  refine(HC.c1 _ bl hHeld.f10).mono ?_;rintro e v1 ⟨rfl,hb1⟩;clear hHeld;refine hK.out _ _ (show((fun(W:V)=>gG w P x s n13 W)) _ from FK.out _ bl) (fun hHeld=>?_);clear hK K
  try simp only[U,sA,sB,sC]
  refine htake 4 (.agg #[.string mo,.int .i64 i1]) (hy:=fun W2 hS2=>by clear hHeld HC FK;first|(go_simp;done)|(go_simp;with_reducible rfl)|(go_simp;rfl)) (h:=?_)
  try simp only[U,sA,sB,sC]
  refine wpAnyH_ready (rs:=[8,50]) kH cK ?_;refine af (o:={ dst:=Y 17,op:=Op.call { callee:=Callee.value (Operand.func 231),args:=#[ag 15,ag 16],argTypes:=#[46,297] },type:=3,pos := "model.go:77",after:=#[{ on:=6,ground:=ah },{ on:=7,ground:=ah },{ on:=3,ground:=Ground.chain }],guard:=X }) rfl (fun K hK=>?_) ?_;rotate_left 1
  · refine af (o:={ dst:=Y 6,op:=Op.alloc 302,type:=0,pos := "model.go:72",after:=#[],guard:=X }) rfl (fun K hK=>?_) aj
    go_simp
    clear hHeld;have HZ:=(Zk.new' (W:=v1) (n:=v1.heap.size) cK).far;have hs1:w.heap.size<=v1.heap.size:=(show ak w.heap.size w v1 by exact bl).size;have hs2:((w.alloc (.cells (b_ x P) 54)).alloc (.cells #[.string s] 9)).heap.size<=v1.heap.size:=(show ak ((w.alloc (.cells (b_ x P) 54)).alloc (.cells #[.string s] 9)).heap.size ((w.alloc (.cells (b_ x P) 54)).alloc (.cells #[.string s] 9)) v1 by exact bl).size;refine hK.out _ _ (show((fun(W:V)=>gG w P x s n13 W)) _ from FK.out _ bl) (fun hHeld=>?_);clear hK K;exact ac8
  go_simp
  refine(HC.c2 _ bl hHeld.f10).mono ?_;rintro e v2 ⟨rfl,hb2⟩;clear hHeld;refine hK.out _ _ (show((fun(W:V)=>gG w P x s n13 W)) _ from FK.out _ bl) (fun hHeld=>?_);clear hK K
  try simp only[U,sA,sB,sC]
  refine htake 9 (.agg #[.string mg,.int .i64 i2]) (hy:=fun W2 hS2=>by clear hHeld HC FK;first|(go_simp;done)|(go_simp;with_reducible rfl)|(go_simp;rfl)) (h:=?_)
  try simp only[U,sA,sB,sC]
  refine wpAnyH_ready (rs:=[13,50]) kH cK ?_;refine af (o:={ dst:=Y 22,op:=Op.call { callee:=Callee.value (Operand.func 233),args:=#[ag 20,ag 21],argTypes:=#[47,299] },type:=3,pos := "model.go:78",after:=#[{ on:=11,ground:=ah },{ on:=12,ground:=ah },{ on:=8,ground:=Ground.chain }],guard:=X }) rfl (fun K hK=>?_) ?_;rotate_left 1
  · refine af (o:={ dst:=Y 6,op:=Op.alloc 302,type:=0,pos := "model.go:72",after:=#[],guard:=X }) rfl (fun K hK=>?_) aj
    go_simp
    clear hHeld;have HZ:=(Zk.new' (W:=v2) (n:=v2.heap.size) cK).far;have hs1:w.heap.size<=v2.heap.size:=(show ak w.heap.size w v2 by exact bl).size;have hs2:((w.alloc (.cells (b_ x P) 54)).alloc (.cells #[.string s] 9)).heap.size<=v2.heap.size:=(show ak ((w.alloc (.cells (b_ x P) 54)).alloc (.cells #[.string s] 9)).heap.size ((w.alloc (.cells (b_ x P) 54)).alloc (.cells #[.string s] 9)) v2 by exact bl).size;refine hK.out _ _ (show((fun(W:V)=>gG w P x s n13 W)) _ from FK.out _ bl) (fun hHeld=>?_);clear hK K;exact ac7
  go_simp
  refine(HC.c3 _ bl hHeld.f10).mono ?_;rintro e v3 ⟨rfl,hb3⟩;clear hHeld;refine hK.out _ _ (show((fun(W:V)=>gG w P x s n13 W)) _ from FK.out _ bl) (fun hHeld=>?_);clear hK K
  try simp only[U,sA,sB,sC]
  refine htake 14 (.agg #[.string lI,.int .i64 i3]) (hy:=fun W2 hS2=>by clear hHeld HC FK;first|(go_simp;done)|(go_simp;with_reducible rfl)|(go_simp;rfl)) (h:=?_)
  try simp only[U,sA,sB,sC]
  refine wpAnyH_ready (rs:=[18,50]) kH cK ?_;refine af (o:={ dst:=Y 27,op:=Op.call { callee:=Callee.value (Operand.func 235),args:=#[ag 25,ag 26],argTypes:=#[48,301] },type:=3,pos := "model.go:79",after:=#[{ on:=16,ground:=ah },{ on:=17,ground:=ah },{ on:=13,ground:=Ground.chain }],guard:=X }) rfl (fun K hK=>?_) ?_;rotate_left 1
  · refine af (o:={ dst:=Y 6,op:=Op.alloc 302,type:=0,pos := "model.go:72",after:=#[],guard:=X }) rfl (fun K hK=>?_) aj
    go_simp
    clear hHeld;have HZ:=(Zk.new' (W:=v3) (n:=v3.heap.size) cK).far;have hs1:w.heap.size<=v3.heap.size:=(show ak w.heap.size w v3 by exact bl).size;have hs2:((w.alloc (.cells (b_ x P) 54)).alloc (.cells #[.string s] 9)).heap.size<=v3.heap.size:=(show ak ((w.alloc (.cells (b_ x P) 54)).alloc (.cells #[.string s] 9)).heap.size ((w.alloc (.cells (b_ x P) 54)).alloc (.cells #[.string s] 9)) v3 by exact bl).size;refine hK.out _ _ (show((fun(W:V)=>gG w P x s n13 W)) _ from FK.out _ bl) (fun hHeld=>?_);clear hK K;exact ac3
  go_simp
  refine(HC.c4 _ bl hHeld.f10).mono ?_;rintro e v4 ⟨rfl,hb4⟩;clear hHeld;refine hK.out _ _ (show((fun(W:V)=>gG w P x s n13 W)) _ from FK.out _ bl) (fun hHeld=>?_);clear hK K
  try simp only[U,sA,sB,sC]
  refine htake 19 (.agg #[.string l_,.int .i64 i4]) (hy:=fun W2 hS2=>by clear hHeld HC FK;first|(go_simp;done)|(go_simp;with_reducible rfl)|(go_simp;rfl)) (h:=?_)
  try simp only[U,sA,sB,sC]
  refine wpAnyH_ready (rs:=[23,50]) kH cK ?_;refine af (o:={ dst:=Y 32,op:=Op.call { callee:=Callee.value (Operand.func 203),args:=#[ag 30,ag 31],argTypes:=#[49,9] },type:=3,pos := "model.go:80",after:=#[{ on:=21,ground:=ah },{ on:=22,ground:=ah },{ on:=18,ground:=Ground.chain }],guard:=X }) rfl (fun K hK=>?_) ?_;rotate_left 1
  · refine af (o:={ dst:=Y 6,op:=Op.alloc 302,type:=0,pos := "model.go:72",after:=#[],guard:=X }) rfl (fun K hK=>?_) aj
    go_simp
    clear hHeld;have HZ:=(Zk.new' (W:=v4) (n:=v4.heap.size) cK).far;have hs1:w.heap.size<=v4.heap.size:=(show ak w.heap.size w v4 by exact bl).size;have hs2:((w.alloc (.cells (b_ x P) 54)).alloc (.cells #[.string s] 9)).heap.size<=v4.heap.size:=(show ak ((w.alloc (.cells (b_ x P) 54)).alloc (.cells #[.string s] 9)).heap.size ((w.alloc (.cells (b_ x P) 54)).alloc (.cells #[.string s] 9)) v4 by exact bl).size;refine hK.out _ _ (show((fun(W:V)=>gG w P x s n13 W)) _ from FK.out _ bl) (fun hHeld=>?_);clear hK K;exact ada
  go_simp
  refine(HC.c5 _ bl).mono ?_;rintro e v5 ⟨rfl,hb5⟩;clear hHeld;refine hK.out _ _ (show((fun(W:V)=>gG w P x s n13 W)) _ from FK.out _ bl) (fun hHeld=>?_);clear hK K
  try simp only[U,sA,sB,sC]
  refine htake 24 (.agg #[.string mf,.int .i64 i5]) (hy:=fun W2 hS2=>by clear hHeld HC FK;first|(go_simp;done)|(go_simp;with_reducible rfl)|(go_simp;rfl)) (h:=?_)
  try simp only[U,sA,sB,sC]
  refine wpAnyH_ready (rs:=[28,50]) kH cK ?_;refine af (o:={ dst:=Y 37,op:=Op.call { callee:=Callee.value (Operand.func 203),args:=#[ag 35,ag 36],argTypes:=#[49,9] },type:=3,pos := "model.go:81",after:=#[{ on:=26,ground:=ah },{ on:=27,ground:=ah },{ on:=23,ground:=Ground.chain }],guard:=X }) rfl (fun K hK=>?_) ?_;rotate_left 1
  · refine af (o:={ dst:=Y 6,op:=Op.alloc 302,type:=0,pos := "model.go:72",after:=#[],guard:=X }) rfl (fun K hK=>?_) aj
    go_simp
    clear hHeld;have HZ:=(Zk.new' (W:=v5) (n:=v5.heap.size) cK).far;have hs1:w.heap.size<=v5.heap.size:=(show ak w.heap.size w v5 by exact bl).size;have hs2:((w.alloc (.cells (b_ x P) 54)).alloc (.cells #[.string s] 9)).heap.size<=v5.heap.size:=(show ak ((w.alloc (.cells (b_ x P) 54)).alloc (.cells #[.string s] 9)).heap.size ((w.alloc (.cells (b_ x P) 54)).alloc (.cells #[.string s] 9)) v5 by exact bl).size;refine hK.out _ _ (show((fun(W:V)=>gG w P x s n13 W)) _ from FK.out _ bl) (fun hHeld=>?_);clear hK K;exact ac5
  go_simp
  refine(HC.c6 _ bl).mono ?_;rintro e v6 ⟨rfl,hb6⟩;clear hHeld;refine hK.out _ _ (show((fun(W:V)=>gG w P x s n13 W)) _ from FK.out _ bl) (fun hHeld=>?_);clear hK K
  try simp only[U,sA,sB,sC]
  refine htake 29 (.agg #[.string mh,.int .i64 i6]) (hy:=fun W2 hS2=>by clear hHeld HC FK;first|(go_simp;done)|(go_simp;with_reducible rfl)|(go_simp;rfl)) (h:=?_)
  try simp only[U,sA,sB,sC]
  refine wpAnyH_ready (rs:=[33,50]) kH cK ?_;refine af (o:={ dst:=Y 42,op:=Op.call { callee:=Callee.value (Operand.func 203),args:=#[ag 40,ag 41],argTypes:=#[49,9] },type:=3,pos := "model.go:82",after:=#[{ on:=31,ground:=ah },{ on:=32,ground:=ah },{ on:=28,ground:=Ground.chain }],guard:=X }) rfl (fun K hK=>?_) ?_;rotate_left 1
  · refine af (o:={ dst:=Y 6,op:=Op.alloc 302,type:=0,pos := "model.go:72",after:=#[],guard:=X }) rfl (fun K hK=>?_) aj
    go_simp
    clear hHeld;have HZ:=(Zk.new' (W:=v6) (n:=v6.heap.size) cK).far;have hs1:w.heap.size<=v6.heap.size:=(show ak w.heap.size w v6 by exact bl).size;have hs2:((w.alloc (.cells (b_ x P) 54)).alloc (.cells #[.string s] 9)).heap.size<=v6.heap.size:=(show ak ((w.alloc (.cells (b_ x P) 54)).alloc (.cells #[.string s] 9)).heap.size ((w.alloc (.cells (b_ x P) 54)).alloc (.cells #[.string s] 9)) v6 by exact bl).size;refine hK.out _ _ (show((fun(W:V)=>gG w P x s n13 W)) _ from FK.out _ bl) (fun hHeld=>?_);clear hK K;exact ac_
  go_simp
  refine(HC.c7 _ bl).mono ?_;rintro e v7 ⟨rfl,Hg⟩;clear hHeld;refine hK.out _ _ (show((fun(W:V)=>gG w P x s n13 W)) _ from FK.out _ bl) (fun hHeld=>?_);clear hK K
  try simp only[U,sA,sB,sC]
  refine htake 34 (.agg #[.string mi,.int .i64 i7]) (hy:=fun W2 hS2=>by clear hHeld HC FK;first|(go_simp;done)|(go_simp;with_reducible rfl)|(go_simp;rfl)) (h:=?_)
  try simp only[U,sA,sB,sC]
  refine wpAnyH_ready (rs:=[38,50]) kH cK ?_;refine af (o:={ dst:=Y 47,op:=Op.call { callee:=Callee.value (Operand.func 203),args:=#[ag 45,ag 46],argTypes:=#[49,9] },type:=3,pos := "model.go:83",after:=#[{ on:=36,ground:=ah },{ on:=37,ground:=ah },{ on:=33,ground:=Ground.chain }],guard:=X }) rfl (fun K hK=>?_) ?_;rotate_left 1
  · refine af (o:={ dst:=Y 6,op:=Op.alloc 302,type:=0,pos := "model.go:72",after:=#[],guard:=X }) rfl (fun K hK=>?_) aj
    go_simp
    clear hHeld;have HZ:=(Zk.new' (W:=v7) (n:=v7.heap.size) cK).far;have hs1:w.heap.size<=v7.heap.size:=(show ak w.heap.size w v7 by exact bl).size;have hs2:((w.alloc (.cells (b_ x P) 54)).alloc (.cells #[.string s] 9)).heap.size<=v7.heap.size:=(show ak ((w.alloc (.cells (b_ x P) 54)).alloc (.cells #[.string s] 9)).heap.size ((w.alloc (.cells (b_ x P) 54)).alloc (.cells #[.string s] 9)) v7 by exact bl).size;refine hK.out _ _ (show((fun(W:V)=>gG w P x s n13 W)) _ from FK.out _ bl) (fun hHeld=>?_);clear hK K;exact ac2
  go_simp
  refine(HC.c8 _ bl).mono ?_;rintro e v8 ⟨rfl,qP⟩;clear hHeld;refine hK.out _ _ (show((fun(W:V)=>gG w P x s n13 W)) _ from FK.out _ bl) (fun hHeld=>?_);clear hK K
  try simp only[U,sA,sB,sC]
  refine htake 39 (.agg #[.string ma,.int .i64 i8]) (hy:=fun W2 hS2=>by clear hHeld HC FK;first|(go_simp;done)|(go_simp;with_reducible rfl)|(go_simp;rfl)) (h:=?_)
  try simp only[U,sA,sB,sC]
  refine wpAnyH_ready (rs:=[43,50]) kH cK ?_;refine af (o:={ dst:=Y 52,op:=Op.call { callee:=Callee.value (Operand.func 203),args:=#[ag 50,ag 51],argTypes:=#[49,9] },type:=3,pos := "model.go:84",after:=#[{ on:=41,ground:=ah },{ on:=42,ground:=ah },{ on:=38,ground:=Ground.chain }],guard:=X }) rfl (fun K hK=>?_) ?_;rotate_left 1
  · refine af (o:={ dst:=Y 6,op:=Op.alloc 302,type:=0,pos := "model.go:72",after:=#[],guard:=X }) rfl (fun K hK=>?_) aj
    go_simp
    clear hHeld;have HZ:=(Zk.new' (W:=v8) (n:=v8.heap.size) cK).far;have hs1:w.heap.size<=v8.heap.size:=(show ak w.heap.size w v8 by exact bl).size;have hs2:((w.alloc (.cells (b_ x P) 54)).alloc (.cells #[.string s] 9)).heap.size<=v8.heap.size:=(show ak ((w.alloc (.cells (b_ x P) 54)).alloc (.cells #[.string s] 9)).heap.size ((w.alloc (.cells (b_ x P) 54)).alloc (.cells #[.string s] 9)) v8 by exact bl).size;refine hK.out _ _ (show((fun(W:V)=>gG w P x s n13 W)) _ from FK.out _ bl) (fun hHeld=>?_);clear hK K;exact ac9
  go_simp
  refine(HC.c9 _ bl).mono ?_;rintro e v9 ⟨rfl,Ct⟩;clear hHeld;refine hK.out _ _ (show((fun(W:V)=>gG w P x s n13 W)) _ from FK.out _ bl) (fun hHeld=>?_);clear hK K
  try simp only[U,sA,sB,sC]
  refine htake 44 (.agg #[.string lG,.int .i64 i9]) (hy:=fun W2 hS2=>by clear hHeld HC FK;first|(go_simp;done)|(go_simp;with_reducible rfl)|(go_simp;rfl)) (h:=?_)
  try simp only[U,sA,sB,sC]
  refine wpAnyH_ready (rs:=[47,50]) kH cK ?_;refine af (o:={ dst:=Y 56,op:=Op.call { callee:=Callee.value (Operand.func 180),args:=#[ag 54,ag 55],argTypes:=#[54,9] },type:=3,pos := "model.go:85",after:=#[{ on:=45,ground:=ah },{ on:=46,ground:=ah },{ on:=43,ground:=Ground.chain }],guard:=X }) rfl (fun K hK=>?_) ?_;rotate_left 1
  · refine af (o:={ dst:=Y 6,op:=Op.alloc 302,type:=0,pos := "model.go:72",after:=#[],guard:=X }) rfl (fun K hK=>?_) aj
    go_simp
    clear hHeld;have HZ:=(Zk.new' (W:=v9) (n:=v9.heap.size) cK).far;have hs1:w.heap.size<=v9.heap.size:=(show ak w.heap.size w v9 by exact bl).size;have hs2:((w.alloc (.cells (b_ x P) 54)).alloc (.cells #[.string s] 9)).heap.size<=v9.heap.size:=(show ak ((w.alloc (.cells (b_ x P) 54)).alloc (.cells #[.string s] 9)).heap.size ((w.alloc (.cells (b_ x P) 54)).alloc (.cells #[.string s] 9)) v9 by exact bl).size;refine hK.out _ _ (show((fun(W:V)=>gG w P x s n13 W)) _ from FK.out _ bl) (fun hHeld=>?_);clear hK K;exact ac4
  go_simp
  refine(HC.c10 _ bl).mono ?_;rintro e v10 ⟨rfl,QT⟩;clear hHeld;refine hK.out _ _ (show((fun(W:V)=>gG w P x s n13 W)) _ from FK.out _ bl) (fun hHeld=>?_);clear hK K
  try simp only[U,sA,sB,sC]
  refine htake 48 (.agg #[.string lH,.int .i64 i10]) (hy:=fun W2 hS2=>by clear hHeld HC FK;first|(go_simp;done)|(go_simp;with_reducible rfl)|(go_simp;rfl)) (h:=?_)
  try simp only[U,sA,sB,sC]
  refine htake 49 (.agg #[.string mo,.int .i64 i1,.string mg,.int .i64 i2,.string lI,.int .i64 i3,.string l_,.int .i64 i4,.string mf,.int .i64 i5,.string mh,.int .i64 i6,.string mi,.int .i64 i7,.string ma,.int .i64 i8,.string lG,.int .i64 i9,.string lH,.int .i64 i10]) (hy:=fun W2 hS2=>by clear hHeld HC FK;first|(go_simp;done)|(go_simp;with_reducible rfl)|(go_simp;rfl)) (h:=?_)
  try simp only[U,sA,sB,sC]
  refine wpAnyH_ready (rs:=[50]) kH cK ?_;refine af (o:={ dst:=Y 6,op:=Op.alloc 302,type:=0,pos := "model.go:72",after:=#[],guard:=X }) rfl (fun K hK=>?_) aj
  go_simp
  clear hHeld;have HZ:=(Zk.new' (W:=v10) (n:=v10.heap.size) cK).far;have hs1:w.heap.size<=v10.heap.size:=(show ak w.heap.size w v10 by exact bl).size;have hs2:((w.alloc (.cells (b_ x P) 54)).alloc (.cells #[.string s] 9)).heap.size<=v10.heap.size:=(show ak ((w.alloc (.cells (b_ x P) 54)).alloc (.cells #[.string s] 9)).heap.size ((w.alloc (.cells (b_ x P) 54)).alloc (.cells #[.string s] 9)) v10 by exact bl).size;refine hK.out _ _ (show((fun(W:V)=>gG w P x s n13 W)) _ from FK.out _ bl) (fun hHeld=>?_);clear hK K
  try simp only[U,sA,sB,sC]
  have ta:=(HZ.out (v10.alloc (.cells #[.string ⟨#[]⟩,.int .i64 0,.string ⟨#[]⟩,.int .i64 0,.string ⟨#[]⟩,.int .i64 0,.string ⟨#[]⟩,.int .i64 0,.string ⟨#[]⟩,.int .i64 0,.string ⟨#[]⟩,.int .i64 0,.string ⟨#[]⟩,.int .i64 0,.string ⟨#[]⟩,.int .i64 0,.string ⟨#[]⟩,.int .i64 0,.string ⟨#[]⟩,.int .i64 0] 302)) bl).there (c:=#[.string mo,.int .i64 i1,.string mg,.int .i64 i2,.string lI,.int .i64 i3,.string l_,.int .i64 i4,.string mf,.int .i64 i5,.string mh,.int .i64 i6,.string mi,.int .i64 i7,.string ma,.int .i64 i8,.string lG,.int .i64 i9,.string lH,.int .i64 i10]) rfl;exact ac6
 case rest=>
 obtain⟨B,rfl,HAT,lL⟩:=hcut;have ld:=HAT.out.fZ Oo.out;have HB0:=lL.out;clear HC FK HAT;go_wp2_with fail;go_loopw [60] (fun i wr=>∃j:Nat,j<=10/\i=.int .i64 j/\Hid (ak w.heap.size w wr)/\Hid (iD words [i1,i2,i3,i4,i5,i6,i7,i8,i9,i10]=iD (words.drop j) (List.drop j [i1,i2,i3,i4,i5,i6,i7,i8,i9,i10]))) (fun i _=>10-(intOf i).toNat)
 case atStart=>exact⟨0,Nat.zero_le _,rfl,lL,av rfl⟩
 case round=>
  obtain⟨j,hj,rfl,HW,HP⟩:=hrel;have hjj:j=0∨j=1∨j=2∨j=3∨j=4∨j=5∨j=6∨j=7∨j=8∨j=9∨j=10:=by omega
  rcases hjj with rfl|rfl|rfl|rfl|rfl|rfl|rfl|rfl|rfl|rfl|rfl
  · have e:=(show iD words [i1,i2,i3,i4,i5,i6,i7,i8,i9,i10]=if 0<=i1 then (mo,i1) else iD (words.drop 1) (List.drop 1 [i1,i2,i3,i4,i5,i6,i7,i8,i9,i10]) by rw[HP.out];rfl)
    have hix:∀W2:V,(Instr.index 302 (.agg #[.string mo,.int .i64 i1,.string mg,.int .i64 i2,.string lI,.int .i64 i3,.string l_,.int .i64 i4,.string mf,.int .i64 i5,.string mh,.int .i64 i6,.string mi,.int .i64 i7,.string ma,.int .i64 i8,.string lG,.int .i64 i9,.string lH,.int .i64 i10]) (.int .i64 0)).run ai W2=.ok (.agg #[.string mo,.int .i64 i1]) W2:=fun W2=>by kernel_rfl
    by_cases g:0<=i1
    · exact y8
    · rw[if_neg g] at e;have E:=av e;have d:=decide_eq_false g;have g2:i1<0:=by omega
      clear e HP;go_wp2_with fail;go_roundw
      case rel=>exact⟨1,by omega,by go_num,av y_,E⟩
      case measure=>simp[intOf]
  · have e:=(show iD words [i1,i2,i3,i4,i5,i6,i7,i8,i9,i10]=if 0<=i2 then (mg,i2) else iD (words.drop 2) (List.drop 2 [i1,i2,i3,i4,i5,i6,i7,i8,i9,i10]) by rw[HP.out];rfl)
    have hix:∀W2:V,(Instr.index 302 (.agg #[.string mo,.int .i64 i1,.string mg,.int .i64 i2,.string lI,.int .i64 i3,.string l_,.int .i64 i4,.string mf,.int .i64 i5,.string mh,.int .i64 i6,.string mi,.int .i64 i7,.string ma,.int .i64 i8,.string lG,.int .i64 i9,.string lH,.int .i64 i10]) (.int .i64 1)).run ai W2=.ok (.agg #[.string mg,.int .i64 i2]) W2:=fun W2=>by kernel_rfl
    by_cases g:0<=i2
    · exact y8
    · rw[if_neg g] at e;have E:=av e;have d:=decide_eq_false g;have g2:i2<0:=by omega
      clear e HP;go_wp2_with fail;go_roundw
      case rel=>exact⟨2,by omega,by go_num,av y_,E⟩
      case measure=>simp[intOf]
  · have e:=(show iD words [i1,i2,i3,i4,i5,i6,i7,i8,i9,i10]=if 0<=i3 then (lI,i3) else iD (words.drop 3) (List.drop 3 [i1,i2,i3,i4,i5,i6,i7,i8,i9,i10]) by rw[HP.out];rfl)
    have hix:∀W2:V,(Instr.index 302 (.agg #[.string mo,.int .i64 i1,.string mg,.int .i64 i2,.string lI,.int .i64 i3,.string l_,.int .i64 i4,.string mf,.int .i64 i5,.string mh,.int .i64 i6,.string mi,.int .i64 i7,.string ma,.int .i64 i8,.string lG,.int .i64 i9,.string lH,.int .i64 i10]) (.int .i64 2)).run ai W2=.ok (.agg #[.string lI,.int .i64 i3]) W2:=fun W2=>by kernel_rfl
    by_cases g:0<=i3
    · exact y8
    · rw[if_neg g] at e;have E:=av e;have d:=decide_eq_false g;have g2:i3<0:=by omega
      clear e HP;go_wp2_with fail;go_roundw
      case rel=>exact⟨3,by omega,by go_num,av y_,E⟩
      case measure=>simp[intOf]
  · have e:=(show iD words [i1,i2,i3,i4,i5,i6,i7,i8,i9,i10]=if 0<=i4 then (l_,i4) else iD (words.drop 4) (List.drop 4 [i1,i2,i3,i4,i5,i6,i7,i8,i9,i10]) by rw[HP.out];rfl)
    have hix:∀W2:V,(Instr.index 302 (.agg #[.string mo,.int .i64 i1,.string mg,.int .i64 i2,.string lI,.int .i64 i3,.string l_,.int .i64 i4,.string mf,.int .i64 i5,.string mh,.int .i64 i6,.string mi,.int .i64 i7,.string ma,.int .i64 i8,.string lG,.int .i64 i9,.string lH,.int .i64 i10]) (.int .i64 3)).run ai W2=.ok (.agg #[.string l_,.int .i64 i4]) W2:=fun W2=>by kernel_rfl
    by_cases g:0<=i4
    · exact y8
    · rw[if_neg g] at e;have E:=av e;have d:=decide_eq_false g;have g2:i4<0:=by omega
      clear e HP;go_wp2_with fail;go_roundw
      case rel=>exact⟨4,by omega,by go_num,av y_,E⟩
      case measure=>simp[intOf]
  · have e:=(show iD words [i1,i2,i3,i4,i5,i6,i7,i8,i9,i10]=if 0<=i5 then (mf,i5) else iD (words.drop 5) (List.drop 5 [i1,i2,i3,i4,i5,i6,i7,i8,i9,i10]) by rw[HP.out];rfl)
    have hix:∀W2:V,(Instr.index 302 (.agg #[.string mo,.int .i64 i1,.string mg,.int .i64 i2,.string lI,.int .i64 i3,.string l_,.int .i64 i4,.string mf,.int .i64 i5,.string mh,.int .i64 i6,.string mi,.int .i64 i7,.string ma,.int .i64 i8,.string lG,.int .i64 i9,.string lH,.int .i64 i10]) (.int .i64 4)).run ai W2=.ok (.agg #[.string mf,.int .i64 i5]) W2:=fun W2=>by kernel_rfl
    by_cases g:0<=i5
    · exact y8
    · rw[if_neg g] at e;have E:=av e;have d:=decide_eq_false g;have g2:i5<0:=by omega
      clear e HP;go_wp2_with fail;go_roundw
      case rel=>exact⟨5,by omega,by go_num,av y_,E⟩
      case measure=>simp[intOf]
  · have e:=(show iD words [i1,i2,i3,i4,i5,i6,i7,i8,i9,i10]=if 0<=i6 then (mh,i6) else iD (words.drop 6) (List.drop 6 [i1,i2,i3,i4,i5,i6,i7,i8,i9,i10]) by rw[HP.out];rfl)
    have hix:∀W2:V,(Instr.index 302 (.agg #[.string mo,.int .i64 i1,.string mg,.int .i64 i2,.string lI,.int .i64 i3,.string l_,.int .i64 i4,.string mf,.int .i64 i5,.string mh,.int .i64 i6,.string mi,.int .i64 i7,.string ma,.int .i64 i8,.string lG,.int .i64 i9,.string lH,.int .i64 i10]) (.int .i64 5)).run ai W2=.ok (.agg #[.string mh,.int .i64 i6]) W2:=fun W2=>by kernel_rfl
    by_cases g:0<=i6
    · exact y8
    · rw[if_neg g] at e;have E:=av e;have d:=decide_eq_false g;have g2:i6<0:=by omega
      clear e HP;go_wp2_with fail;go_roundw
      case rel=>exact⟨6,by omega,by go_num,av y_,E⟩
      case measure=>simp[intOf]
  · have e:=(show iD words [i1,i2,i3,i4,i5,i6,i7,i8,i9,i10]=if 0<=i7 then (mi,i7) else iD (words.drop 7) (List.drop 7 [i1,i2,i3,i4,i5,i6,i7,i8,i9,i10]) by rw[HP.out];rfl)
    have hix:∀W2:V,(Instr.index 302 (.agg #[.string mo,.int .i64 i1,.string mg,.int .i64 i2,.string lI,.int .i64 i3,.string l_,.int .i64 i4,.string mf,.int .i64 i5,.string mh,.int .i64 i6,.string mi,.int .i64 i7,.string ma,.int .i64 i8,.string lG,.int .i64 i9,.string lH,.int .i64 i10]) (.int .i64 6)).run ai W2=.ok (.agg #[.string mi,.int .i64 i7]) W2:=fun W2=>by kernel_rfl
    by_cases g:0<=i7
    · exact y8
    · rw[if_neg g] at e;have E:=av e;have d:=decide_eq_false g;have g2:i7<0:=by omega
      clear e HP;go_wp2_with fail;go_roundw
      case rel=>exact⟨7,by omega,by go_num,av y_,E⟩
      case measure=>simp[intOf]
  · have e:=(show iD words [i1,i2,i3,i4,i5,i6,i7,i8,i9,i10]=if 0<=i8 then (ma,i8) else iD (words.drop 8) (List.drop 8 [i1,i2,i3,i4,i5,i6,i7,i8,i9,i10]) by rw[HP.out];rfl)
    have hix:∀W2:V,(Instr.index 302 (.agg #[.string mo,.int .i64 i1,.string mg,.int .i64 i2,.string lI,.int .i64 i3,.string l_,.int .i64 i4,.string mf,.int .i64 i5,.string mh,.int .i64 i6,.string mi,.int .i64 i7,.string ma,.int .i64 i8,.string lG,.int .i64 i9,.string lH,.int .i64 i10]) (.int .i64 7)).run ai W2=.ok (.agg #[.string ma,.int .i64 i8]) W2:=fun W2=>by kernel_rfl
    by_cases g:0<=i8
    · exact y8
    · rw[if_neg g] at e;have E:=av e;have d:=decide_eq_false g;have g2:i8<0:=by omega
      clear e HP;go_wp2_with fail;go_roundw
      case rel=>exact⟨8,by omega,by go_num,av y_,E⟩
      case measure=>simp[intOf]
  · have e:=(show iD words [i1,i2,i3,i4,i5,i6,i7,i8,i9,i10]=if 0<=i9 then (lG,i9) else iD (words.drop 9) (List.drop 9 [i1,i2,i3,i4,i5,i6,i7,i8,i9,i10]) by rw[HP.out];rfl)
    have hix:∀W2:V,(Instr.index 302 (.agg #[.string mo,.int .i64 i1,.string mg,.int .i64 i2,.string lI,.int .i64 i3,.string l_,.int .i64 i4,.string mf,.int .i64 i5,.string mh,.int .i64 i6,.string mi,.int .i64 i7,.string ma,.int .i64 i8,.string lG,.int .i64 i9,.string lH,.int .i64 i10]) (.int .i64 8)).run ai W2=.ok (.agg #[.string lG,.int .i64 i9]) W2:=fun W2=>by kernel_rfl
    by_cases g:0<=i9
    · exact y8
    · rw[if_neg g] at e;have E:=av e;have d:=decide_eq_false g;have g2:i9<0:=by omega
      clear e HP;go_wp2_with fail;go_roundw
      case rel=>exact⟨9,by omega,by go_num,av y_,E⟩
      case measure=>simp[intOf]
  · have e:=(show iD words [i1,i2,i3,i4,i5,i6,i7,i8,i9,i10]=if 0<=i10 then (lH,i10) else iD (words.drop 10) (List.drop 10 [i1,i2,i3,i4,i5,i6,i7,i8,i9,i10]) by rw[HP.out];rfl)
    have hix:∀W2:V,(Instr.index 302 (.agg #[.string mo,.int .i64 i1,.string mg,.int .i64 i2,.string lI,.int .i64 i3,.string l_,.int .i64 i4,.string mf,.int .i64 i5,.string mh,.int .i64 i6,.string mi,.int .i64 i7,.string ma,.int .i64 i8,.string lG,.int .i64 i9,.string lH,.int .i64 i10]) (.int .i64 9)).run ai W2=.ok (.agg #[.string lH,.int .i64 i10]) W2:=fun W2=>by kernel_rfl
    by_cases g:0<=i10
    · exact y8
    · rw[if_neg g] at e;have E:=av e;have d:=decide_eq_false g;have g2:i10<0:=by omega
      clear e HP;go_wp2_with fail;go_roundw
      case rel=>exact⟨10,by omega,by go_num,av y_,E⟩
      case measure=>simp[intOf]
  · have HE:=av (show iD words [i1,i2,i3,i4,i5,i6,i7,i8,i9,i10]=(Sm.nE,-1) by rw[HP.out];rfl);clear HP;go_wp2_with fail;go_ret2
    exact⟨by rw[HE.out];rfl,by have bY:=HW.out;exact bl⟩
theorem alh (x:cz) (P:eP) (s:ByteArray) (w:V) (hx:iL (Lo w.heap.size) w x P):au ai 221 #[.agg (b_ x P),.string s] w (Gives (.tuple #[.string (zK x s),.int .i64 (Ht x s)]) w):=by
 obtain⟨n13,n20,h13,h20,hn,i1,i2,i3,i4,i5,i6,i7,i8,i9,i10,HC,FK,hp⟩:=ali x P s w hx;rw[show zK x s=(iD words [i1,i2,i3,i4,i5,i6,i7,i8,i9,i10]).1 by rw[← hp],show Ht x s=(iD words [i1,i2,i3,i4,i5,i6,i7,i8,i9,i10]).2 by rw[← hp]];exact alj x P s w n13 n20 h13 h20 hn i1 i2 i3 i4 i5 i6 i7 i8 i9 i10 HC FK
theorem ajN (x:cz) (P:eP) (s:ByteArray) (w:V) (hx:iL (Lo w.heap.size) w x P):au ai 216 #[.agg (b_ x P),.string s] w (Gives (.string (zK x s)) w):=by
 have CP:=av (fun W (hW:ak w.heap.size w W)=>alh x P s W (hx.on hW));obtain⟨n13,ji⟩:∃n:Nat,13=n:=⟨_,rfl⟩
 have AR:∀w,(sizeOf 54).run ai w=.ok n13 w:=fun w=>by rw[Tryz.sizeOf54,ji]
 have aoL:=fun W=>run_loadCellsFrom_new (P:=ai) W 54 (b_ x P) n13 (by rw[Pv];exact ji);clear hx ji;go_enter Tryz.func216,Tryz.ntmps216;go_wp2_with fail;refine(CP.out _ bl).mono ?_;exact Jt
theorem ajM:uk:=ajN
end Md
end Go.Proofs.YtkpekhpgdajabaaGreatDoor
