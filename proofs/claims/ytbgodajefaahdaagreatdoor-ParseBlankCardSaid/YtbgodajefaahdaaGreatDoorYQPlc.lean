/-
  Parts of this proof: The contracts of place, Kind and Index.
-/
import Derived.Test.YtbgodajefaahdaaGreatDoorYQTrm
open Go.Ground renaming phase->ae,data->ah
open Go.AllReadyH renaming cons->af,nil->aj
open Go.Operand renaming tmp->ag
open Go.Act renaming put->U
open Go.Proofs.Tryz renaming prog->ai
open Go renaming World->V,Calls->au
open Go.RowKit renaming Below->ak
open Option renaming none->X,some->Y
open Go.Lib renaming hid->av
set_option linter.unusedSimpArgs false
set_option linter.unusedVariables false
open Go.Lib (hid)
namespace Go.Proofs.YtbgodajefaahdaaGreatDoor
namespace Md
open Go.RowKit
open Na (Strs fst)
open Ex (Lo Gives y_)
set_option maxHeartbeats 8000000
set_option linter.unusedSimpArgs false
theorem aiQ:Big 295 20:=⟨⟨_,Tryz.underlying295,rfl⟩,by kernel_rfl⟩
def Zk (W:V) (B:Nat):Prop:=W.heap[B]?=Y (.cells #[.string ⟨#[]⟩,.int .i64 0,.string ⟨#[]⟩,.int .i64 0,.string ⟨#[]⟩,.int .i64 0,.string ⟨#[]⟩,.int .i64 0,.string ⟨#[]⟩,.int .i64 0,.string ⟨#[]⟩,.int .i64 0,.string ⟨#[]⟩,.int .i64 0,.string ⟨#[]⟩,.int .i64 0,.string ⟨#[]⟩,.int .i64 0,.string ⟨#[]⟩,.int .i64 0] 295 (0,0))
theorem Zk.new {W:V}:Zk (W.alloc (.cells #[.string ⟨#[]⟩,.int .i64 0,.string ⟨#[]⟩,.int .i64 0,.string ⟨#[]⟩,.int .i64 0,.string ⟨#[]⟩,.int .i64 0,.string ⟨#[]⟩,.int .i64 0,.string ⟨#[]⟩,.int .i64 0,.string ⟨#[]⟩,.int .i64 0,.string ⟨#[]⟩,.int .i64 0,.string ⟨#[]⟩,.int .i64 0,.string ⟨#[]⟩,.int .i64 0] 295)) W.heap.size:=World.alloc_heap_new W _
theorem Zk.far {W:V} {B:Nat} (h:Zk W B):Hid (∀W2,ak W.heap.size W W2->Zk W2 B):=av fun _ hb=>(hb.block B (Array.getElem?_eq_some_iff.1 h).1).trans h
theorem Zk.there {W:V} {B:Nat} (h:Zk W B) {c:Array Value} (hs:c.size=20):W.there B 0 c.size:=fun j hj=>by
 rw[hs] at hj;rw[Nat.zero_add,cell_of_row W B j _ _ _ h,Array.getElem?_eq_getElem (by simpa using hj)];exact⟨rfl,by unfold World.frozen?; rw[show W.heap[(⟨B,j,X⟩:Addr).block]?=_ from h];simp⟩
theorem Zk.new' {W:V} {n:Nat} (h:W.heap.size=n):Zk (W.alloc (.cells #[.string ⟨#[]⟩,.int .i64 0,.string ⟨#[]⟩,.int .i64 0,.string ⟨#[]⟩,.int .i64 0,.string ⟨#[]⟩,.int .i64 0,.string ⟨#[]⟩,.int .i64 0,.string ⟨#[]⟩,.int .i64 0,.string ⟨#[]⟩,.int .i64 0,.string ⟨#[]⟩,.int .i64 0,.string ⟨#[]⟩,.int .i64 0,.string ⟨#[]⟩,.int .i64 0] 295)) n:=by subst h;exact Zk.new
theorem apL {W:V} {B:Nat} {c:Array Value} (h:W.there B 0 c.size):At (W.setCells B 0 c.toList) B 0 c:=fun r v hv=>World.rangeAt_setCells_same W B 0 c.toList (by rw[Array.length_toList];exact h) r v (by rwa [Array.getElem?_toList])
theorem ZM {a:V} {b:Nat} (hb:a.heap.size<=b):∀(vs:List Value) (o:Nat) (w:V),ak a.heap.size a w->ak a.heap.size a (w.setCells b o vs)
 | [],_,_,h=>h
 | v::t,o,w,h=>ZM hb t (o+1) _ (y_ h hb v)
theorem ZL {a w:V} {b o:Nat} {vs:List Value} (h:ak a.heap.size a w) (hb:a.heap.size<=b):ak a.heap.size a (w.setCells b o vs):=ZM hb vs o w h
theorem JE (p:Option Addr) (m c:Nat) (l:List ByteArray) (s:ByteArray) (w:V) {v:Int} (hv:fst l s=v) (hb:Strs w p m l):au ai 189 #[.slice p m c,.string s] w (Gives (.int .i64 v) w):=by
 subst hv;exact(Na.abm p m c l s w hb).mono fun e w' h=>⟨h.1,by rw[h.2];exact Below.refl _ _⟩
structure gQ (w:V) (P:fe) (x:b_) (s:ByteArray) (n13:Nat) (W:V):Prop where
 f1:W.cell? ⟨w.heap.size,1,X⟩=Y (.slice P.jb P.ja P.i_)
 f2:W.cell? ⟨w.heap.size,2,X⟩=Y (.slice P.jD P.dS P.gq)
 f3:W.cell? ⟨w.heap.size,3,X⟩=Y (.slice P.jT P.dD P.kD)
 f4:W.cell? ⟨w.heap.size,4,X⟩=Y (.slice P.kJ P.eF P.kV)
 f5:W.cell? ⟨w.heap.size,5,X⟩=Y (.slice P.vQ P.vP P.vO)
 f6:W.cell? ⟨w.heap.size,6,X⟩=Y (.slice P.sU P.sS P.sQ)
 f7:W.cell? ⟨w.heap.size,7,X⟩=Y (.slice P.vU P.vT P.tac)
 f8:W.cell? ⟨w.heap.size,8,X⟩=Y (.slice P.vE P.vD P.vC)
 f9:W.cell? ⟨w.heap.size,9,X⟩=Y (.slice P.uZ P.uY P.uX)
 f10:W.cell? ⟨w.heap.size+1,0,X⟩=Y (.string s)
 f11:(loadCellsFrom ⟨w.heap.size,0,X⟩ 0 n13 #[]).run ai W=.ok (bX x P) W
structure YN (w:V) (P:fe) (x:b_) (s:ByteArray) (i1 i2 i3 i4 i5 i6 i7 i8 i9 i10:Int):Prop where
 c1:∀W,ak w.heap.size w W->W.cell? ⟨w.heap.size+1,0,X⟩=Y (.string s)->au ai 215 #[.slice P.jb P.ja P.i_,.func (.func 216) #[] #[.pointer (Y ⟨w.heap.size+1,0,X⟩)]] W (Gives (.int .i64 i1) W)
 c2:∀W,ak w.heap.size w W->W.cell? ⟨w.heap.size+1,0,X⟩=Y (.string s)->au ai 217 #[.slice P.jD P.dS P.gq,.func (.func 218) #[] #[.pointer (Y ⟨w.heap.size+1,0,X⟩)]] W (Gives (.int .i64 i2) W)
 c3:∀W,ak w.heap.size w W->W.cell? ⟨w.heap.size+1,0,X⟩=Y (.string s)->au ai 219 #[.slice P.jT P.dD P.kD,.func (.func 220) #[] #[.pointer (Y ⟨w.heap.size+1,0,X⟩)]] W (Gives (.int .i64 i3) W)
 c4:∀W,ak w.heap.size w W->W.cell? ⟨w.heap.size+1,0,X⟩=Y (.string s)->au ai 221 #[.slice P.kJ P.eF P.kV,.func (.func 222) #[] #[.pointer (Y ⟨w.heap.size+1,0,X⟩)]] W (Gives (.int .i64 i4) W)
 c5:∀W,ak w.heap.size w W->au ai 189 #[.slice P.vQ P.vP P.vO,.string s] W (Gives (.int .i64 i5) W)
 c6:∀W,ak w.heap.size w W->au ai 189 #[.slice P.sU P.sS P.sQ,.string s] W (Gives (.int .i64 i6) W)
 c7:∀W,ak w.heap.size w W->au ai 189 #[.slice P.vU P.vT P.tac,.string s] W (Gives (.int .i64 i7) W)
 c8:∀W,ak w.heap.size w W->au ai 189 #[.slice P.vE P.vD P.vC,.string s] W (Gives (.int .i64 i8) W)
 c9:∀W,ak w.heap.size w W->au ai 189 #[.slice P.uZ P.uY P.uX,.string s] W (Gives (.int .i64 i9) W)
 c10:∀W,ak w.heap.size w W->au ai 164 #[.agg (bX x P),.string s] W (Gives (.int .i64 i10) W)
def iZ:List ByteArray->List Int->ByteArray×Int
 | w::t,i::u=>if 0<=i then (w,i) else iZ t u
 | _,_=>(Sm.nE,-1)
theorem aeu:∀(ws:List ByteArray) (L:List (List ByteArray)) (s:ByteArray),iZ ws (L.map fun l=>fst l s)=Kz ws L s
 | [],_,_=>rfl
 | _::_,[],_=>rfl
 | w::t,l::u,s=>by rw[List.map_cons,iZ,Kz,aeu]
theorem apD {x:b_} {s:ByteArray}:iZ words ((names x).map fun l=>fst l s)=(AP x s,JV x s):=aeu _ _ _
set_option maxRecDepth 100000 in
theorem apB (x:b_) (P:fe) (s:ByteArray) (w:V) (hx:iT (Lo w.heap.size) w x P):∃(n13 n20:Nat) (_:∀w,(sizeOf 53).run ai w=.ok n13 w) (_:∀w,(sizeOf 295).run ai w=.ok n20 w) (_:Hid (20=n20)) (i1 i2 i3 i4 i5 i6 i7 i8 i9 i10:Int) (_:YN w P x s i1 i2 i3 i4 i5 i6 i7 i8 i9 i10) (_:Hid (∀W,ak ((w.alloc (.cells (bX x P) 53)).alloc (.cells #[.string s] 9)).heap.size ((w.alloc (.cells (bX x P) 53)).alloc (.cells #[.string s] 9)) W->gQ w P x s n13 W)),(AP x s,JV x s)=iZ words [i1,i2,i3,i4,i5,i6,i7,i8,i9,i10]:=by
 have HX:=av hx;clear hx;have FX:=rq (w:=w) 53 9 (bX x P) #[.string s];obtain⟨i1,h1⟩:∃i,fst (x.va.map (·.nm)) s=i:=⟨_,rfl⟩
 obtain⟨i2,h2⟩:∃i,fst (x.rs.map (·.nm)) s=i:=⟨_,rfl⟩
 obtain⟨i3,h3⟩:∃i,fst (x.st.map (·.nm)) s=i:=⟨_,rfl⟩
 obtain⟨i4,h4⟩:∃i,fst (x.be.map (·.nm)) s=i:=⟨_,rfl⟩
 obtain⟨i5,h5⟩:∃i,fst (x.qu) s=i:=⟨_,rfl⟩
 obtain⟨i6,h6⟩:∃i,fst (x.sm) s=i:=⟨_,rfl⟩
 obtain⟨i7,h7⟩:∃i,fst (x.ta) s=i:=⟨_,rfl⟩
 obtain⟨i8,h8⟩:∃i,fst (x.le) s=i:=⟨_,rfl⟩
 obtain⟨i9,h9⟩:∃i,fst (x.co) s=i:=⟨_,rfl⟩
 obtain⟨i10,h10⟩:∃i,fst (x.ro.map (·.nm)) s=i:=⟨_,rfl⟩
 have HR:=av (show(AP x s,JV x s)=iZ words [i1,i2,i3,i4,i5,i6,i7,i8,i9,i10] by rw[← apD];unfold names;simp only[List.map_cons,List.map_nil,h1,h2,h3,h4,h5,h6,h7,h8,h9,h10]);have C1:=av (fun W (hW:ak w.heap.size w W) (hn:W.cell? ⟨w.heap.size+1,0,X⟩=Y (.string s))=>(show au ai 215 #[.slice P.jb P.ja P.i_,.func (.func 216) #[] #[.pointer (Y ⟨w.heap.size+1,0,X⟩)]] W (Gives (.int .i64 i1) W) by rw[← h1];exact amd s _ (HX.out.va.on fV.map hW) hn));have C2:=av (fun W (hW:ak w.heap.size w W) (hn:W.cell? ⟨w.heap.size+1,0,X⟩=Y (.string s))=>(show au ai 217 #[.slice P.jD P.dS P.gq,.func (.func 218) #[] #[.pointer (Y ⟨w.heap.size+1,0,X⟩)]] W (Gives (.int .i64 i2) W) by rw[← h2];exact al_ s _ (HX.out.rs.on iV.map hW) hn));have C3:=av (fun W (hW:ak w.heap.size w W) (hn:W.cell? ⟨w.heap.size+1,0,X⟩=Y (.string s))=>(show au ai 219 #[.slice P.jT P.dD P.kD,.func (.func 220) #[] #[.pointer (Y ⟨w.heap.size+1,0,X⟩)]] W (Gives (.int .i64 i3) W) by rw[← h3];exact amc s _ (HX.out.st.on jZ.map hW) hn));have C4:=av (fun W (hW:ak w.heap.size w W) (hn:W.cell? ⟨w.heap.size+1,0,X⟩=Y (.string s))=>(show au ai 221 #[.slice P.kJ P.eF P.kV,.func (.func 222) #[] #[.pointer (Y ⟨w.heap.size+1,0,X⟩)]] W (Gives (.int .i64 i4) W) by rw[← h4];exact al9 s _ (HX.out.be.on jY.map hW) hn));have C5:=av (fun W (hW:ak w.heap.size w W)=>JE P.vQ P.vP P.vO x.qu s W h5 (HX.out.qu.on dP.map hW).strs);have C6:=av (fun W (hW:ak w.heap.size w W)=>JE P.sU P.sS P.sQ x.sm s W h6 (HX.out.sm.on dP.map hW).strs);have C7:=av (fun W (hW:ak w.heap.size w W)=>JE P.vU P.vT P.tac x.ta s W h7 (HX.out.ta.on dP.map hW).strs);have C8:=av (fun W (hW:ak w.heap.size w W)=>JE P.vE P.vD P.vC x.le s W h8 (HX.out.le.on dP.map hW).strs);have C9:=av (fun W (hW:ak w.heap.size w W)=>JE P.uZ P.uY P.uX x.co s W h9 (HX.out.co.on dP.map hW).strs);have Ra:=av (fun W (hW:ak w.heap.size w W)=>(show au ai 164 #[.agg (bX x P),.string s] W (Gives (.int .i64 i10) W) by rw[← h10];exact P5 x P s W (HX.out.ro.on gT.map hW)));obtain⟨n13,jM⟩:∃n:Nat,13=n:=⟨_,rfl⟩
 have Cu:∀w,(sizeOf 53).run ai w=.ok n13 w:=fun w=>by rw[Tryz.sizeOf53,jM]
 obtain⟨n20,Ui⟩:∃n:Nat,20=n:=⟨_,rfl⟩
 have acA:∀w,(sizeOf 295).run ai w=.ok n20 w:=fun w=>by rw[Tryz.sizeOf295,Ui]
 have Rs:=av Ui;have FK:Hid (∀W,ak ((w.alloc (.cells (bX x P) 53)).alloc (.cells #[.string s] 9)).heap.size ((w.alloc (.cells (bX x P) 53)).alloc (.cells #[.string s] 9)) W->gQ w P x s n13 W):=av fun W hb=>by
  have q:=FX.out W hb;exact⟨q.1.get (Jk x P),q.1.get (Ei x P),q.1.get (Ej x P),q.1.get (El x P),q.1.get (Jl x P),q.1.get (Gh x P),q.1.get (Jm x P),q.1.get (Jn x P),q.1.get (Jo x P),q.2.get rfl,q.1.cell.dW jM⟩
 clear HX FX jM Ui h1 h2 h3 h4 h5 h6 h7 h8 h9 h10;exact⟨n13,n20,Cu,acA,Rs,i1,i2,i3,i4,i5,i6,i7,i8,i9,i10,⟨C1.out,C2.out,C3.out,C4.out,C5.out,C6.out,C7.out,C8.out,C9.out,Ra.out⟩,FK,HR.out⟩
theorem lL {p:Prop} (h:p:=by kernel_rfl):p:=h
theorem agA {p:Prop} (h:p:=by
 refine wpAnyH_ready (rs:=[51]) lL (by simp) ?_;refine af (o:={ dst:=X,op:=Op.store 295 (ag 6) (ag 58),type:=0,pos := "model.go:72",after:=#[{ on:=50,ground:=ah },{ on:=49,ground:=ah },{ on:=47,ground:=Ground.chain },{ on:=0,ground:=ae },{ on:=1,ground:=ae },{ on:=2,ground:=ae },{ on:=3,ground:=ae },{ on:=4,ground:=ae },{ on:=5,ground:=ae },{ on:=6,ground:=ae },{ on:=7,ground:=ae },{ on:=8,ground:=ae },{ on:=9,ground:=ae },{ on:=10,ground:=ae },{ on:=11,ground:=ae },{ on:=12,ground:=ae },{ on:=13,ground:=ae },{ on:=14,ground:=ae },{ on:=15,ground:=ae },{ on:=16,ground:=ae },{ on:=17,ground:=ae },{ on:=18,ground:=ae },{ on:=19,ground:=ae },{ on:=20,ground:=ae },{ on:=21,ground:=ae },{ on:=22,ground:=ae },{ on:=23,ground:=ae },{ on:=24,ground:=ae },{ on:=25,ground:=ae },{ on:=26,ground:=ae },{ on:=27,ground:=ae },{ on:=28,ground:=ae },{ on:=29,ground:=ae },{ on:=30,ground:=ae },{ on:=31,ground:=ae },{ on:=32,ground:=ae },{ on:=33,ground:=ae },{ on:=34,ground:=ae },{ on:=35,ground:=ae },{ on:=36,ground:=ae },{ on:=37,ground:=ae },{ on:=38,ground:=ae },{ on:=39,ground:=ae },{ on:=40,ground:=ae },{ on:=41,ground:=ae },{ on:=42,ground:=ae },{ on:=43,ground:=ae },{ on:=44,ground:=ae },{ on:=45,ground:=ae },{ on:=46,ground:=ae },{ on:=47,ground:=ae },{ on:=48,ground:=ae },{ on:=49,ground:=ae },{ on:=50,ground:=ae }],guard:=X }) rfl (fun K hK=>?_) aj;refine wp_store_mid _ _ _ rfl _ _ #[.string nR,.int .i64 i1,.string nO,.int .i64 i2,.string mV,.int .i64 i3,.string nK,.int .i64 i4,.string nN,.int .i64 i5,.string nP,.int .i64 i6,.string nQ,.int .i64 i7,.string nL,.int .i64 i8,.string mR,.int .i64 i9,.string mU,.int .i64 i10] rfl rfl ta aiQ.2 (by simp[Value.oneCell']) ?_;clear hHeld;have tp:=apL ta;refine hK.out _ _ (show((fun(W:V)=>gQ w P x s n13 W)) _ from FK.out _ (ZL bl hs2)) (fun hHeld=>?_);clear hK K
 try simp only[U,sA,sB,sC]
 refine wpAnyH_done lL ?_ _
 try refine NoPanic.normal ?_
 go_wp2_with fail
 go_meet
 exact⟨_,rfl,av tp,av (ZL bl hs1)⟩
 ):p:=h
theorem agy {p:Prop} (h:p:=by
 try simp only[U,sA,sB,sC]
 refine wpAnyH_ready (rs:=[47]) lL (by simp) ?_;refine af (o:={ dst:=Y 56,op:=Op.call { callee:=Callee.value (Operand.func 164),args:=#[ag 54,ag 55],argTypes:=#[53,9] },type:=3,pos := "model.go:85",after:=#[{ on:=45,ground:=ah },{ on:=46,ground:=ah },{ on:=43,ground:=Ground.chain }],guard:=X }) rfl (fun K hK=>?_) aj
 go_simp
 refine(HC.c10 _ bl).mono ?_;rintro e v10 ⟨rfl,T_⟩;clear hHeld;refine hK.out _ _ (show((fun(W:V)=>gQ w P x s n13 W)) _ from FK.out _ bl) (fun hHeld=>?_);clear hK K
 try simp only[U,sA,sB,sC]
 refine htake 48 (.agg #[.string mU,.int .i64 i10]) (hy:=fun W2 hS2=>by clear hHeld HC FK;first|(go_simp;done)|(go_simp;with_reducible rfl)|(go_simp;rfl)) (h:=?_)
 try simp only[U,sA,sB,sC]
 refine htake 49 (.agg #[.string nR,.int .i64 i1,.string nO,.int .i64 i2,.string mV,.int .i64 i3,.string nK,.int .i64 i4,.string nN,.int .i64 i5,.string nP,.int .i64 i6,.string nQ,.int .i64 i7,.string nL,.int .i64 i8,.string mR,.int .i64 i9,.string mU,.int .i64 i10]) (hy:=fun W2 hS2=>by clear hHeld HC FK;first|(go_simp;done)|(go_simp;with_reducible rfl)|(go_simp;rfl)) (h:=?_)
 try simp only[U,sA,sB,sC]
 have ta:=(HZ.out v10 bl).there (c:=#[.string nR,.int .i64 i1,.string nO,.int .i64 i2,.string mV,.int .i64 i3,.string nK,.int .i64 i4,.string nN,.int .i64 i5,.string nP,.int .i64 i6,.string nQ,.int .i64 i7,.string nL,.int .i64 i8,.string mR,.int .i64 i9,.string mU,.int .i64 i10]) rfl;exact agA
 ):p:=h
theorem agD {p:Prop} (h:p:=by
 try simp only[U,sA,sB,sC]
 refine wpAnyH_ready (rs:=[43]) lL (by simp) ?_;refine af (o:={ dst:=Y 52,op:=Op.call { callee:=Callee.value (Operand.func 189),args:=#[ag 50,ag 51],argTypes:=#[48,9] },type:=3,pos := "model.go:84",after:=#[{ on:=41,ground:=ah },{ on:=42,ground:=ah },{ on:=38,ground:=Ground.chain }],guard:=X }) rfl (fun K hK=>?_) aj
 go_simp
 refine(HC.c9 _ bl).mono ?_;rintro e v9 ⟨rfl,Ev⟩;clear hHeld;refine hK.out _ _ (show((fun(W:V)=>gQ w P x s n13 W)) _ from FK.out _ bl) (fun hHeld=>?_);clear hK K
 try simp only[U,sA,sB,sC]
 refine htake 44 (.agg #[.string mR,.int .i64 i9]) (hy:=fun W2 hS2=>by clear hHeld HC FK;first|(go_simp;done)|(go_simp;with_reducible rfl)|(go_simp;rfl)) (h:=?_);exact agy
 ):p:=h
theorem agw {p:Prop} (h:p:=by
 try simp only[U,sA,sB,sC]
 refine wpAnyH_ready (rs:=[38]) lL (by simp) ?_;refine af (o:={ dst:=Y 47,op:=Op.call { callee:=Callee.value (Operand.func 189),args:=#[ag 45,ag 46],argTypes:=#[48,9] },type:=3,pos := "model.go:83",after:=#[{ on:=36,ground:=ah },{ on:=37,ground:=ah },{ on:=33,ground:=Ground.chain }],guard:=X }) rfl (fun K hK=>?_) aj
 go_simp
 refine(HC.c8 _ bl).mono ?_;rintro e v8 ⟨rfl,sw⟩;clear hHeld;refine hK.out _ _ (show((fun(W:V)=>gQ w P x s n13 W)) _ from FK.out _ bl) (fun hHeld=>?_);clear hK K
 try simp only[U,sA,sB,sC]
 refine htake 39 (.agg #[.string nL,.int .i64 i8]) (hy:=fun W2 hS2=>by clear hHeld HC FK;first|(go_simp;done)|(go_simp;with_reducible rfl)|(go_simp;rfl)) (h:=?_);exact agD
 ):p:=h
theorem agE {p:Prop} (h:p:=by
 try simp only[U,sA,sB,sC]
 refine wpAnyH_ready (rs:=[33]) lL (by simp) ?_;refine af (o:={ dst:=Y 42,op:=Op.call { callee:=Callee.value (Operand.func 189),args:=#[ag 40,ag 41],argTypes:=#[48,9] },type:=3,pos := "model.go:82",after:=#[{ on:=31,ground:=ah },{ on:=32,ground:=ah },{ on:=28,ground:=Ground.chain }],guard:=X }) rfl (fun K hK=>?_) aj
 go_simp
 refine(HC.c7 _ bl).mono ?_;rintro e v7 ⟨rfl,JO⟩;clear hHeld;refine hK.out _ _ (show((fun(W:V)=>gQ w P x s n13 W)) _ from FK.out _ bl) (fun hHeld=>?_);clear hK K
 try simp only[U,sA,sB,sC]
 refine htake 34 (.agg #[.string nQ,.int .i64 i7]) (hy:=fun W2 hS2=>by clear hHeld HC FK;first|(go_simp;done)|(go_simp;with_reducible rfl)|(go_simp;rfl)) (h:=?_);exact agw
 ):p:=h
theorem agz {p:Prop} (h:p:=by
 try simp only[U,sA,sB,sC]
 refine wpAnyH_ready (rs:=[28]) lL (by simp) ?_;refine af (o:={ dst:=Y 37,op:=Op.call { callee:=Callee.value (Operand.func 189),args:=#[ag 35,ag 36],argTypes:=#[48,9] },type:=3,pos := "model.go:81",after:=#[{ on:=26,ground:=ah },{ on:=27,ground:=ah },{ on:=23,ground:=Ground.chain }],guard:=X }) rfl (fun K hK=>?_) aj
 go_simp
 refine(HC.c6 _ bl).mono ?_;rintro e v6 ⟨rfl,hb6⟩;clear hHeld;refine hK.out _ _ (show((fun(W:V)=>gQ w P x s n13 W)) _ from FK.out _ bl) (fun hHeld=>?_);clear hK K
 try simp only[U,sA,sB,sC]
 refine htake 29 (.agg #[.string nP,.int .i64 i6]) (hy:=fun W2 hS2=>by clear hHeld HC FK;first|(go_simp;done)|(go_simp;with_reducible rfl)|(go_simp;rfl)) (h:=?_);exact agE
 ):p:=h
theorem agF {p:Prop} (h:p:=by
 try simp only[U,sA,sB,sC]
 refine wpAnyH_ready (rs:=[23]) lL (by simp) ?_;refine af (o:={ dst:=Y 32,op:=Op.call { callee:=Callee.value (Operand.func 189),args:=#[ag 30,ag 31],argTypes:=#[48,9] },type:=3,pos := "model.go:80",after:=#[{ on:=21,ground:=ah },{ on:=22,ground:=ah },{ on:=18,ground:=Ground.chain }],guard:=X }) rfl (fun K hK=>?_) aj
 go_simp
 refine(HC.c5 _ bl).mono ?_;rintro e v5 ⟨rfl,hb5⟩;clear hHeld;refine hK.out _ _ (show((fun(W:V)=>gQ w P x s n13 W)) _ from FK.out _ bl) (fun hHeld=>?_);clear hK K
 try simp only[U,sA,sB,sC]
 refine htake 24 (.agg #[.string nN,.int .i64 i5]) (hy:=fun W2 hS2=>by clear hHeld HC FK;first|(go_simp;done)|(go_simp;with_reducible rfl)|(go_simp;rfl)) (h:=?_);exact agz
 ):p:=h
theorem agx {p:Prop} (h:p:=by
 try simp only[U,sA,sB,sC]
 refine wpAnyH_ready (rs:=[18]) lL (by simp) ?_;refine af (o:={ dst:=Y 27,op:=Op.call { callee:=Callee.value (Operand.func 221),args:=#[ag 25,ag 26],argTypes:=#[47,294] },type:=3,pos := "model.go:79",after:=#[{ on:=16,ground:=ah },{ on:=17,ground:=ah },{ on:=13,ground:=Ground.chain }],guard:=X }) rfl (fun K hK=>?_) aj
 go_simp
 refine(HC.c4 _ bl hHeld.f10).mono ?_;rintro e v4 ⟨rfl,hb4⟩;clear hHeld;refine hK.out _ _ (show((fun(W:V)=>gQ w P x s n13 W)) _ from FK.out _ bl) (fun hHeld=>?_);clear hK K
 try simp only[U,sA,sB,sC]
 refine htake 19 (.agg #[.string nK,.int .i64 i4]) (hy:=fun W2 hS2=>by clear hHeld HC FK;first|(go_simp;done)|(go_simp;with_reducible rfl)|(go_simp;rfl)) (h:=?_);exact agF
 ):p:=h
theorem agB {p:Prop} (h:p:=by
 try simp only[U,sA,sB,sC]
 refine wpAnyH_ready (rs:=[13]) lL (by simp) ?_;refine af (o:={ dst:=Y 22,op:=Op.call { callee:=Callee.value (Operand.func 219),args:=#[ag 20,ag 21],argTypes:=#[46,292] },type:=3,pos := "model.go:78",after:=#[{ on:=11,ground:=ah },{ on:=12,ground:=ah },{ on:=8,ground:=Ground.chain }],guard:=X }) rfl (fun K hK=>?_) aj
 go_simp
 refine(HC.c3 _ bl hHeld.f10).mono ?_;rintro e v3 ⟨rfl,hb3⟩;clear hHeld;refine hK.out _ _ (show((fun(W:V)=>gQ w P x s n13 W)) _ from FK.out _ bl) (fun hHeld=>?_);clear hK K
 try simp only[U,sA,sB,sC]
 refine htake 14 (.agg #[.string mV,.int .i64 i3]) (hy:=fun W2 hS2=>by clear hHeld HC FK;first|(go_simp;done)|(go_simp;with_reducible rfl)|(go_simp;rfl)) (h:=?_);exact agx
 ):p:=h
theorem z_ {p:Prop} (h:p:=by
 rw[if_pos g] at e;rw[e];have d:=decide_eq_true g;clear e HP;go_wp2_with fail
 go_quiet (fail)
 go_wp2_with fail;go_ret2
 exact⟨rfl,by have bU:=HW.out;exact bl⟩
 ):p:=h
theorem agC {p:Prop} (h:p:=by
 try simp only[U,sA,sB,sC]
 refine wpAnyH_ready (rs:=[8]) lL (by simp) ?_;refine af (o:={ dst:=Y 17,op:=Op.call { callee:=Callee.value (Operand.func 217),args:=#[ag 15,ag 16],argTypes:=#[45,290] },type:=3,pos := "model.go:77",after:=#[{ on:=6,ground:=ah },{ on:=7,ground:=ah },{ on:=3,ground:=Ground.chain }],guard:=X }) rfl (fun K hK=>?_) aj
 go_simp
 refine(HC.c2 _ bl hHeld.f10).mono ?_;rintro e v2 ⟨rfl,hb2⟩;clear hHeld;refine hK.out _ _ (show((fun(W:V)=>gQ w P x s n13 W)) _ from FK.out _ bl) (fun hHeld=>?_);clear hK K
 try simp only[U,sA,sB,sC]
 refine htake 9 (.agg #[.string nO,.int .i64 i2]) (hy:=fun W2 hS2=>by clear hHeld HC FK;first|(go_simp;done)|(go_simp;with_reducible rfl)|(go_simp;rfl)) (h:=?_);exact agB
 ):p:=h
theorem Aa {p:Prop} (h:p:=by have bU:=HW.out;exact bl):p:=h
set_option maxRecDepth 100000 in
theorem apC (x:b_) (P:fe) (s:ByteArray) (w:V) (n13 n20:Nat) (Cu:∀w,(sizeOf 53).run ai w=.ok n13 w) (acA:∀w,(sizeOf 295).run ai w=.ok n20 w) (Rs:Hid (20=n20)) (i1 i2 i3 i4 i5 i6 i7 i8 i9 i10:Int) (HC:YN w P x s i1 i2 i3 i4 i5 i6 i7 i8 i9 i10) (FK:Hid (∀W,ak ((w.alloc (.cells (bX x P) 53)).alloc (.cells #[.string s] 9)).heap.size ((w.alloc (.cells (bX x P) 53)).alloc (.cells #[.string s] 9)) W->gQ w P x s n13 W)):au ai 207 #[.agg (bX x P),.string s] w (Gives (.tuple #[.string (iZ words [i1,i2,i3,i4,i5,i6,i7,i8,i9,i10]).1,.int .i64 (iZ words [i1,i2,i3,i4,i5,i6,i7,i8,i9,i10]).2]) w):=by
 go_enter Tryz.func207,Tryz.ntmps207
 go_upto_region 1 with fail
 go_cut [6] from 9 to 58 (fun v wr=>∃B,v=.pointer (Y ⟨B,0,X⟩)/\Hid (At wr B 0 #[.string nR,.int .i64 i1,.string nO,.int .i64 i2,.string mV,.int .i64 i3,.string nK,.int .i64 i4,.string nN,.int .i64 i5,.string nP,.int .i64 i6,.string nQ,.int .i64 i7,.string nL,.int .i64 i8,.string mR,.int .i64 i9,.string mU,.int .i64 i10])/\Hid (ak w.heap.size w wr))
 case first=>
  try refine wp_region_noPanic ?_
  refine wp_region_held_drew (S:=(fun(W:V)=>gQ w P x s n13 W)) lL (show((fun(W:V)=>gQ w P x s n13 W)) _ from FK.out _ bl) (fun hHeld=>?_);refine htake 0 (.pointer (Y ⟨w.heap.size,1,X⟩)) (hy:=fun W2 hS2=>by clear hHeld HC FK;first|(go_simp;done)|(go_simp;with_reducible rfl)|(go_simp;rfl)) (h:=?_)
  try simp only[U,sA,sB,sC]
  refine htake 1 (.slice P.jb P.ja P.i_) (hy:=fun W2 hS2=>by have q1:=hS2.f1;clear hHeld HC FK;first|(go_simp;done)|(go_simp;with_reducible rfl)|(go_simp;rfl)) (h:=?_)
  try simp only[U,sA,sB,sC]
  refine htake 2 (.func (.func 216) #[] #[.pointer (Y ⟨w.heap.size+1,0,X⟩)]) (hy:=fun W2 hS2=>by clear hHeld HC FK;first|(go_simp;done)|(go_simp;with_reducible rfl)|(go_simp;rfl)) (h:=?_)
  try simp only[U,sA,sB,sC]
  refine htake 5 (.pointer (Y ⟨w.heap.size,2,X⟩)) (hy:=fun W2 hS2=>by clear hHeld HC FK;first|(go_simp;done)|(go_simp;with_reducible rfl)|(go_simp;rfl)) (h:=?_)
  try simp only[U,sA,sB,sC]
  refine htake 6 (.slice P.jD P.dS P.gq) (hy:=fun W2 hS2=>by have q2:=hS2.f2;clear hHeld HC FK;first|(go_simp;done)|(go_simp;with_reducible rfl)|(go_simp;rfl)) (h:=?_)
  try simp only[U,sA,sB,sC]
  refine htake 7 (.func (.func 218) #[] #[.pointer (Y ⟨w.heap.size+1,0,X⟩)]) (hy:=fun W2 hS2=>by clear hHeld HC FK;first|(go_simp;done)|(go_simp;with_reducible rfl)|(go_simp;rfl)) (h:=?_)
  try simp only[U,sA,sB,sC]
  refine htake 10 (.pointer (Y ⟨w.heap.size,3,X⟩)) (hy:=fun W2 hS2=>by clear hHeld HC FK;first|(go_simp;done)|(go_simp;with_reducible rfl)|(go_simp;rfl)) (h:=?_)
  try simp only[U,sA,sB,sC]
  refine htake 11 (.slice P.jT P.dD P.kD) (hy:=fun W2 hS2=>by have q3:=hS2.f3;clear hHeld HC FK;first|(go_simp;done)|(go_simp;with_reducible rfl)|(go_simp;rfl)) (h:=?_)
  try simp only[U,sA,sB,sC]
  refine htake 12 (.func (.func 220) #[] #[.pointer (Y ⟨w.heap.size+1,0,X⟩)]) (hy:=fun W2 hS2=>by clear hHeld HC FK;first|(go_simp;done)|(go_simp;with_reducible rfl)|(go_simp;rfl)) (h:=?_)
  try simp only[U,sA,sB,sC]
  refine htake 15 (.pointer (Y ⟨w.heap.size,4,X⟩)) (hy:=fun W2 hS2=>by clear hHeld HC FK;first|(go_simp;done)|(go_simp;with_reducible rfl)|(go_simp;rfl)) (h:=?_)
  try simp only[U,sA,sB,sC]
  refine htake 16 (.slice P.kJ P.eF P.kV) (hy:=fun W2 hS2=>by have q4:=hS2.f4;clear hHeld HC FK;first|(go_simp;done)|(go_simp;with_reducible rfl)|(go_simp;rfl)) (h:=?_)
  try simp only[U,sA,sB,sC]
  refine htake 17 (.func (.func 222) #[] #[.pointer (Y ⟨w.heap.size+1,0,X⟩)]) (hy:=fun W2 hS2=>by clear hHeld HC FK;first|(go_simp;done)|(go_simp;with_reducible rfl)|(go_simp;rfl)) (h:=?_)
  try simp only[U,sA,sB,sC]
  refine htake 20 (.pointer (Y ⟨w.heap.size,5,X⟩)) (hy:=fun W2 hS2=>by clear hHeld HC FK;first|(go_simp;done)|(go_simp;with_reducible rfl)|(go_simp;rfl)) (h:=?_)
  try simp only[U,sA,sB,sC]
  refine htake 21 (.slice P.vQ P.vP P.vO) (hy:=fun W2 hS2=>by have q5:=hS2.f5;clear hHeld HC FK;first|(go_simp;done)|(go_simp;with_reducible rfl)|(go_simp;rfl)) (h:=?_)
  try simp only[U,sA,sB,sC]
  refine htake 22 (.string s) (hy:=fun W2 hS2=>by have xy:=hS2.f10;clear hHeld HC FK;first|(go_simp;done)|(go_simp;with_reducible rfl)|(go_simp;rfl)) (h:=?_)
  try simp only[U,sA,sB,sC]
  refine htake 25 (.pointer (Y ⟨w.heap.size,6,X⟩)) (hy:=fun W2 hS2=>by clear hHeld HC FK;first|(go_simp;done)|(go_simp;with_reducible rfl)|(go_simp;rfl)) (h:=?_)
  try simp only[U,sA,sB,sC]
  refine htake 26 (.slice P.sU P.sS P.sQ) (hy:=fun W2 hS2=>by have q6:=hS2.f6;clear hHeld HC FK;first|(go_simp;done)|(go_simp;with_reducible rfl)|(go_simp;rfl)) (h:=?_)
  try simp only[U,sA,sB,sC]
  refine htake 27 (.string s) (hy:=fun W2 hS2=>by have xy:=hS2.f10;clear hHeld HC FK;first|(go_simp;done)|(go_simp;with_reducible rfl)|(go_simp;rfl)) (h:=?_)
  try simp only[U,sA,sB,sC]
  refine htake 30 (.pointer (Y ⟨w.heap.size,7,X⟩)) (hy:=fun W2 hS2=>by clear hHeld HC FK;first|(go_simp;done)|(go_simp;with_reducible rfl)|(go_simp;rfl)) (h:=?_)
  try simp only[U,sA,sB,sC]
  refine htake 31 (.slice P.vU P.vT P.tac) (hy:=fun W2 hS2=>by have q7:=hS2.f7;clear hHeld HC FK;first|(go_simp;done)|(go_simp;with_reducible rfl)|(go_simp;rfl)) (h:=?_)
  try simp only[U,sA,sB,sC]
  refine htake 32 (.string s) (hy:=fun W2 hS2=>by have xy:=hS2.f10;clear hHeld HC FK;first|(go_simp;done)|(go_simp;with_reducible rfl)|(go_simp;rfl)) (h:=?_)
  try simp only[U,sA,sB,sC]
  refine htake 35 (.pointer (Y ⟨w.heap.size,8,X⟩)) (hy:=fun W2 hS2=>by clear hHeld HC FK;first|(go_simp;done)|(go_simp;with_reducible rfl)|(go_simp;rfl)) (h:=?_)
  try simp only[U,sA,sB,sC]
  refine htake 36 (.slice P.vE P.vD P.vC) (hy:=fun W2 hS2=>by have q8:=hS2.f8;clear hHeld HC FK;first|(go_simp;done)|(go_simp;with_reducible rfl)|(go_simp;rfl)) (h:=?_)
  try simp only[U,sA,sB,sC]
  refine htake 37 (.string s) (hy:=fun W2 hS2=>by have xy:=hS2.f10;clear hHeld HC FK;first|(go_simp;done)|(go_simp;with_reducible rfl)|(go_simp;rfl)) (h:=?_)
  try simp only[U,sA,sB,sC]
  refine htake 40 (.pointer (Y ⟨w.heap.size,9,X⟩)) (hy:=fun W2 hS2=>by clear hHeld HC FK;first|(go_simp;done)|(go_simp;with_reducible rfl)|(go_simp;rfl)) (h:=?_)
  try simp only[U,sA,sB,sC]
  refine htake 41 (.slice P.uZ P.uY P.uX) (hy:=fun W2 hS2=>by have q9:=hS2.f9;clear hHeld HC FK;first|(go_simp;done)|(go_simp;with_reducible rfl)|(go_simp;rfl)) (h:=?_)
  try simp only[U,sA,sB,sC]
  refine htake 42 (.string s) (hy:=fun W2 hS2=>by have xy:=hS2.f10;clear hHeld HC FK;first|(go_simp;done)|(go_simp;with_reducible rfl)|(go_simp;rfl)) (h:=?_)
  try simp only[U,sA,sB,sC]
  refine htake 45 (.agg (bX x P)) (hy:=fun W2 hS2=>by have Pz:=hS2.f11;clear hHeld HC FK;first|(go_simp;done)|(go_simp;with_reducible rfl)|(go_simp;rfl)) (h:=?_)
  try simp only[U,sA,sB,sC]
  refine htake 46 (.string s) (hy:=fun W2 hS2=>by have xy:=hS2.f10;clear hHeld HC FK;first|(go_simp;done)|(go_simp;with_reducible rfl)|(go_simp;rfl)) (h:=?_)
  try simp only[U,sA,sB,sC]
  refine wpAnyH_ready (rs:=[3,50]) lL (by simp) ?_;refine af (o:={ dst:=Y 12,op:=Op.call { callee:=Callee.value (Operand.func 215),args:=#[ag 10,ag 11],argTypes:=#[23,287] },type:=3,pos := "model.go:76",after:=#[{ on:=1,ground:=ah },{ on:=2,ground:=ah }],guard:=X }) rfl (fun K hK=>?_) ?_;rotate_left 1
  · refine af (o:={ dst:=Y 6,op:=Op.alloc 295,type:=0,pos := "model.go:72",after:=#[],guard:=X }) rfl (fun K hK=>?_) aj
    go_simp
    clear hHeld;have HZ:=(Zk.new' (W:=((w.alloc (.cells (bX x P) 53)).alloc (.cells #[.string s] 9))) (n:=w.heap.size+1+1) (by simp)).far;have hs1:w.heap.size<=w.heap.size+1+1:=by omega
    have hs2:((w.alloc (.cells (bX x P) 53)).alloc (.cells #[.string s] 9)).heap.size<=w.heap.size+1+1:=by simp
    refine hK.out _ _ (show((fun(W:V)=>gQ w P x s n13 W)) _ from FK.out _ bl) (fun hHeld=>?_);clear hK K
    try simp only[U,sA,sB,sC]
    refine wpAnyH_ready (rs:=[3]) lL (by simp) ?_;refine af (o:={ dst:=Y 12,op:=Op.call { callee:=Callee.value (Operand.func 215),args:=#[ag 10,ag 11],argTypes:=#[23,287] },type:=3,pos := "model.go:76",after:=#[{ on:=1,ground:=ah },{ on:=2,ground:=ah }],guard:=X }) rfl (fun K hK=>?_) aj
    go_simp
    refine(HC.c1 _ bl hHeld.f10).mono ?_;rintro e v1 ⟨rfl,hb1⟩;clear hHeld;refine hK.out _ _ (show((fun(W:V)=>gQ w P x s n13 W)) _ from FK.out _ bl) (fun hHeld=>?_);clear hK K
    try simp only[U,sA,sB,sC]
    refine htake 4 (.agg #[.string nR,.int .i64 i1]) (hy:=fun W2 hS2=>by clear hHeld HC FK;first|(go_simp;done)|(go_simp;with_reducible rfl)|(go_simp;rfl)) (h:=?_);exact agC
  go_simp
  refine(HC.c1 _ bl hHeld.f10).mono ?_;rintro e v1 ⟨rfl,hb1⟩;clear hHeld;refine hK.out _ _ (show((fun(W:V)=>gQ w P x s n13 W)) _ from FK.out _ bl) (fun hHeld=>?_);clear hK K
  try simp only[U,sA,sB,sC]
  refine htake 4 (.agg #[.string nR,.int .i64 i1]) (hy:=fun W2 hS2=>by clear hHeld HC FK;first|(go_simp;done)|(go_simp;with_reducible rfl)|(go_simp;rfl)) (h:=?_)
  try simp only[U,sA,sB,sC]
  refine wpAnyH_ready (rs:=[8,50]) lL (by simp) ?_;refine af (o:={ dst:=Y 17,op:=Op.call { callee:=Callee.value (Operand.func 217),args:=#[ag 15,ag 16],argTypes:=#[45,290] },type:=3,pos := "model.go:77",after:=#[{ on:=6,ground:=ah },{ on:=7,ground:=ah },{ on:=3,ground:=Ground.chain }],guard:=X }) rfl (fun K hK=>?_) ?_;rotate_left 1
  · refine af (o:={ dst:=Y 6,op:=Op.alloc 295,type:=0,pos := "model.go:72",after:=#[],guard:=X }) rfl (fun K hK=>?_) aj
    go_simp
    clear hHeld;have HZ:=(Zk.new' (W:=v1) (n:=v1.heap.size) (by simp)).far;have hs1:w.heap.size<=v1.heap.size:=(show ak w.heap.size w v1 by exact bl).size;have hs2:((w.alloc (.cells (bX x P) 53)).alloc (.cells #[.string s] 9)).heap.size<=v1.heap.size:=(show ak ((w.alloc (.cells (bX x P) 53)).alloc (.cells #[.string s] 9)).heap.size ((w.alloc (.cells (bX x P) 53)).alloc (.cells #[.string s] 9)) v1 by exact bl).size;refine hK.out _ _ (show((fun(W:V)=>gQ w P x s n13 W)) _ from FK.out _ bl) (fun hHeld=>?_);clear hK K;exact agC
  go_simp
  refine(HC.c2 _ bl hHeld.f10).mono ?_;rintro e v2 ⟨rfl,hb2⟩;clear hHeld;refine hK.out _ _ (show((fun(W:V)=>gQ w P x s n13 W)) _ from FK.out _ bl) (fun hHeld=>?_);clear hK K
  try simp only[U,sA,sB,sC]
  refine htake 9 (.agg #[.string nO,.int .i64 i2]) (hy:=fun W2 hS2=>by clear hHeld HC FK;first|(go_simp;done)|(go_simp;with_reducible rfl)|(go_simp;rfl)) (h:=?_)
  try simp only[U,sA,sB,sC]
  refine wpAnyH_ready (rs:=[13,50]) lL (by simp) ?_;refine af (o:={ dst:=Y 22,op:=Op.call { callee:=Callee.value (Operand.func 219),args:=#[ag 20,ag 21],argTypes:=#[46,292] },type:=3,pos := "model.go:78",after:=#[{ on:=11,ground:=ah },{ on:=12,ground:=ah },{ on:=8,ground:=Ground.chain }],guard:=X }) rfl (fun K hK=>?_) ?_;rotate_left 1
  · refine af (o:={ dst:=Y 6,op:=Op.alloc 295,type:=0,pos := "model.go:72",after:=#[],guard:=X }) rfl (fun K hK=>?_) aj
    go_simp
    clear hHeld;have HZ:=(Zk.new' (W:=v2) (n:=v2.heap.size) (by simp)).far;have hs1:w.heap.size<=v2.heap.size:=(show ak w.heap.size w v2 by exact bl).size;have hs2:((w.alloc (.cells (bX x P) 53)).alloc (.cells #[.string s] 9)).heap.size<=v2.heap.size:=(show ak ((w.alloc (.cells (bX x P) 53)).alloc (.cells #[.string s] 9)).heap.size ((w.alloc (.cells (bX x P) 53)).alloc (.cells #[.string s] 9)) v2 by exact bl).size;refine hK.out _ _ (show((fun(W:V)=>gQ w P x s n13 W)) _ from FK.out _ bl) (fun hHeld=>?_);clear hK K;exact agB
  go_simp
  refine(HC.c3 _ bl hHeld.f10).mono ?_;rintro e v3 ⟨rfl,hb3⟩;clear hHeld;refine hK.out _ _ (show((fun(W:V)=>gQ w P x s n13 W)) _ from FK.out _ bl) (fun hHeld=>?_);clear hK K
  try simp only[U,sA,sB,sC]
  refine htake 14 (.agg #[.string mV,.int .i64 i3]) (hy:=fun W2 hS2=>by clear hHeld HC FK;first|(go_simp;done)|(go_simp;with_reducible rfl)|(go_simp;rfl)) (h:=?_)
  try simp only[U,sA,sB,sC]
  refine wpAnyH_ready (rs:=[18,50]) lL (by simp) ?_;refine af (o:={ dst:=Y 27,op:=Op.call { callee:=Callee.value (Operand.func 221),args:=#[ag 25,ag 26],argTypes:=#[47,294] },type:=3,pos := "model.go:79",after:=#[{ on:=16,ground:=ah },{ on:=17,ground:=ah },{ on:=13,ground:=Ground.chain }],guard:=X }) rfl (fun K hK=>?_) ?_;rotate_left 1
  · refine af (o:={ dst:=Y 6,op:=Op.alloc 295,type:=0,pos := "model.go:72",after:=#[],guard:=X }) rfl (fun K hK=>?_) aj
    go_simp
    clear hHeld;have HZ:=(Zk.new' (W:=v3) (n:=v3.heap.size) (by simp)).far;have hs1:w.heap.size<=v3.heap.size:=(show ak w.heap.size w v3 by exact bl).size;have hs2:((w.alloc (.cells (bX x P) 53)).alloc (.cells #[.string s] 9)).heap.size<=v3.heap.size:=(show ak ((w.alloc (.cells (bX x P) 53)).alloc (.cells #[.string s] 9)).heap.size ((w.alloc (.cells (bX x P) 53)).alloc (.cells #[.string s] 9)) v3 by exact bl).size;refine hK.out _ _ (show((fun(W:V)=>gQ w P x s n13 W)) _ from FK.out _ bl) (fun hHeld=>?_);clear hK K;exact agx
  go_simp
  refine(HC.c4 _ bl hHeld.f10).mono ?_;rintro e v4 ⟨rfl,hb4⟩;clear hHeld;refine hK.out _ _ (show((fun(W:V)=>gQ w P x s n13 W)) _ from FK.out _ bl) (fun hHeld=>?_);clear hK K
  try simp only[U,sA,sB,sC]
  refine htake 19 (.agg #[.string nK,.int .i64 i4]) (hy:=fun W2 hS2=>by clear hHeld HC FK;first|(go_simp;done)|(go_simp;with_reducible rfl)|(go_simp;rfl)) (h:=?_)
  try simp only[U,sA,sB,sC]
  refine wpAnyH_ready (rs:=[23,50]) lL (by simp) ?_;refine af (o:={ dst:=Y 32,op:=Op.call { callee:=Callee.value (Operand.func 189),args:=#[ag 30,ag 31],argTypes:=#[48,9] },type:=3,pos := "model.go:80",after:=#[{ on:=21,ground:=ah },{ on:=22,ground:=ah },{ on:=18,ground:=Ground.chain }],guard:=X }) rfl (fun K hK=>?_) ?_;rotate_left 1
  · refine af (o:={ dst:=Y 6,op:=Op.alloc 295,type:=0,pos := "model.go:72",after:=#[],guard:=X }) rfl (fun K hK=>?_) aj
    go_simp
    clear hHeld;have HZ:=(Zk.new' (W:=v4) (n:=v4.heap.size) (by simp)).far;have hs1:w.heap.size<=v4.heap.size:=(show ak w.heap.size w v4 by exact bl).size;have hs2:((w.alloc (.cells (bX x P) 53)).alloc (.cells #[.string s] 9)).heap.size<=v4.heap.size:=(show ak ((w.alloc (.cells (bX x P) 53)).alloc (.cells #[.string s] 9)).heap.size ((w.alloc (.cells (bX x P) 53)).alloc (.cells #[.string s] 9)) v4 by exact bl).size;refine hK.out _ _ (show((fun(W:V)=>gQ w P x s n13 W)) _ from FK.out _ bl) (fun hHeld=>?_);clear hK K;exact agF
  go_simp
  refine(HC.c5 _ bl).mono ?_;rintro e v5 ⟨rfl,hb5⟩;clear hHeld;refine hK.out _ _ (show((fun(W:V)=>gQ w P x s n13 W)) _ from FK.out _ bl) (fun hHeld=>?_);clear hK K
  try simp only[U,sA,sB,sC]
  refine htake 24 (.agg #[.string nN,.int .i64 i5]) (hy:=fun W2 hS2=>by clear hHeld HC FK;first|(go_simp;done)|(go_simp;with_reducible rfl)|(go_simp;rfl)) (h:=?_)
  try simp only[U,sA,sB,sC]
  refine wpAnyH_ready (rs:=[28,50]) lL (by simp) ?_;refine af (o:={ dst:=Y 37,op:=Op.call { callee:=Callee.value (Operand.func 189),args:=#[ag 35,ag 36],argTypes:=#[48,9] },type:=3,pos := "model.go:81",after:=#[{ on:=26,ground:=ah },{ on:=27,ground:=ah },{ on:=23,ground:=Ground.chain }],guard:=X }) rfl (fun K hK=>?_) ?_;rotate_left 1
  · refine af (o:={ dst:=Y 6,op:=Op.alloc 295,type:=0,pos := "model.go:72",after:=#[],guard:=X }) rfl (fun K hK=>?_) aj
    go_simp
    clear hHeld;have HZ:=(Zk.new' (W:=v5) (n:=v5.heap.size) (by simp)).far;have hs1:w.heap.size<=v5.heap.size:=(show ak w.heap.size w v5 by exact bl).size;have hs2:((w.alloc (.cells (bX x P) 53)).alloc (.cells #[.string s] 9)).heap.size<=v5.heap.size:=(show ak ((w.alloc (.cells (bX x P) 53)).alloc (.cells #[.string s] 9)).heap.size ((w.alloc (.cells (bX x P) 53)).alloc (.cells #[.string s] 9)) v5 by exact bl).size;refine hK.out _ _ (show((fun(W:V)=>gQ w P x s n13 W)) _ from FK.out _ bl) (fun hHeld=>?_);clear hK K;exact agz
  go_simp
  refine(HC.c6 _ bl).mono ?_;rintro e v6 ⟨rfl,hb6⟩;clear hHeld;refine hK.out _ _ (show((fun(W:V)=>gQ w P x s n13 W)) _ from FK.out _ bl) (fun hHeld=>?_);clear hK K
  try simp only[U,sA,sB,sC]
  refine htake 29 (.agg #[.string nP,.int .i64 i6]) (hy:=fun W2 hS2=>by clear hHeld HC FK;first|(go_simp;done)|(go_simp;with_reducible rfl)|(go_simp;rfl)) (h:=?_)
  try simp only[U,sA,sB,sC]
  refine wpAnyH_ready (rs:=[33,50]) lL (by simp) ?_;refine af (o:={ dst:=Y 42,op:=Op.call { callee:=Callee.value (Operand.func 189),args:=#[ag 40,ag 41],argTypes:=#[48,9] },type:=3,pos := "model.go:82",after:=#[{ on:=31,ground:=ah },{ on:=32,ground:=ah },{ on:=28,ground:=Ground.chain }],guard:=X }) rfl (fun K hK=>?_) ?_;rotate_left 1
  · refine af (o:={ dst:=Y 6,op:=Op.alloc 295,type:=0,pos := "model.go:72",after:=#[],guard:=X }) rfl (fun K hK=>?_) aj
    go_simp
    clear hHeld;have HZ:=(Zk.new' (W:=v6) (n:=v6.heap.size) (by simp)).far;have hs1:w.heap.size<=v6.heap.size:=(show ak w.heap.size w v6 by exact bl).size;have hs2:((w.alloc (.cells (bX x P) 53)).alloc (.cells #[.string s] 9)).heap.size<=v6.heap.size:=(show ak ((w.alloc (.cells (bX x P) 53)).alloc (.cells #[.string s] 9)).heap.size ((w.alloc (.cells (bX x P) 53)).alloc (.cells #[.string s] 9)) v6 by exact bl).size;refine hK.out _ _ (show((fun(W:V)=>gQ w P x s n13 W)) _ from FK.out _ bl) (fun hHeld=>?_);clear hK K;exact agE
  go_simp
  refine(HC.c7 _ bl).mono ?_;rintro e v7 ⟨rfl,JO⟩;clear hHeld;refine hK.out _ _ (show((fun(W:V)=>gQ w P x s n13 W)) _ from FK.out _ bl) (fun hHeld=>?_);clear hK K
  try simp only[U,sA,sB,sC]
  refine htake 34 (.agg #[.string nQ,.int .i64 i7]) (hy:=fun W2 hS2=>by clear hHeld HC FK;first|(go_simp;done)|(go_simp;with_reducible rfl)|(go_simp;rfl)) (h:=?_)
  try simp only[U,sA,sB,sC]
  refine wpAnyH_ready (rs:=[38,50]) lL (by simp) ?_;refine af (o:={ dst:=Y 47,op:=Op.call { callee:=Callee.value (Operand.func 189),args:=#[ag 45,ag 46],argTypes:=#[48,9] },type:=3,pos := "model.go:83",after:=#[{ on:=36,ground:=ah },{ on:=37,ground:=ah },{ on:=33,ground:=Ground.chain }],guard:=X }) rfl (fun K hK=>?_) ?_;rotate_left 1
  · refine af (o:={ dst:=Y 6,op:=Op.alloc 295,type:=0,pos := "model.go:72",after:=#[],guard:=X }) rfl (fun K hK=>?_) aj
    go_simp
    clear hHeld;have HZ:=(Zk.new' (W:=v7) (n:=v7.heap.size) (by simp)).far;have hs1:w.heap.size<=v7.heap.size:=(show ak w.heap.size w v7 by exact bl).size;have hs2:((w.alloc (.cells (bX x P) 53)).alloc (.cells #[.string s] 9)).heap.size<=v7.heap.size:=(show ak ((w.alloc (.cells (bX x P) 53)).alloc (.cells #[.string s] 9)).heap.size ((w.alloc (.cells (bX x P) 53)).alloc (.cells #[.string s] 9)) v7 by exact bl).size;refine hK.out _ _ (show((fun(W:V)=>gQ w P x s n13 W)) _ from FK.out _ bl) (fun hHeld=>?_);clear hK K;exact agw
  go_simp
  refine(HC.c8 _ bl).mono ?_;rintro e v8 ⟨rfl,sw⟩;clear hHeld;refine hK.out _ _ (show((fun(W:V)=>gQ w P x s n13 W)) _ from FK.out _ bl) (fun hHeld=>?_);clear hK K
  try simp only[U,sA,sB,sC]
  refine htake 39 (.agg #[.string nL,.int .i64 i8]) (hy:=fun W2 hS2=>by clear hHeld HC FK;first|(go_simp;done)|(go_simp;with_reducible rfl)|(go_simp;rfl)) (h:=?_)
  try simp only[U,sA,sB,sC]
  refine wpAnyH_ready (rs:=[43,50]) lL (by simp) ?_;refine af (o:={ dst:=Y 52,op:=Op.call { callee:=Callee.value (Operand.func 189),args:=#[ag 50,ag 51],argTypes:=#[48,9] },type:=3,pos := "model.go:84",after:=#[{ on:=41,ground:=ah },{ on:=42,ground:=ah },{ on:=38,ground:=Ground.chain }],guard:=X }) rfl (fun K hK=>?_) ?_;rotate_left 1
  · refine af (o:={ dst:=Y 6,op:=Op.alloc 295,type:=0,pos := "model.go:72",after:=#[],guard:=X }) rfl (fun K hK=>?_) aj
    go_simp
    clear hHeld;have HZ:=(Zk.new' (W:=v8) (n:=v8.heap.size) (by simp)).far;have hs1:w.heap.size<=v8.heap.size:=(show ak w.heap.size w v8 by exact bl).size;have hs2:((w.alloc (.cells (bX x P) 53)).alloc (.cells #[.string s] 9)).heap.size<=v8.heap.size:=(show ak ((w.alloc (.cells (bX x P) 53)).alloc (.cells #[.string s] 9)).heap.size ((w.alloc (.cells (bX x P) 53)).alloc (.cells #[.string s] 9)) v8 by exact bl).size;refine hK.out _ _ (show((fun(W:V)=>gQ w P x s n13 W)) _ from FK.out _ bl) (fun hHeld=>?_);clear hK K;exact agD
  go_simp
  refine(HC.c9 _ bl).mono ?_;rintro e v9 ⟨rfl,Ev⟩;clear hHeld;refine hK.out _ _ (show((fun(W:V)=>gQ w P x s n13 W)) _ from FK.out _ bl) (fun hHeld=>?_);clear hK K
  try simp only[U,sA,sB,sC]
  refine htake 44 (.agg #[.string mR,.int .i64 i9]) (hy:=fun W2 hS2=>by clear hHeld HC FK;first|(go_simp;done)|(go_simp;with_reducible rfl)|(go_simp;rfl)) (h:=?_)
  try simp only[U,sA,sB,sC]
  refine wpAnyH_ready (rs:=[47,50]) lL (by simp) ?_;refine af (o:={ dst:=Y 56,op:=Op.call { callee:=Callee.value (Operand.func 164),args:=#[ag 54,ag 55],argTypes:=#[53,9] },type:=3,pos := "model.go:85",after:=#[{ on:=45,ground:=ah },{ on:=46,ground:=ah },{ on:=43,ground:=Ground.chain }],guard:=X }) rfl (fun K hK=>?_) ?_;rotate_left 1
  · refine af (o:={ dst:=Y 6,op:=Op.alloc 295,type:=0,pos := "model.go:72",after:=#[],guard:=X }) rfl (fun K hK=>?_) aj
    go_simp
    clear hHeld;have HZ:=(Zk.new' (W:=v9) (n:=v9.heap.size) (by simp)).far;have hs1:w.heap.size<=v9.heap.size:=(show ak w.heap.size w v9 by exact bl).size;have hs2:((w.alloc (.cells (bX x P) 53)).alloc (.cells #[.string s] 9)).heap.size<=v9.heap.size:=(show ak ((w.alloc (.cells (bX x P) 53)).alloc (.cells #[.string s] 9)).heap.size ((w.alloc (.cells (bX x P) 53)).alloc (.cells #[.string s] 9)) v9 by exact bl).size;refine hK.out _ _ (show((fun(W:V)=>gQ w P x s n13 W)) _ from FK.out _ bl) (fun hHeld=>?_);clear hK K;exact agy
  go_simp
  refine(HC.c10 _ bl).mono ?_;rintro e v10 ⟨rfl,T_⟩;clear hHeld;refine hK.out _ _ (show((fun(W:V)=>gQ w P x s n13 W)) _ from FK.out _ bl) (fun hHeld=>?_);clear hK K
  try simp only[U,sA,sB,sC]
  refine htake 48 (.agg #[.string mU,.int .i64 i10]) (hy:=fun W2 hS2=>by clear hHeld HC FK;first|(go_simp;done)|(go_simp;with_reducible rfl)|(go_simp;rfl)) (h:=?_)
  try simp only[U,sA,sB,sC]
  refine htake 49 (.agg #[.string nR,.int .i64 i1,.string nO,.int .i64 i2,.string mV,.int .i64 i3,.string nK,.int .i64 i4,.string nN,.int .i64 i5,.string nP,.int .i64 i6,.string nQ,.int .i64 i7,.string nL,.int .i64 i8,.string mR,.int .i64 i9,.string mU,.int .i64 i10]) (hy:=fun W2 hS2=>by clear hHeld HC FK;first|(go_simp;done)|(go_simp;with_reducible rfl)|(go_simp;rfl)) (h:=?_)
  try simp only[U,sA,sB,sC]
  refine wpAnyH_ready (rs:=[50]) lL (by simp) ?_;refine af (o:={ dst:=Y 6,op:=Op.alloc 295,type:=0,pos := "model.go:72",after:=#[],guard:=X }) rfl (fun K hK=>?_) aj
  go_simp
  clear hHeld;have HZ:=(Zk.new' (W:=v10) (n:=v10.heap.size) (by simp)).far;have hs1:w.heap.size<=v10.heap.size:=(show ak w.heap.size w v10 by exact bl).size;have hs2:((w.alloc (.cells (bX x P) 53)).alloc (.cells #[.string s] 9)).heap.size<=v10.heap.size:=(show ak ((w.alloc (.cells (bX x P) 53)).alloc (.cells #[.string s] 9)).heap.size ((w.alloc (.cells (bX x P) 53)).alloc (.cells #[.string s] 9)) v10 by exact bl).size;refine hK.out _ _ (show((fun(W:V)=>gQ w P x s n13 W)) _ from FK.out _ bl) (fun hHeld=>?_);clear hK K
  try simp only[U,sA,sB,sC]
  have ta:=(HZ.out (v10.alloc (.cells #[.string ⟨#[]⟩,.int .i64 0,.string ⟨#[]⟩,.int .i64 0,.string ⟨#[]⟩,.int .i64 0,.string ⟨#[]⟩,.int .i64 0,.string ⟨#[]⟩,.int .i64 0,.string ⟨#[]⟩,.int .i64 0,.string ⟨#[]⟩,.int .i64 0,.string ⟨#[]⟩,.int .i64 0,.string ⟨#[]⟩,.int .i64 0,.string ⟨#[]⟩,.int .i64 0] 295)) bl).there (c:=#[.string nR,.int .i64 i1,.string nO,.int .i64 i2,.string mV,.int .i64 i3,.string nK,.int .i64 i4,.string nN,.int .i64 i5,.string nP,.int .i64 i6,.string nQ,.int .i64 i7,.string nL,.int .i64 i8,.string mR,.int .i64 i9,.string mU,.int .i64 i10]) rfl;exact agA
 case rest=>
 obtain⟨B,rfl,HAT,eY⟩:=hcut;have ld:=HAT.out.dW Rs.out;have HB0:=eY.out;clear HC FK HAT;go_wp2_with fail;go_loopw [60] (fun i wr=>∃j:Nat,j<=10/\i=.int .i64 j/\Hid (ak w.heap.size w wr)/\Hid (iZ words [i1,i2,i3,i4,i5,i6,i7,i8,i9,i10]=iZ (words.drop j) (List.drop j [i1,i2,i3,i4,i5,i6,i7,i8,i9,i10]))) (fun i _=>10-(intOf i).toNat)
 case atStart=>exact⟨0,Nat.zero_le _,rfl,eY,av rfl⟩
 case round=>
  obtain⟨j,hj,rfl,HW,HP⟩:=hrel;have hjj:j=0∨j=1∨j=2∨j=3∨j=4∨j=5∨j=6∨j=7∨j=8∨j=9∨j=10:=by omega
  rcases hjj with rfl|rfl|rfl|rfl|rfl|rfl|rfl|rfl|rfl|rfl|rfl
  · have e:=(show iZ words [i1,i2,i3,i4,i5,i6,i7,i8,i9,i10]=if 0<=i1 then (nR,i1) else iZ (words.drop 1) (List.drop 1 [i1,i2,i3,i4,i5,i6,i7,i8,i9,i10]) by rw[HP.out];rfl)
    have hix:∀W2:V,(Instr.index 295 (.agg #[.string nR,.int .i64 i1,.string nO,.int .i64 i2,.string mV,.int .i64 i3,.string nK,.int .i64 i4,.string nN,.int .i64 i5,.string nP,.int .i64 i6,.string nQ,.int .i64 i7,.string nL,.int .i64 i8,.string mR,.int .i64 i9,.string mU,.int .i64 i10]) (.int .i64 0)).run ai W2=.ok (.agg #[.string nR,.int .i64 i1]) W2:=fun W2=>by kernel_rfl
    by_cases g:0<=i1
    · exact z_
    · rw[if_neg g] at e;have E:=av e;have d:=decide_eq_false g;have g2:i1<0:=by omega
      clear e HP;go_wp2_with fail;go_roundw
      case rel=>exact⟨1,by omega,by go_num,av Aa,E⟩
      case measure=>simp[intOf]
  · have e:=(show iZ words [i1,i2,i3,i4,i5,i6,i7,i8,i9,i10]=if 0<=i2 then (nO,i2) else iZ (words.drop 2) (List.drop 2 [i1,i2,i3,i4,i5,i6,i7,i8,i9,i10]) by rw[HP.out];rfl)
    have hix:∀W2:V,(Instr.index 295 (.agg #[.string nR,.int .i64 i1,.string nO,.int .i64 i2,.string mV,.int .i64 i3,.string nK,.int .i64 i4,.string nN,.int .i64 i5,.string nP,.int .i64 i6,.string nQ,.int .i64 i7,.string nL,.int .i64 i8,.string mR,.int .i64 i9,.string mU,.int .i64 i10]) (.int .i64 1)).run ai W2=.ok (.agg #[.string nO,.int .i64 i2]) W2:=fun W2=>by kernel_rfl
    by_cases g:0<=i2
    · exact z_
    · rw[if_neg g] at e;have E:=av e;have d:=decide_eq_false g;have g2:i2<0:=by omega
      clear e HP;go_wp2_with fail;go_roundw
      case rel=>exact⟨2,by omega,by go_num,av Aa,E⟩
      case measure=>simp[intOf]
  · have e:=(show iZ words [i1,i2,i3,i4,i5,i6,i7,i8,i9,i10]=if 0<=i3 then (mV,i3) else iZ (words.drop 3) (List.drop 3 [i1,i2,i3,i4,i5,i6,i7,i8,i9,i10]) by rw[HP.out];rfl)
    have hix:∀W2:V,(Instr.index 295 (.agg #[.string nR,.int .i64 i1,.string nO,.int .i64 i2,.string mV,.int .i64 i3,.string nK,.int .i64 i4,.string nN,.int .i64 i5,.string nP,.int .i64 i6,.string nQ,.int .i64 i7,.string nL,.int .i64 i8,.string mR,.int .i64 i9,.string mU,.int .i64 i10]) (.int .i64 2)).run ai W2=.ok (.agg #[.string mV,.int .i64 i3]) W2:=fun W2=>by kernel_rfl
    by_cases g:0<=i3
    · exact z_
    · rw[if_neg g] at e;have E:=av e;have d:=decide_eq_false g;have g2:i3<0:=by omega
      clear e HP;go_wp2_with fail;go_roundw
      case rel=>exact⟨3,by omega,by go_num,av Aa,E⟩
      case measure=>simp[intOf]
  · have e:=(show iZ words [i1,i2,i3,i4,i5,i6,i7,i8,i9,i10]=if 0<=i4 then (nK,i4) else iZ (words.drop 4) (List.drop 4 [i1,i2,i3,i4,i5,i6,i7,i8,i9,i10]) by rw[HP.out];rfl)
    have hix:∀W2:V,(Instr.index 295 (.agg #[.string nR,.int .i64 i1,.string nO,.int .i64 i2,.string mV,.int .i64 i3,.string nK,.int .i64 i4,.string nN,.int .i64 i5,.string nP,.int .i64 i6,.string nQ,.int .i64 i7,.string nL,.int .i64 i8,.string mR,.int .i64 i9,.string mU,.int .i64 i10]) (.int .i64 3)).run ai W2=.ok (.agg #[.string nK,.int .i64 i4]) W2:=fun W2=>by kernel_rfl
    by_cases g:0<=i4
    · exact z_
    · rw[if_neg g] at e;have E:=av e;have d:=decide_eq_false g;have g2:i4<0:=by omega
      clear e HP;go_wp2_with fail;go_roundw
      case rel=>exact⟨4,by omega,by go_num,av Aa,E⟩
      case measure=>simp[intOf]
  · have e:=(show iZ words [i1,i2,i3,i4,i5,i6,i7,i8,i9,i10]=if 0<=i5 then (nN,i5) else iZ (words.drop 5) (List.drop 5 [i1,i2,i3,i4,i5,i6,i7,i8,i9,i10]) by rw[HP.out];rfl)
    have hix:∀W2:V,(Instr.index 295 (.agg #[.string nR,.int .i64 i1,.string nO,.int .i64 i2,.string mV,.int .i64 i3,.string nK,.int .i64 i4,.string nN,.int .i64 i5,.string nP,.int .i64 i6,.string nQ,.int .i64 i7,.string nL,.int .i64 i8,.string mR,.int .i64 i9,.string mU,.int .i64 i10]) (.int .i64 4)).run ai W2=.ok (.agg #[.string nN,.int .i64 i5]) W2:=fun W2=>by kernel_rfl
    by_cases g:0<=i5
    · exact z_
    · rw[if_neg g] at e;have E:=av e;have d:=decide_eq_false g;have g2:i5<0:=by omega
      clear e HP;go_wp2_with fail;go_roundw
      case rel=>exact⟨5,by omega,by go_num,av Aa,E⟩
      case measure=>simp[intOf]
  · have e:=(show iZ words [i1,i2,i3,i4,i5,i6,i7,i8,i9,i10]=if 0<=i6 then (nP,i6) else iZ (words.drop 6) (List.drop 6 [i1,i2,i3,i4,i5,i6,i7,i8,i9,i10]) by rw[HP.out];rfl)
    have hix:∀W2:V,(Instr.index 295 (.agg #[.string nR,.int .i64 i1,.string nO,.int .i64 i2,.string mV,.int .i64 i3,.string nK,.int .i64 i4,.string nN,.int .i64 i5,.string nP,.int .i64 i6,.string nQ,.int .i64 i7,.string nL,.int .i64 i8,.string mR,.int .i64 i9,.string mU,.int .i64 i10]) (.int .i64 5)).run ai W2=.ok (.agg #[.string nP,.int .i64 i6]) W2:=fun W2=>by kernel_rfl
    by_cases g:0<=i6
    · exact z_
    · rw[if_neg g] at e;have E:=av e;have d:=decide_eq_false g;have g2:i6<0:=by omega
      clear e HP;go_wp2_with fail;go_roundw
      case rel=>exact⟨6,by omega,by go_num,av Aa,E⟩
      case measure=>simp[intOf]
  · have e:=(show iZ words [i1,i2,i3,i4,i5,i6,i7,i8,i9,i10]=if 0<=i7 then (nQ,i7) else iZ (words.drop 7) (List.drop 7 [i1,i2,i3,i4,i5,i6,i7,i8,i9,i10]) by rw[HP.out];rfl)
    have hix:∀W2:V,(Instr.index 295 (.agg #[.string nR,.int .i64 i1,.string nO,.int .i64 i2,.string mV,.int .i64 i3,.string nK,.int .i64 i4,.string nN,.int .i64 i5,.string nP,.int .i64 i6,.string nQ,.int .i64 i7,.string nL,.int .i64 i8,.string mR,.int .i64 i9,.string mU,.int .i64 i10]) (.int .i64 6)).run ai W2=.ok (.agg #[.string nQ,.int .i64 i7]) W2:=fun W2=>by kernel_rfl
    by_cases g:0<=i7
    · exact z_
    · rw[if_neg g] at e;have E:=av e;have d:=decide_eq_false g;have g2:i7<0:=by omega
      clear e HP;go_wp2_with fail;go_roundw
      case rel=>exact⟨7,by omega,by go_num,av Aa,E⟩
      case measure=>simp[intOf]
  · have e:=(show iZ words [i1,i2,i3,i4,i5,i6,i7,i8,i9,i10]=if 0<=i8 then (nL,i8) else iZ (words.drop 8) (List.drop 8 [i1,i2,i3,i4,i5,i6,i7,i8,i9,i10]) by rw[HP.out];rfl)
    have hix:∀W2:V,(Instr.index 295 (.agg #[.string nR,.int .i64 i1,.string nO,.int .i64 i2,.string mV,.int .i64 i3,.string nK,.int .i64 i4,.string nN,.int .i64 i5,.string nP,.int .i64 i6,.string nQ,.int .i64 i7,.string nL,.int .i64 i8,.string mR,.int .i64 i9,.string mU,.int .i64 i10]) (.int .i64 7)).run ai W2=.ok (.agg #[.string nL,.int .i64 i8]) W2:=fun W2=>by kernel_rfl
    by_cases g:0<=i8
    · exact z_
    · rw[if_neg g] at e;have E:=av e;have d:=decide_eq_false g;have g2:i8<0:=by omega
      clear e HP;go_wp2_with fail;go_roundw
      case rel=>exact⟨8,by omega,by go_num,av Aa,E⟩
      case measure=>simp[intOf]
  · have e:=(show iZ words [i1,i2,i3,i4,i5,i6,i7,i8,i9,i10]=if 0<=i9 then (mR,i9) else iZ (words.drop 9) (List.drop 9 [i1,i2,i3,i4,i5,i6,i7,i8,i9,i10]) by rw[HP.out];rfl)
    have hix:∀W2:V,(Instr.index 295 (.agg #[.string nR,.int .i64 i1,.string nO,.int .i64 i2,.string mV,.int .i64 i3,.string nK,.int .i64 i4,.string nN,.int .i64 i5,.string nP,.int .i64 i6,.string nQ,.int .i64 i7,.string nL,.int .i64 i8,.string mR,.int .i64 i9,.string mU,.int .i64 i10]) (.int .i64 8)).run ai W2=.ok (.agg #[.string mR,.int .i64 i9]) W2:=fun W2=>by kernel_rfl
    by_cases g:0<=i9
    · exact z_
    · rw[if_neg g] at e;have E:=av e;have d:=decide_eq_false g;have g2:i9<0:=by omega
      clear e HP;go_wp2_with fail;go_roundw
      case rel=>exact⟨9,by omega,by go_num,av Aa,E⟩
      case measure=>simp[intOf]
  · have e:=(show iZ words [i1,i2,i3,i4,i5,i6,i7,i8,i9,i10]=if 0<=i10 then (mU,i10) else iZ (words.drop 10) (List.drop 10 [i1,i2,i3,i4,i5,i6,i7,i8,i9,i10]) by rw[HP.out];rfl)
    have hix:∀W2:V,(Instr.index 295 (.agg #[.string nR,.int .i64 i1,.string nO,.int .i64 i2,.string mV,.int .i64 i3,.string nK,.int .i64 i4,.string nN,.int .i64 i5,.string nP,.int .i64 i6,.string nQ,.int .i64 i7,.string nL,.int .i64 i8,.string mR,.int .i64 i9,.string mU,.int .i64 i10]) (.int .i64 9)).run ai W2=.ok (.agg #[.string mU,.int .i64 i10]) W2:=fun W2=>by kernel_rfl
    by_cases g:0<=i10
    · exact z_
    · rw[if_neg g] at e;have E:=av e;have d:=decide_eq_false g;have g2:i10<0:=by omega
      clear e HP;go_wp2_with fail;go_roundw
      case rel=>exact⟨10,by omega,by go_num,av Aa,E⟩
      case measure=>simp[intOf]
  · have HE:=av (show iZ words [i1,i2,i3,i4,i5,i6,i7,i8,i9,i10]=(Sm.nE,-1) by rw[HP.out];rfl);clear HP;go_wp2_with fail;go_ret2
    exact⟨by rw[HE.out];rfl,by have bU:=HW.out;exact bl⟩
theorem apA (x:b_) (P:fe) (s:ByteArray) (w:V) (hx:iT (Lo w.heap.size) w x P):au ai 207 #[.agg (bX x P),.string s] w (Gives (.tuple #[.string (AP x s),.int .i64 (JV x s)]) w):=by
 obtain⟨n13,n20,Es,h20,hn,i1,i2,i3,i4,i5,i6,i7,i8,i9,i10,HC,FK,hp⟩:=apB x P s w hx;rw[show AP x s=(iZ words [i1,i2,i3,i4,i5,i6,i7,i8,i9,i10]).1 by rw[← hp],show JV x s=(iZ words [i1,i2,i3,i4,i5,i6,i7,i8,i9,i10]).2 by rw[← hp]];exact apC x P s w n13 n20 Es h20 hn i1 i2 i3 i4 i5 i6 i7 i8 i9 i10 HC FK
theorem anQ (x:b_) (P:fe) (s:ByteArray) (w:V) (hx:iT (Lo w.heap.size) w x P):au ai 202 #[.agg (bX x P),.string s] w (Gives (.string (AP x s)) w):=by
 have CP:=av (fun W (hW:ak w.heap.size w W)=>apA x P s W (hx.on hW));obtain⟨n13,jM⟩:∃n:Nat,13=n:=⟨_,rfl⟩
 have Cu:∀w,(sizeOf 53).run ai w=.ok n13 w:=fun w=>by rw[Tryz.sizeOf53,jM]
 have atJ:=fun W=>run_loadCellsFrom_new (P:=ai) W 53 (bX x P) n13 (by rw[SA];exact jM);clear hx jM;go_enter Tryz.func202,Tryz.ntmps202;go_wp2_with fail;refine(CP.out _ bl).mono ?_;rintro e v1 ⟨rfl,hb1⟩;go_wp2_with fail;go_ret;exact⟨rfl,bl⟩
theorem anP:wC:=anQ
end Md
end Go.Proofs.YtbgodajefaahdaaGreatDoor
