/-
  Parts of this proof: The contracts of place, Kind and Index.
-/
import Derived.Test.YtbgodajefaahdaaGreatDoorZQTrm
set_option linter.unusedSimpArgs false
set_option linter.unusedVariables false
open Go.Lib (hid)
namespace Go.Proofs.YtbgodajefaahdaaGreatDoor.Md
open Go.RowKit
open Go.Proofs.YtbgodajefaahdaaGreatDoor.Na (Strs fst)
open Go.Proofs.YtbgodajefaahdaaGreatDoor.Ex (Lo Gives bl_set)
set_option maxHeartbeats 8000000
set_option linter.unusedSimpArgs false
theorem bKin:Big 295 20:=⟨⟨_,Tryz.underlying295,rfl⟩,by kernel_rfl⟩
def Zk (W:World) (B:Nat):Prop:=W.heap[B]?=some (.cells #[.string ⟨#[]⟩,.int .i64 0,.string ⟨#[]⟩,.int .i64 0,.string ⟨#[]⟩,.int .i64 0,.string ⟨#[]⟩,.int .i64 0,.string ⟨#[]⟩,.int .i64 0,.string ⟨#[]⟩,.int .i64 0,.string ⟨#[]⟩,.int .i64 0,.string ⟨#[]⟩,.int .i64 0,.string ⟨#[]⟩,.int .i64 0,.string ⟨#[]⟩,.int .i64 0] 295 (0,0))
theorem Zk.new {W:World}:Zk (W.alloc (.cells #[.string ⟨#[]⟩,.int .i64 0,.string ⟨#[]⟩,.int .i64 0,.string ⟨#[]⟩,.int .i64 0,.string ⟨#[]⟩,.int .i64 0,.string ⟨#[]⟩,.int .i64 0,.string ⟨#[]⟩,.int .i64 0,.string ⟨#[]⟩,.int .i64 0,.string ⟨#[]⟩,.int .i64 0,.string ⟨#[]⟩,.int .i64 0,.string ⟨#[]⟩,.int .i64 0] 295)) W.heap.size:=World.alloc_heap_new W _
theorem Zk.far {W:World} {B:Nat} (h:Zk W B):Hid (∀W2,Below W.heap.size W W2->Zk W2 B):=hid fun _ hb=>(hb.block B (Array.getElem?_eq_some_iff.1 h).1).trans h
theorem Zk.there {W:World} {B:Nat} (h:Zk W B) {c:Array Value} (hs:c.size=20):W.there B 0 c.size:=fun j hj=>by
 rw[hs] at hj;rw[Nat.zero_add,cell_of_row W B j _ _ _ h,Array.getElem?_eq_getElem (by simpa using hj)];exact⟨rfl,by unfold World.frozen?; rw[show W.heap[(⟨B,j,none⟩:Addr).block]?=_ from h];simp⟩
theorem Zk.new' {W:World} {n:Nat} (h:W.heap.size=n):Zk (W.alloc (.cells #[.string ⟨#[]⟩,.int .i64 0,.string ⟨#[]⟩,.int .i64 0,.string ⟨#[]⟩,.int .i64 0,.string ⟨#[]⟩,.int .i64 0,.string ⟨#[]⟩,.int .i64 0,.string ⟨#[]⟩,.int .i64 0,.string ⟨#[]⟩,.int .i64 0,.string ⟨#[]⟩,.int .i64 0,.string ⟨#[]⟩,.int .i64 0,.string ⟨#[]⟩,.int .i64 0] 295)) n:=by subst h;exact Zk.new
theorem put_at {W:World} {B:Nat} {c:Array Value} (h:W.there B 0 c.size):At (W.setCells B 0 c.toList) B 0 c:=fun r v hv=>World.rangeAt_setCells_same W B 0 c.toList (by rw[Array.length_toList];exact h) r v (by rwa [Array.getElem?_toList])
theorem bl_sets' {a:World} {b:Nat} (hb:a.heap.size<=b):∀(vs:List Value) (o:Nat) (w:World),Below a.heap.size a w->Below a.heap.size a (w.setCells b o vs)
 | [],_,_,h=>h
 | v::t,o,w,h=>bl_sets' hb t (o+1) _ (bl_set h hb v)
theorem bl_sets {a w:World} {b o:Nat} {vs:List Value} (h:Below a.heap.size a w) (hb:a.heap.size<=b):Below a.heap.size a (w.setCells b o vs):=bl_sets' hb vs o w h
theorem find_at (p:Option Addr) (m c:Nat) (l:List ByteArray) (s:ByteArray) (w:World) {v:Int} (hv:fst l s=v) (hb:Strs w p m l):Calls Tryz.prog 189 #[.slice p m c,.string s] w (Gives (.int .i64 v) w):=by
 subst hv;exact(Na.find_any p m c l s w hb).mono fun e w' h=>⟨h.1,by rw[h.2];exact Below.refl _ _⟩
structure PlS (w:World) (P:PSte) (x:Ste) (s:ByteArray) (n13:Nat) (W:World):Prop where
 f1:W.cell? ⟨w.heap.size,1,none⟩=some (.slice P.vap P.vam P.vac)
 f2:W.cell? ⟨w.heap.size,2,none⟩=some (.slice P.rsp P.rsm P.rsc)
 f3:W.cell? ⟨w.heap.size,3,none⟩=some (.slice P.stp P.stm P.stc)
 f4:W.cell? ⟨w.heap.size,4,none⟩=some (.slice P.bep P.bem P.bec)
 f5:W.cell? ⟨w.heap.size,5,none⟩=some (.slice P.qup P.qum P.quc)
 f6:W.cell? ⟨w.heap.size,6,none⟩=some (.slice P.smp P.smm P.smc)
 f7:W.cell? ⟨w.heap.size,7,none⟩=some (.slice P.tap P.tam P.tac)
 f8:W.cell? ⟨w.heap.size,8,none⟩=some (.slice P.lep P.lem P.lec)
 f9:W.cell? ⟨w.heap.size,9,none⟩=some (.slice P.cop P.com P.coc)
 f10:W.cell? ⟨w.heap.size+1,0,none⟩=some (.string s)
 f11:(loadCellsFrom ⟨w.heap.size,0,none⟩ 0 n13 #[]).run Tryz.prog W=.ok (cSte x P) W
structure PlC (w:World) (P:PSte) (x:Ste) (s:ByteArray) (i1 i2 i3 i4 i5 i6 i7 i8 i9 i10:Int):Prop where
 c1:∀W,Below w.heap.size w W->W.cell? ⟨w.heap.size+1,0,none⟩=some (.string s)->Calls Tryz.prog 215 #[.slice P.vap P.vam P.vac,.func (.func 216) #[] #[.pointer (some ⟨w.heap.size+1,0,none⟩)]] W (Gives (.int .i64 i1) W)
 c2:∀W,Below w.heap.size w W->W.cell? ⟨w.heap.size+1,0,none⟩=some (.string s)->Calls Tryz.prog 217 #[.slice P.rsp P.rsm P.rsc,.func (.func 218) #[] #[.pointer (some ⟨w.heap.size+1,0,none⟩)]] W (Gives (.int .i64 i2) W)
 c3:∀W,Below w.heap.size w W->W.cell? ⟨w.heap.size+1,0,none⟩=some (.string s)->Calls Tryz.prog 219 #[.slice P.stp P.stm P.stc,.func (.func 220) #[] #[.pointer (some ⟨w.heap.size+1,0,none⟩)]] W (Gives (.int .i64 i3) W)
 c4:∀W,Below w.heap.size w W->W.cell? ⟨w.heap.size+1,0,none⟩=some (.string s)->Calls Tryz.prog 221 #[.slice P.bep P.bem P.bec,.func (.func 222) #[] #[.pointer (some ⟨w.heap.size+1,0,none⟩)]] W (Gives (.int .i64 i4) W)
 c5:∀W,Below w.heap.size w W->Calls Tryz.prog 189 #[.slice P.qup P.qum P.quc,.string s] W (Gives (.int .i64 i5) W)
 c6:∀W,Below w.heap.size w W->Calls Tryz.prog 189 #[.slice P.smp P.smm P.smc,.string s] W (Gives (.int .i64 i6) W)
 c7:∀W,Below w.heap.size w W->Calls Tryz.prog 189 #[.slice P.tap P.tam P.tac,.string s] W (Gives (.int .i64 i7) W)
 c8:∀W,Below w.heap.size w W->Calls Tryz.prog 189 #[.slice P.lep P.lem P.lec,.string s] W (Gives (.int .i64 i8) W)
 c9:∀W,Below w.heap.size w W->Calls Tryz.prog 189 #[.slice P.cop P.com P.coc,.string s] W (Gives (.int .i64 i9) W)
 c10:∀W,Below w.heap.size w W->Calls Tryz.prog 164 #[.agg (cSte x P),.string s] W (Gives (.int .i64 i10) W)
def plcI:List ByteArray->List Int->ByteArray×Int
 | w::t,i::u=>if 0<=i then (w,i) else plcI t u
 | _,_=>(Sm.nE,-1)
theorem plcI_of:∀(ws:List ByteArray) (L:List (List ByteArray)) (s:ByteArray),plcI ws (L.map fun l=>fst l s)=plc ws L s
 | [],_,_=>rfl
 | _::_,[],_=>rfl
 | w::t,l::u,s=>by rw[List.map_cons,plcI,plc,plcI_of]
theorem plcI_is {x:Ste} {s:ByteArray}:plcI words ((names x).map fun l=>fst l s)=(kindV x s,idxV x s):=plcI_of _ _ _
set_option maxRecDepth 100000 in
theorem place_pre (x:Ste) (P:PSte) (s:ByteArray) (w:World) (hx:OSte (Lo w.heap.size) w x P):∃(n13 n20:Nat) (_:∀w,(sizeOf 53).run Tryz.prog w=.ok n13 w) (_:∀w,(sizeOf 295).run Tryz.prog w=.ok n20 w) (_:Hid (20=n20)) (i1 i2 i3 i4 i5 i6 i7 i8 i9 i10:Int) (_:PlC w P x s i1 i2 i3 i4 i5 i6 i7 i8 i9 i10) (_:Hid (∀W,Below ((w.alloc (.cells (cSte x P) 53)).alloc (.cells #[.string s] 9)).heap.size ((w.alloc (.cells (cSte x P) 53)).alloc (.cells #[.string s] 9)) W->PlS w P x s n13 W)),(kindV x s,idxV x s)=plcI words [i1,i2,i3,i4,i5,i6,i7,i8,i9,i10]:=by
 have HX:=hid hx;clear hx;have FX:=far2 (w:=w) 53 9 (cSte x P) #[.string s];obtain⟨i1,h1⟩:∃i,fst (x.va.map (·.nm)) s=i:=⟨_,rfl⟩
 obtain⟨i2,h2⟩:∃i,fst (x.rs.map (·.nm)) s=i:=⟨_,rfl⟩
 obtain⟨i3,h3⟩:∃i,fst (x.st.map (·.nm)) s=i:=⟨_,rfl⟩
 obtain⟨i4,h4⟩:∃i,fst (x.be.map (·.nm)) s=i:=⟨_,rfl⟩
 obtain⟨i5,h5⟩:∃i,fst (x.qu) s=i:=⟨_,rfl⟩
 obtain⟨i6,h6⟩:∃i,fst (x.sm) s=i:=⟨_,rfl⟩
 obtain⟨i7,h7⟩:∃i,fst (x.ta) s=i:=⟨_,rfl⟩
 obtain⟨i8,h8⟩:∃i,fst (x.le) s=i:=⟨_,rfl⟩
 obtain⟨i9,h9⟩:∃i,fst (x.co) s=i:=⟨_,rfl⟩
 obtain⟨i10,h10⟩:∃i,fst (x.ro.map (·.nm)) s=i:=⟨_,rfl⟩
 have HR:=hid (show(kindV x s,idxV x s)=plcI words [i1,i2,i3,i4,i5,i6,i7,i8,i9,i10] by rw[← plcI_is];unfold names;simp only[List.map_cons,List.map_nil,h1,h2,h3,h4,h5,h6,h7,h8,h9,h10]);have C1:=hid (fun W (hW:Below w.heap.size w W) (hn:W.cell? ⟨w.heap.size+1,0,none⟩=some (.string s))=>(show Calls Tryz.prog 215 #[.slice P.vap P.vam P.vac,.func (.func 216) #[] #[.pointer (some ⟨w.heap.size+1,0,none⟩)]] W (Gives (.int .i64 i1) W) by rw[← h1];exact find_Val s _ (HX.out.va.on RVal.map hW) hn));have C2:=hid (fun W (hW:Below w.heap.size w W) (hn:W.cell? ⟨w.heap.size+1,0,none⟩=some (.string s))=>(show Calls Tryz.prog 217 #[.slice P.rsp P.rsm P.rsc,.func (.func 218) #[] #[.pointer (some ⟨w.heap.size+1,0,none⟩)]] W (Gives (.int .i64 i2) W) by rw[← h2];exact find_Res s _ (HX.out.rs.on RRes.map hW) hn));have C3:=hid (fun W (hW:Below w.heap.size w W) (hn:W.cell? ⟨w.heap.size+1,0,none⟩=some (.string s))=>(show Calls Tryz.prog 219 #[.slice P.stp P.stm P.stc,.func (.func 220) #[] #[.pointer (some ⟨w.heap.size+1,0,none⟩)]] W (Gives (.int .i64 i3) W) by rw[← h3];exact find_Sto s _ (HX.out.st.on RSto.map hW) hn));have C4:=hid (fun W (hW:Below w.heap.size w W) (hn:W.cell? ⟨w.heap.size+1,0,none⟩=some (.string s))=>(show Calls Tryz.prog 221 #[.slice P.bep P.bem P.bec,.func (.func 222) #[] #[.pointer (some ⟨w.heap.size+1,0,none⟩)]] W (Gives (.int .i64 i4) W) by rw[← h4];exact find_Blt s _ (HX.out.be.on RBlt.map hW) hn));have C5:=hid (fun W (hW:Below w.heap.size w W)=>find_at P.qup P.qum P.quc x.qu s W h5 (HX.out.qu.on RTxt.map hW).strs);have C6:=hid (fun W (hW:Below w.heap.size w W)=>find_at P.smp P.smm P.smc x.sm s W h6 (HX.out.sm.on RTxt.map hW).strs);have C7:=hid (fun W (hW:Below w.heap.size w W)=>find_at P.tap P.tam P.tac x.ta s W h7 (HX.out.ta.on RTxt.map hW).strs);have C8:=hid (fun W (hW:Below w.heap.size w W)=>find_at P.lep P.lem P.lec x.le s W h8 (HX.out.le.on RTxt.map hW).strs);have C9:=hid (fun W (hW:Below w.heap.size w W)=>find_at P.cop P.com P.coc x.co s W h9 (HX.out.co.on RTxt.map hW).strs);have C10:=hid (fun W (hW:Below w.heap.size w W)=>(show Calls Tryz.prog 164 #[.agg (cSte x P),.string s] W (Gives (.int .i64 i10) W) by rw[← h10];exact routine_any x P s W (HX.out.ro.on RRou.map hW)));obtain⟨n13,hn13⟩:∃n:Nat,13=n:=⟨_,rfl⟩
 have hsz13:∀w,(sizeOf 53).run Tryz.prog w=.ok n13 w:=fun w=>by rw[Tryz.sizeOf53,hn13]
 obtain⟨n20,hn20⟩:∃n:Nat,20=n:=⟨_,rfl⟩
 have hsz20:∀w,(sizeOf 295).run Tryz.prog w=.ok n20 w:=fun w=>by rw[Tryz.sizeOf295,hn20]
 have HN20:=hid hn20;have FK:Hid (∀W,Below ((w.alloc (.cells (cSte x P) 53)).alloc (.cells #[.string s] 9)).heap.size ((w.alloc (.cells (cSte x P) 53)).alloc (.cells #[.string s] 9)) W->PlS w P x s n13 W):=hid fun W hb=>by
  have q:=FX.out W hb;exact⟨q.1.get (cSte1 x P),q.1.get (cSte2 x P),q.1.get (cSte3 x P),q.1.get (cSte4 x P),q.1.get (cSte5 x P),q.1.get (cSte6 x P),q.1.get (cSte7 x P),q.1.get (cSte8 x P),q.1.get (cSte9 x P),q.2.get rfl,q.1.cell.ldN hn13⟩
 clear HX FX hn13 hn20 h1 h2 h3 h4 h5 h6 h7 h8 h9 h10;exact⟨n13,n20,hsz13,hsz20,HN20,i1,i2,i3,i4,i5,i6,i7,i8,i9,i10,⟨C1.out,C2.out,C3.out,C4.out,C5.out,C6.out,C7.out,C8.out,C9.out,C10.out⟩,FK,HR.out⟩
theorem zFB_b {p:Prop} (h:p:=by kernel_rfl):p:=h
theorem zFB_4 {p:Prop} (h:p:=by
 refine wpAnyH_ready (rs:=[51]) zFB_b (by simp) ?_;refine AllReadyH.cons (o:={ dst:=none,op:=Op.store 295 (Operand.tmp 6) (Operand.tmp 58),type:=0,pos := "model.go:72",after:=#[{ on:=50,ground:=Ground.data },{ on:=49,ground:=Ground.data },{ on:=47,ground:=Ground.chain },{ on:=0,ground:=Ground.phase },{ on:=1,ground:=Ground.phase },{ on:=2,ground:=Ground.phase },{ on:=3,ground:=Ground.phase },{ on:=4,ground:=Ground.phase },{ on:=5,ground:=Ground.phase },{ on:=6,ground:=Ground.phase },{ on:=7,ground:=Ground.phase },{ on:=8,ground:=Ground.phase },{ on:=9,ground:=Ground.phase },{ on:=10,ground:=Ground.phase },{ on:=11,ground:=Ground.phase },{ on:=12,ground:=Ground.phase },{ on:=13,ground:=Ground.phase },{ on:=14,ground:=Ground.phase },{ on:=15,ground:=Ground.phase },{ on:=16,ground:=Ground.phase },{ on:=17,ground:=Ground.phase },{ on:=18,ground:=Ground.phase },{ on:=19,ground:=Ground.phase },{ on:=20,ground:=Ground.phase },{ on:=21,ground:=Ground.phase },{ on:=22,ground:=Ground.phase },{ on:=23,ground:=Ground.phase },{ on:=24,ground:=Ground.phase },{ on:=25,ground:=Ground.phase },{ on:=26,ground:=Ground.phase },{ on:=27,ground:=Ground.phase },{ on:=28,ground:=Ground.phase },{ on:=29,ground:=Ground.phase },{ on:=30,ground:=Ground.phase },{ on:=31,ground:=Ground.phase },{ on:=32,ground:=Ground.phase },{ on:=33,ground:=Ground.phase },{ on:=34,ground:=Ground.phase },{ on:=35,ground:=Ground.phase },{ on:=36,ground:=Ground.phase },{ on:=37,ground:=Ground.phase },{ on:=38,ground:=Ground.phase },{ on:=39,ground:=Ground.phase },{ on:=40,ground:=Ground.phase },{ on:=41,ground:=Ground.phase },{ on:=42,ground:=Ground.phase },{ on:=43,ground:=Ground.phase },{ on:=44,ground:=Ground.phase },{ on:=45,ground:=Ground.phase },{ on:=46,ground:=Ground.phase },{ on:=47,ground:=Ground.phase },{ on:=48,ground:=Ground.phase },{ on:=49,ground:=Ground.phase },{ on:=50,ground:=Ground.phase }],guard:=none }) rfl (fun K hK=>?_) AllReadyH.nil;refine wp_store_mid _ _ _ rfl _ _ #[.string tVar,.int .i64 i1,.string tRes,.int .i64 i2,.string tSto,.int .i64 i3,.string tBlt,.int .i64 i4,.string tQue,.int .i64 i5,.string tStr,.int .i64 i6,.string tTal,.int .i64 i7,.string tLev,.int .i64 i8,.string tCnt,.int .i64 i9,.string tRou,.int .i64 i10] rfl rfl ta bKin.2 (by simp[Value.oneCell']) ?_;clear hHeld;have tp:=put_at ta;refine hK.out _ _ (show((fun(W:World)=>PlS w P x s n13 W)) _ from FK.out _ (bl_sets bl hs2)) (fun hHeld=>?_);clear hK K
 try simp only[Act.put,sA,sB,sC]
 refine wpAnyH_done zFB_b ?_ _
 try refine NoPanic.normal ?_
 go_wp2_with fail
 go_meet
 exact⟨_,rfl,hid tp,hid (bl_sets bl hs1)⟩
 ):p:=h
theorem zFB_2 {p:Prop} (h:p:=by
 try simp only[Act.put,sA,sB,sC]
 refine wpAnyH_ready (rs:=[47]) zFB_b (by simp) ?_;refine AllReadyH.cons (o:={ dst:=some 56,op:=Op.call { callee:=Callee.value (Operand.func 164),args:=#[Operand.tmp 54,Operand.tmp 55],argTypes:=#[53,9] },type:=3,pos := "model.go:85",after:=#[{ on:=45,ground:=Ground.data },{ on:=46,ground:=Ground.data },{ on:=43,ground:=Ground.chain }],guard:=none }) rfl (fun K hK=>?_) AllReadyH.nil
 go_simp
 refine(HC.c10 _ bl).mono ?_;rintro e v10 ⟨rfl,hb10⟩;clear hHeld;refine hK.out _ _ (show((fun(W:World)=>PlS w P x s n13 W)) _ from FK.out _ bl) (fun hHeld=>?_);clear hK K
 try simp only[Act.put,sA,sB,sC]
 refine htake 48 (.agg #[.string tRou,.int .i64 i10]) (hy:=fun W2 hS2=>by clear hHeld HC FK;first|(go_simp;done)|(go_simp;with_reducible rfl)|(go_simp;rfl)) (h:=?_)
 try simp only[Act.put,sA,sB,sC]
 refine htake 49 (.agg #[.string tVar,.int .i64 i1,.string tRes,.int .i64 i2,.string tSto,.int .i64 i3,.string tBlt,.int .i64 i4,.string tQue,.int .i64 i5,.string tStr,.int .i64 i6,.string tTal,.int .i64 i7,.string tLev,.int .i64 i8,.string tCnt,.int .i64 i9,.string tRou,.int .i64 i10]) (hy:=fun W2 hS2=>by clear hHeld HC FK;first|(go_simp;done)|(go_simp;with_reducible rfl)|(go_simp;rfl)) (h:=?_)
 try simp only[Act.put,sA,sB,sC]
 have ta:=(HZ.out v10 bl).there (c:=#[.string tVar,.int .i64 i1,.string tRes,.int .i64 i2,.string tSto,.int .i64 i3,.string tBlt,.int .i64 i4,.string tQue,.int .i64 i5,.string tStr,.int .i64 i6,.string tTal,.int .i64 i7,.string tLev,.int .i64 i8,.string tCnt,.int .i64 i9,.string tRou,.int .i64 i10]) rfl;exact zFB_4
 ):p:=h
theorem zFB_8 {p:Prop} (h:p:=by
 try simp only[Act.put,sA,sB,sC]
 refine wpAnyH_ready (rs:=[43]) zFB_b (by simp) ?_;refine AllReadyH.cons (o:={ dst:=some 52,op:=Op.call { callee:=Callee.value (Operand.func 189),args:=#[Operand.tmp 50,Operand.tmp 51],argTypes:=#[48,9] },type:=3,pos := "model.go:84",after:=#[{ on:=41,ground:=Ground.data },{ on:=42,ground:=Ground.data },{ on:=38,ground:=Ground.chain }],guard:=none }) rfl (fun K hK=>?_) AllReadyH.nil
 go_simp
 refine(HC.c9 _ bl).mono ?_;rintro e v9 ⟨rfl,hb9⟩;clear hHeld;refine hK.out _ _ (show((fun(W:World)=>PlS w P x s n13 W)) _ from FK.out _ bl) (fun hHeld=>?_);clear hK K
 try simp only[Act.put,sA,sB,sC]
 refine htake 44 (.agg #[.string tCnt,.int .i64 i9]) (hy:=fun W2 hS2=>by clear hHeld HC FK;first|(go_simp;done)|(go_simp;with_reducible rfl)|(go_simp;rfl)) (h:=?_);exact zFB_2
 ):p:=h
theorem zFB_0 {p:Prop} (h:p:=by
 try simp only[Act.put,sA,sB,sC]
 refine wpAnyH_ready (rs:=[38]) zFB_b (by simp) ?_;refine AllReadyH.cons (o:={ dst:=some 47,op:=Op.call { callee:=Callee.value (Operand.func 189),args:=#[Operand.tmp 45,Operand.tmp 46],argTypes:=#[48,9] },type:=3,pos := "model.go:83",after:=#[{ on:=36,ground:=Ground.data },{ on:=37,ground:=Ground.data },{ on:=33,ground:=Ground.chain }],guard:=none }) rfl (fun K hK=>?_) AllReadyH.nil
 go_simp
 refine(HC.c8 _ bl).mono ?_;rintro e v8 ⟨rfl,hb8⟩;clear hHeld;refine hK.out _ _ (show((fun(W:World)=>PlS w P x s n13 W)) _ from FK.out _ bl) (fun hHeld=>?_);clear hK K
 try simp only[Act.put,sA,sB,sC]
 refine htake 39 (.agg #[.string tLev,.int .i64 i8]) (hy:=fun W2 hS2=>by clear hHeld HC FK;first|(go_simp;done)|(go_simp;with_reducible rfl)|(go_simp;rfl)) (h:=?_);exact zFB_8
 ):p:=h
theorem zFB_9 {p:Prop} (h:p:=by
 try simp only[Act.put,sA,sB,sC]
 refine wpAnyH_ready (rs:=[33]) zFB_b (by simp) ?_;refine AllReadyH.cons (o:={ dst:=some 42,op:=Op.call { callee:=Callee.value (Operand.func 189),args:=#[Operand.tmp 40,Operand.tmp 41],argTypes:=#[48,9] },type:=3,pos := "model.go:82",after:=#[{ on:=31,ground:=Ground.data },{ on:=32,ground:=Ground.data },{ on:=28,ground:=Ground.chain }],guard:=none }) rfl (fun K hK=>?_) AllReadyH.nil
 go_simp
 refine(HC.c7 _ bl).mono ?_;rintro e v7 ⟨rfl,hb7⟩;clear hHeld;refine hK.out _ _ (show((fun(W:World)=>PlS w P x s n13 W)) _ from FK.out _ bl) (fun hHeld=>?_);clear hK K
 try simp only[Act.put,sA,sB,sC]
 refine htake 34 (.agg #[.string tTal,.int .i64 i7]) (hy:=fun W2 hS2=>by clear hHeld HC FK;first|(go_simp;done)|(go_simp;with_reducible rfl)|(go_simp;rfl)) (h:=?_);exact zFB_0
 ):p:=h
theorem zFB_3 {p:Prop} (h:p:=by
 try simp only[Act.put,sA,sB,sC]
 refine wpAnyH_ready (rs:=[28]) zFB_b (by simp) ?_;refine AllReadyH.cons (o:={ dst:=some 37,op:=Op.call { callee:=Callee.value (Operand.func 189),args:=#[Operand.tmp 35,Operand.tmp 36],argTypes:=#[48,9] },type:=3,pos := "model.go:81",after:=#[{ on:=26,ground:=Ground.data },{ on:=27,ground:=Ground.data },{ on:=23,ground:=Ground.chain }],guard:=none }) rfl (fun K hK=>?_) AllReadyH.nil
 go_simp
 refine(HC.c6 _ bl).mono ?_;rintro e v6 ⟨rfl,hb6⟩;clear hHeld;refine hK.out _ _ (show((fun(W:World)=>PlS w P x s n13 W)) _ from FK.out _ bl) (fun hHeld=>?_);clear hK K
 try simp only[Act.put,sA,sB,sC]
 refine htake 29 (.agg #[.string tStr,.int .i64 i6]) (hy:=fun W2 hS2=>by clear hHeld HC FK;first|(go_simp;done)|(go_simp;with_reducible rfl)|(go_simp;rfl)) (h:=?_);exact zFB_9
 ):p:=h
theorem zFB_a {p:Prop} (h:p:=by
 try simp only[Act.put,sA,sB,sC]
 refine wpAnyH_ready (rs:=[23]) zFB_b (by simp) ?_;refine AllReadyH.cons (o:={ dst:=some 32,op:=Op.call { callee:=Callee.value (Operand.func 189),args:=#[Operand.tmp 30,Operand.tmp 31],argTypes:=#[48,9] },type:=3,pos := "model.go:80",after:=#[{ on:=21,ground:=Ground.data },{ on:=22,ground:=Ground.data },{ on:=18,ground:=Ground.chain }],guard:=none }) rfl (fun K hK=>?_) AllReadyH.nil
 go_simp
 refine(HC.c5 _ bl).mono ?_;rintro e v5 ⟨rfl,hb5⟩;clear hHeld;refine hK.out _ _ (show((fun(W:World)=>PlS w P x s n13 W)) _ from FK.out _ bl) (fun hHeld=>?_);clear hK K
 try simp only[Act.put,sA,sB,sC]
 refine htake 24 (.agg #[.string tQue,.int .i64 i5]) (hy:=fun W2 hS2=>by clear hHeld HC FK;first|(go_simp;done)|(go_simp;with_reducible rfl)|(go_simp;rfl)) (h:=?_);exact zFB_3
 ):p:=h
theorem zFB_1 {p:Prop} (h:p:=by
 try simp only[Act.put,sA,sB,sC]
 refine wpAnyH_ready (rs:=[18]) zFB_b (by simp) ?_;refine AllReadyH.cons (o:={ dst:=some 27,op:=Op.call { callee:=Callee.value (Operand.func 221),args:=#[Operand.tmp 25,Operand.tmp 26],argTypes:=#[47,294] },type:=3,pos := "model.go:79",after:=#[{ on:=16,ground:=Ground.data },{ on:=17,ground:=Ground.data },{ on:=13,ground:=Ground.chain }],guard:=none }) rfl (fun K hK=>?_) AllReadyH.nil
 go_simp
 refine(HC.c4 _ bl hHeld.f10).mono ?_;rintro e v4 ⟨rfl,hb4⟩;clear hHeld;refine hK.out _ _ (show((fun(W:World)=>PlS w P x s n13 W)) _ from FK.out _ bl) (fun hHeld=>?_);clear hK K
 try simp only[Act.put,sA,sB,sC]
 refine htake 19 (.agg #[.string tBlt,.int .i64 i4]) (hy:=fun W2 hS2=>by clear hHeld HC FK;first|(go_simp;done)|(go_simp;with_reducible rfl)|(go_simp;rfl)) (h:=?_);exact zFB_a
 ):p:=h
theorem zFB_5 {p:Prop} (h:p:=by
 try simp only[Act.put,sA,sB,sC]
 refine wpAnyH_ready (rs:=[13]) zFB_b (by simp) ?_;refine AllReadyH.cons (o:={ dst:=some 22,op:=Op.call { callee:=Callee.value (Operand.func 219),args:=#[Operand.tmp 20,Operand.tmp 21],argTypes:=#[46,292] },type:=3,pos := "model.go:78",after:=#[{ on:=11,ground:=Ground.data },{ on:=12,ground:=Ground.data },{ on:=8,ground:=Ground.chain }],guard:=none }) rfl (fun K hK=>?_) AllReadyH.nil
 go_simp
 refine(HC.c3 _ bl hHeld.f10).mono ?_;rintro e v3 ⟨rfl,hb3⟩;clear hHeld;refine hK.out _ _ (show((fun(W:World)=>PlS w P x s n13 W)) _ from FK.out _ bl) (fun hHeld=>?_);clear hK K
 try simp only[Act.put,sA,sB,sC]
 refine htake 14 (.agg #[.string tSto,.int .i64 i3]) (hy:=fun W2 hS2=>by clear hHeld HC FK;first|(go_simp;done)|(go_simp;with_reducible rfl)|(go_simp;rfl)) (h:=?_);exact zFB_1
 ):p:=h
theorem zFB_6 {p:Prop} (h:p:=by
 rw[if_pos g] at e;rw[e];have d:=decide_eq_true g;clear e HP;go_wp2_with fail
 go_quiet (fail)
 go_wp2_with fail;go_ret2
 exact⟨rfl,by have HBB:=HW.out;exact bl⟩
 ):p:=h
theorem zFB_7 {p:Prop} (h:p:=by
 try simp only[Act.put,sA,sB,sC]
 refine wpAnyH_ready (rs:=[8]) zFB_b (by simp) ?_;refine AllReadyH.cons (o:={ dst:=some 17,op:=Op.call { callee:=Callee.value (Operand.func 217),args:=#[Operand.tmp 15,Operand.tmp 16],argTypes:=#[45,290] },type:=3,pos := "model.go:77",after:=#[{ on:=6,ground:=Ground.data },{ on:=7,ground:=Ground.data },{ on:=3,ground:=Ground.chain }],guard:=none }) rfl (fun K hK=>?_) AllReadyH.nil
 go_simp
 refine(HC.c2 _ bl hHeld.f10).mono ?_;rintro e v2 ⟨rfl,hb2⟩;clear hHeld;refine hK.out _ _ (show((fun(W:World)=>PlS w P x s n13 W)) _ from FK.out _ bl) (fun hHeld=>?_);clear hK K
 try simp only[Act.put,sA,sB,sC]
 refine htake 9 (.agg #[.string tRes,.int .i64 i2]) (hy:=fun W2 hS2=>by clear hHeld HC FK;first|(go_simp;done)|(go_simp;with_reducible rfl)|(go_simp;rfl)) (h:=?_);exact zFB_5
 ):p:=h
theorem zFB_c {p:Prop} (h:p:=by have HBB:=HW.out;exact bl):p:=h
set_option maxRecDepth 100000 in
theorem place_walk (x:Ste) (P:PSte) (s:ByteArray) (w:World) (n13 n20:Nat) (hsz13:∀w,(sizeOf 53).run Tryz.prog w=.ok n13 w) (hsz20:∀w,(sizeOf 295).run Tryz.prog w=.ok n20 w) (HN20:Hid (20=n20)) (i1 i2 i3 i4 i5 i6 i7 i8 i9 i10:Int) (HC:PlC w P x s i1 i2 i3 i4 i5 i6 i7 i8 i9 i10) (FK:Hid (∀W,Below ((w.alloc (.cells (cSte x P) 53)).alloc (.cells #[.string s] 9)).heap.size ((w.alloc (.cells (cSte x P) 53)).alloc (.cells #[.string s] 9)) W->PlS w P x s n13 W)):Calls Tryz.prog 207 #[.agg (cSte x P),.string s] w (Gives (.tuple #[.string (plcI words [i1,i2,i3,i4,i5,i6,i7,i8,i9,i10]).1,.int .i64 (plcI words [i1,i2,i3,i4,i5,i6,i7,i8,i9,i10]).2]) w):=by
 go_enter Tryz.func207,Tryz.ntmps207
 go_upto_region 1 with fail
 go_cut [6] from 9 to 58 (fun v wr=>∃B,v=.pointer (some ⟨B,0,none⟩)/\Hid (At wr B 0 #[.string tVar,.int .i64 i1,.string tRes,.int .i64 i2,.string tSto,.int .i64 i3,.string tBlt,.int .i64 i4,.string tQue,.int .i64 i5,.string tStr,.int .i64 i6,.string tTal,.int .i64 i7,.string tLev,.int .i64 i8,.string tCnt,.int .i64 i9,.string tRou,.int .i64 i10])/\Hid (Below w.heap.size w wr))
 case first=>
  try refine wp_region_noPanic ?_
  refine wp_region_held_drew (S:=(fun(W:World)=>PlS w P x s n13 W)) zFB_b (show((fun(W:World)=>PlS w P x s n13 W)) _ from FK.out _ bl) (fun hHeld=>?_);refine htake 0 (.pointer (some ⟨w.heap.size,1,none⟩)) (hy:=fun W2 hS2=>by clear hHeld HC FK;first|(go_simp;done)|(go_simp;with_reducible rfl)|(go_simp;rfl)) (h:=?_)
  try simp only[Act.put,sA,sB,sC]
  refine htake 1 (.slice P.vap P.vam P.vac) (hy:=fun W2 hS2=>by have q1:=hS2.f1;clear hHeld HC FK;first|(go_simp;done)|(go_simp;with_reducible rfl)|(go_simp;rfl)) (h:=?_)
  try simp only[Act.put,sA,sB,sC]
  refine htake 2 (.func (.func 216) #[] #[.pointer (some ⟨w.heap.size+1,0,none⟩)]) (hy:=fun W2 hS2=>by clear hHeld HC FK;first|(go_simp;done)|(go_simp;with_reducible rfl)|(go_simp;rfl)) (h:=?_)
  try simp only[Act.put,sA,sB,sC]
  refine htake 5 (.pointer (some ⟨w.heap.size,2,none⟩)) (hy:=fun W2 hS2=>by clear hHeld HC FK;first|(go_simp;done)|(go_simp;with_reducible rfl)|(go_simp;rfl)) (h:=?_)
  try simp only[Act.put,sA,sB,sC]
  refine htake 6 (.slice P.rsp P.rsm P.rsc) (hy:=fun W2 hS2=>by have q2:=hS2.f2;clear hHeld HC FK;first|(go_simp;done)|(go_simp;with_reducible rfl)|(go_simp;rfl)) (h:=?_)
  try simp only[Act.put,sA,sB,sC]
  refine htake 7 (.func (.func 218) #[] #[.pointer (some ⟨w.heap.size+1,0,none⟩)]) (hy:=fun W2 hS2=>by clear hHeld HC FK;first|(go_simp;done)|(go_simp;with_reducible rfl)|(go_simp;rfl)) (h:=?_)
  try simp only[Act.put,sA,sB,sC]
  refine htake 10 (.pointer (some ⟨w.heap.size,3,none⟩)) (hy:=fun W2 hS2=>by clear hHeld HC FK;first|(go_simp;done)|(go_simp;with_reducible rfl)|(go_simp;rfl)) (h:=?_)
  try simp only[Act.put,sA,sB,sC]
  refine htake 11 (.slice P.stp P.stm P.stc) (hy:=fun W2 hS2=>by have q3:=hS2.f3;clear hHeld HC FK;first|(go_simp;done)|(go_simp;with_reducible rfl)|(go_simp;rfl)) (h:=?_)
  try simp only[Act.put,sA,sB,sC]
  refine htake 12 (.func (.func 220) #[] #[.pointer (some ⟨w.heap.size+1,0,none⟩)]) (hy:=fun W2 hS2=>by clear hHeld HC FK;first|(go_simp;done)|(go_simp;with_reducible rfl)|(go_simp;rfl)) (h:=?_)
  try simp only[Act.put,sA,sB,sC]
  refine htake 15 (.pointer (some ⟨w.heap.size,4,none⟩)) (hy:=fun W2 hS2=>by clear hHeld HC FK;first|(go_simp;done)|(go_simp;with_reducible rfl)|(go_simp;rfl)) (h:=?_)
  try simp only[Act.put,sA,sB,sC]
  refine htake 16 (.slice P.bep P.bem P.bec) (hy:=fun W2 hS2=>by have q4:=hS2.f4;clear hHeld HC FK;first|(go_simp;done)|(go_simp;with_reducible rfl)|(go_simp;rfl)) (h:=?_)
  try simp only[Act.put,sA,sB,sC]
  refine htake 17 (.func (.func 222) #[] #[.pointer (some ⟨w.heap.size+1,0,none⟩)]) (hy:=fun W2 hS2=>by clear hHeld HC FK;first|(go_simp;done)|(go_simp;with_reducible rfl)|(go_simp;rfl)) (h:=?_)
  try simp only[Act.put,sA,sB,sC]
  refine htake 20 (.pointer (some ⟨w.heap.size,5,none⟩)) (hy:=fun W2 hS2=>by clear hHeld HC FK;first|(go_simp;done)|(go_simp;with_reducible rfl)|(go_simp;rfl)) (h:=?_)
  try simp only[Act.put,sA,sB,sC]
  refine htake 21 (.slice P.qup P.qum P.quc) (hy:=fun W2 hS2=>by have q5:=hS2.f5;clear hHeld HC FK;first|(go_simp;done)|(go_simp;with_reducible rfl)|(go_simp;rfl)) (h:=?_)
  try simp only[Act.put,sA,sB,sC]
  refine htake 22 (.string s) (hy:=fun W2 hS2=>by have q10:=hS2.f10;clear hHeld HC FK;first|(go_simp;done)|(go_simp;with_reducible rfl)|(go_simp;rfl)) (h:=?_)
  try simp only[Act.put,sA,sB,sC]
  refine htake 25 (.pointer (some ⟨w.heap.size,6,none⟩)) (hy:=fun W2 hS2=>by clear hHeld HC FK;first|(go_simp;done)|(go_simp;with_reducible rfl)|(go_simp;rfl)) (h:=?_)
  try simp only[Act.put,sA,sB,sC]
  refine htake 26 (.slice P.smp P.smm P.smc) (hy:=fun W2 hS2=>by have q6:=hS2.f6;clear hHeld HC FK;first|(go_simp;done)|(go_simp;with_reducible rfl)|(go_simp;rfl)) (h:=?_)
  try simp only[Act.put,sA,sB,sC]
  refine htake 27 (.string s) (hy:=fun W2 hS2=>by have q10:=hS2.f10;clear hHeld HC FK;first|(go_simp;done)|(go_simp;with_reducible rfl)|(go_simp;rfl)) (h:=?_)
  try simp only[Act.put,sA,sB,sC]
  refine htake 30 (.pointer (some ⟨w.heap.size,7,none⟩)) (hy:=fun W2 hS2=>by clear hHeld HC FK;first|(go_simp;done)|(go_simp;with_reducible rfl)|(go_simp;rfl)) (h:=?_)
  try simp only[Act.put,sA,sB,sC]
  refine htake 31 (.slice P.tap P.tam P.tac) (hy:=fun W2 hS2=>by have q7:=hS2.f7;clear hHeld HC FK;first|(go_simp;done)|(go_simp;with_reducible rfl)|(go_simp;rfl)) (h:=?_)
  try simp only[Act.put,sA,sB,sC]
  refine htake 32 (.string s) (hy:=fun W2 hS2=>by have q10:=hS2.f10;clear hHeld HC FK;first|(go_simp;done)|(go_simp;with_reducible rfl)|(go_simp;rfl)) (h:=?_)
  try simp only[Act.put,sA,sB,sC]
  refine htake 35 (.pointer (some ⟨w.heap.size,8,none⟩)) (hy:=fun W2 hS2=>by clear hHeld HC FK;first|(go_simp;done)|(go_simp;with_reducible rfl)|(go_simp;rfl)) (h:=?_)
  try simp only[Act.put,sA,sB,sC]
  refine htake 36 (.slice P.lep P.lem P.lec) (hy:=fun W2 hS2=>by have q8:=hS2.f8;clear hHeld HC FK;first|(go_simp;done)|(go_simp;with_reducible rfl)|(go_simp;rfl)) (h:=?_)
  try simp only[Act.put,sA,sB,sC]
  refine htake 37 (.string s) (hy:=fun W2 hS2=>by have q10:=hS2.f10;clear hHeld HC FK;first|(go_simp;done)|(go_simp;with_reducible rfl)|(go_simp;rfl)) (h:=?_)
  try simp only[Act.put,sA,sB,sC]
  refine htake 40 (.pointer (some ⟨w.heap.size,9,none⟩)) (hy:=fun W2 hS2=>by clear hHeld HC FK;first|(go_simp;done)|(go_simp;with_reducible rfl)|(go_simp;rfl)) (h:=?_)
  try simp only[Act.put,sA,sB,sC]
  refine htake 41 (.slice P.cop P.com P.coc) (hy:=fun W2 hS2=>by have q9:=hS2.f9;clear hHeld HC FK;first|(go_simp;done)|(go_simp;with_reducible rfl)|(go_simp;rfl)) (h:=?_)
  try simp only[Act.put,sA,sB,sC]
  refine htake 42 (.string s) (hy:=fun W2 hS2=>by have q10:=hS2.f10;clear hHeld HC FK;first|(go_simp;done)|(go_simp;with_reducible rfl)|(go_simp;rfl)) (h:=?_)
  try simp only[Act.put,sA,sB,sC]
  refine htake 45 (.agg (cSte x P)) (hy:=fun W2 hS2=>by have q11:=hS2.f11;clear hHeld HC FK;first|(go_simp;done)|(go_simp;with_reducible rfl)|(go_simp;rfl)) (h:=?_)
  try simp only[Act.put,sA,sB,sC]
  refine htake 46 (.string s) (hy:=fun W2 hS2=>by have q10:=hS2.f10;clear hHeld HC FK;first|(go_simp;done)|(go_simp;with_reducible rfl)|(go_simp;rfl)) (h:=?_)
  try simp only[Act.put,sA,sB,sC]
  refine wpAnyH_ready (rs:=[3,50]) zFB_b (by simp) ?_;refine AllReadyH.cons (o:={ dst:=some 12,op:=Op.call { callee:=Callee.value (Operand.func 215),args:=#[Operand.tmp 10,Operand.tmp 11],argTypes:=#[23,287] },type:=3,pos := "model.go:76",after:=#[{ on:=1,ground:=Ground.data },{ on:=2,ground:=Ground.data }],guard:=none }) rfl (fun K hK=>?_) ?_;rotate_left 1
  · refine AllReadyH.cons (o:={ dst:=some 6,op:=Op.alloc 295,type:=0,pos := "model.go:72",after:=#[],guard:=none }) rfl (fun K hK=>?_) AllReadyH.nil
    go_simp
    clear hHeld;have HZ:=(Zk.new' (W:=((w.alloc (.cells (cSte x P) 53)).alloc (.cells #[.string s] 9))) (n:=w.heap.size+1+1) (by simp)).far;have hs1:w.heap.size<=w.heap.size+1+1:=by omega
    have hs2:((w.alloc (.cells (cSte x P) 53)).alloc (.cells #[.string s] 9)).heap.size<=w.heap.size+1+1:=by simp
    refine hK.out _ _ (show((fun(W:World)=>PlS w P x s n13 W)) _ from FK.out _ bl) (fun hHeld=>?_);clear hK K
    try simp only[Act.put,sA,sB,sC]
    refine wpAnyH_ready (rs:=[3]) zFB_b (by simp) ?_;refine AllReadyH.cons (o:={ dst:=some 12,op:=Op.call { callee:=Callee.value (Operand.func 215),args:=#[Operand.tmp 10,Operand.tmp 11],argTypes:=#[23,287] },type:=3,pos := "model.go:76",after:=#[{ on:=1,ground:=Ground.data },{ on:=2,ground:=Ground.data }],guard:=none }) rfl (fun K hK=>?_) AllReadyH.nil
    go_simp
    refine(HC.c1 _ bl hHeld.f10).mono ?_;rintro e v1 ⟨rfl,hb1⟩;clear hHeld;refine hK.out _ _ (show((fun(W:World)=>PlS w P x s n13 W)) _ from FK.out _ bl) (fun hHeld=>?_);clear hK K
    try simp only[Act.put,sA,sB,sC]
    refine htake 4 (.agg #[.string tVar,.int .i64 i1]) (hy:=fun W2 hS2=>by clear hHeld HC FK;first|(go_simp;done)|(go_simp;with_reducible rfl)|(go_simp;rfl)) (h:=?_);exact zFB_7
  go_simp
  refine(HC.c1 _ bl hHeld.f10).mono ?_;rintro e v1 ⟨rfl,hb1⟩;clear hHeld;refine hK.out _ _ (show((fun(W:World)=>PlS w P x s n13 W)) _ from FK.out _ bl) (fun hHeld=>?_);clear hK K
  try simp only[Act.put,sA,sB,sC]
  refine htake 4 (.agg #[.string tVar,.int .i64 i1]) (hy:=fun W2 hS2=>by clear hHeld HC FK;first|(go_simp;done)|(go_simp;with_reducible rfl)|(go_simp;rfl)) (h:=?_)
  try simp only[Act.put,sA,sB,sC]
  refine wpAnyH_ready (rs:=[8,50]) zFB_b (by simp) ?_;refine AllReadyH.cons (o:={ dst:=some 17,op:=Op.call { callee:=Callee.value (Operand.func 217),args:=#[Operand.tmp 15,Operand.tmp 16],argTypes:=#[45,290] },type:=3,pos := "model.go:77",after:=#[{ on:=6,ground:=Ground.data },{ on:=7,ground:=Ground.data },{ on:=3,ground:=Ground.chain }],guard:=none }) rfl (fun K hK=>?_) ?_;rotate_left 1
  · refine AllReadyH.cons (o:={ dst:=some 6,op:=Op.alloc 295,type:=0,pos := "model.go:72",after:=#[],guard:=none }) rfl (fun K hK=>?_) AllReadyH.nil
    go_simp
    clear hHeld;have HZ:=(Zk.new' (W:=v1) (n:=v1.heap.size) (by simp)).far;have hs1:w.heap.size<=v1.heap.size:=(show Below w.heap.size w v1 by exact bl).size;have hs2:((w.alloc (.cells (cSte x P) 53)).alloc (.cells #[.string s] 9)).heap.size<=v1.heap.size:=(show Below ((w.alloc (.cells (cSte x P) 53)).alloc (.cells #[.string s] 9)).heap.size ((w.alloc (.cells (cSte x P) 53)).alloc (.cells #[.string s] 9)) v1 by exact bl).size;refine hK.out _ _ (show((fun(W:World)=>PlS w P x s n13 W)) _ from FK.out _ bl) (fun hHeld=>?_);clear hK K;exact zFB_7
  go_simp
  refine(HC.c2 _ bl hHeld.f10).mono ?_;rintro e v2 ⟨rfl,hb2⟩;clear hHeld;refine hK.out _ _ (show((fun(W:World)=>PlS w P x s n13 W)) _ from FK.out _ bl) (fun hHeld=>?_);clear hK K
  try simp only[Act.put,sA,sB,sC]
  refine htake 9 (.agg #[.string tRes,.int .i64 i2]) (hy:=fun W2 hS2=>by clear hHeld HC FK;first|(go_simp;done)|(go_simp;with_reducible rfl)|(go_simp;rfl)) (h:=?_)
  try simp only[Act.put,sA,sB,sC]
  refine wpAnyH_ready (rs:=[13,50]) zFB_b (by simp) ?_;refine AllReadyH.cons (o:={ dst:=some 22,op:=Op.call { callee:=Callee.value (Operand.func 219),args:=#[Operand.tmp 20,Operand.tmp 21],argTypes:=#[46,292] },type:=3,pos := "model.go:78",after:=#[{ on:=11,ground:=Ground.data },{ on:=12,ground:=Ground.data },{ on:=8,ground:=Ground.chain }],guard:=none }) rfl (fun K hK=>?_) ?_;rotate_left 1
  · refine AllReadyH.cons (o:={ dst:=some 6,op:=Op.alloc 295,type:=0,pos := "model.go:72",after:=#[],guard:=none }) rfl (fun K hK=>?_) AllReadyH.nil
    go_simp
    clear hHeld;have HZ:=(Zk.new' (W:=v2) (n:=v2.heap.size) (by simp)).far;have hs1:w.heap.size<=v2.heap.size:=(show Below w.heap.size w v2 by exact bl).size;have hs2:((w.alloc (.cells (cSte x P) 53)).alloc (.cells #[.string s] 9)).heap.size<=v2.heap.size:=(show Below ((w.alloc (.cells (cSte x P) 53)).alloc (.cells #[.string s] 9)).heap.size ((w.alloc (.cells (cSte x P) 53)).alloc (.cells #[.string s] 9)) v2 by exact bl).size;refine hK.out _ _ (show((fun(W:World)=>PlS w P x s n13 W)) _ from FK.out _ bl) (fun hHeld=>?_);clear hK K;exact zFB_5
  go_simp
  refine(HC.c3 _ bl hHeld.f10).mono ?_;rintro e v3 ⟨rfl,hb3⟩;clear hHeld;refine hK.out _ _ (show((fun(W:World)=>PlS w P x s n13 W)) _ from FK.out _ bl) (fun hHeld=>?_);clear hK K
  try simp only[Act.put,sA,sB,sC]
  refine htake 14 (.agg #[.string tSto,.int .i64 i3]) (hy:=fun W2 hS2=>by clear hHeld HC FK;first|(go_simp;done)|(go_simp;with_reducible rfl)|(go_simp;rfl)) (h:=?_)
  try simp only[Act.put,sA,sB,sC]
  refine wpAnyH_ready (rs:=[18,50]) zFB_b (by simp) ?_;refine AllReadyH.cons (o:={ dst:=some 27,op:=Op.call { callee:=Callee.value (Operand.func 221),args:=#[Operand.tmp 25,Operand.tmp 26],argTypes:=#[47,294] },type:=3,pos := "model.go:79",after:=#[{ on:=16,ground:=Ground.data },{ on:=17,ground:=Ground.data },{ on:=13,ground:=Ground.chain }],guard:=none }) rfl (fun K hK=>?_) ?_;rotate_left 1
  · refine AllReadyH.cons (o:={ dst:=some 6,op:=Op.alloc 295,type:=0,pos := "model.go:72",after:=#[],guard:=none }) rfl (fun K hK=>?_) AllReadyH.nil
    go_simp
    clear hHeld;have HZ:=(Zk.new' (W:=v3) (n:=v3.heap.size) (by simp)).far;have hs1:w.heap.size<=v3.heap.size:=(show Below w.heap.size w v3 by exact bl).size;have hs2:((w.alloc (.cells (cSte x P) 53)).alloc (.cells #[.string s] 9)).heap.size<=v3.heap.size:=(show Below ((w.alloc (.cells (cSte x P) 53)).alloc (.cells #[.string s] 9)).heap.size ((w.alloc (.cells (cSte x P) 53)).alloc (.cells #[.string s] 9)) v3 by exact bl).size;refine hK.out _ _ (show((fun(W:World)=>PlS w P x s n13 W)) _ from FK.out _ bl) (fun hHeld=>?_);clear hK K;exact zFB_1
  go_simp
  refine(HC.c4 _ bl hHeld.f10).mono ?_;rintro e v4 ⟨rfl,hb4⟩;clear hHeld;refine hK.out _ _ (show((fun(W:World)=>PlS w P x s n13 W)) _ from FK.out _ bl) (fun hHeld=>?_);clear hK K
  try simp only[Act.put,sA,sB,sC]
  refine htake 19 (.agg #[.string tBlt,.int .i64 i4]) (hy:=fun W2 hS2=>by clear hHeld HC FK;first|(go_simp;done)|(go_simp;with_reducible rfl)|(go_simp;rfl)) (h:=?_)
  try simp only[Act.put,sA,sB,sC]
  refine wpAnyH_ready (rs:=[23,50]) zFB_b (by simp) ?_;refine AllReadyH.cons (o:={ dst:=some 32,op:=Op.call { callee:=Callee.value (Operand.func 189),args:=#[Operand.tmp 30,Operand.tmp 31],argTypes:=#[48,9] },type:=3,pos := "model.go:80",after:=#[{ on:=21,ground:=Ground.data },{ on:=22,ground:=Ground.data },{ on:=18,ground:=Ground.chain }],guard:=none }) rfl (fun K hK=>?_) ?_;rotate_left 1
  · refine AllReadyH.cons (o:={ dst:=some 6,op:=Op.alloc 295,type:=0,pos := "model.go:72",after:=#[],guard:=none }) rfl (fun K hK=>?_) AllReadyH.nil
    go_simp
    clear hHeld;have HZ:=(Zk.new' (W:=v4) (n:=v4.heap.size) (by simp)).far;have hs1:w.heap.size<=v4.heap.size:=(show Below w.heap.size w v4 by exact bl).size;have hs2:((w.alloc (.cells (cSte x P) 53)).alloc (.cells #[.string s] 9)).heap.size<=v4.heap.size:=(show Below ((w.alloc (.cells (cSte x P) 53)).alloc (.cells #[.string s] 9)).heap.size ((w.alloc (.cells (cSte x P) 53)).alloc (.cells #[.string s] 9)) v4 by exact bl).size;refine hK.out _ _ (show((fun(W:World)=>PlS w P x s n13 W)) _ from FK.out _ bl) (fun hHeld=>?_);clear hK K;exact zFB_a
  go_simp
  refine(HC.c5 _ bl).mono ?_;rintro e v5 ⟨rfl,hb5⟩;clear hHeld;refine hK.out _ _ (show((fun(W:World)=>PlS w P x s n13 W)) _ from FK.out _ bl) (fun hHeld=>?_);clear hK K
  try simp only[Act.put,sA,sB,sC]
  refine htake 24 (.agg #[.string tQue,.int .i64 i5]) (hy:=fun W2 hS2=>by clear hHeld HC FK;first|(go_simp;done)|(go_simp;with_reducible rfl)|(go_simp;rfl)) (h:=?_)
  try simp only[Act.put,sA,sB,sC]
  refine wpAnyH_ready (rs:=[28,50]) zFB_b (by simp) ?_;refine AllReadyH.cons (o:={ dst:=some 37,op:=Op.call { callee:=Callee.value (Operand.func 189),args:=#[Operand.tmp 35,Operand.tmp 36],argTypes:=#[48,9] },type:=3,pos := "model.go:81",after:=#[{ on:=26,ground:=Ground.data },{ on:=27,ground:=Ground.data },{ on:=23,ground:=Ground.chain }],guard:=none }) rfl (fun K hK=>?_) ?_;rotate_left 1
  · refine AllReadyH.cons (o:={ dst:=some 6,op:=Op.alloc 295,type:=0,pos := "model.go:72",after:=#[],guard:=none }) rfl (fun K hK=>?_) AllReadyH.nil
    go_simp
    clear hHeld;have HZ:=(Zk.new' (W:=v5) (n:=v5.heap.size) (by simp)).far;have hs1:w.heap.size<=v5.heap.size:=(show Below w.heap.size w v5 by exact bl).size;have hs2:((w.alloc (.cells (cSte x P) 53)).alloc (.cells #[.string s] 9)).heap.size<=v5.heap.size:=(show Below ((w.alloc (.cells (cSte x P) 53)).alloc (.cells #[.string s] 9)).heap.size ((w.alloc (.cells (cSte x P) 53)).alloc (.cells #[.string s] 9)) v5 by exact bl).size;refine hK.out _ _ (show((fun(W:World)=>PlS w P x s n13 W)) _ from FK.out _ bl) (fun hHeld=>?_);clear hK K;exact zFB_3
  go_simp
  refine(HC.c6 _ bl).mono ?_;rintro e v6 ⟨rfl,hb6⟩;clear hHeld;refine hK.out _ _ (show((fun(W:World)=>PlS w P x s n13 W)) _ from FK.out _ bl) (fun hHeld=>?_);clear hK K
  try simp only[Act.put,sA,sB,sC]
  refine htake 29 (.agg #[.string tStr,.int .i64 i6]) (hy:=fun W2 hS2=>by clear hHeld HC FK;first|(go_simp;done)|(go_simp;with_reducible rfl)|(go_simp;rfl)) (h:=?_)
  try simp only[Act.put,sA,sB,sC]
  refine wpAnyH_ready (rs:=[33,50]) zFB_b (by simp) ?_;refine AllReadyH.cons (o:={ dst:=some 42,op:=Op.call { callee:=Callee.value (Operand.func 189),args:=#[Operand.tmp 40,Operand.tmp 41],argTypes:=#[48,9] },type:=3,pos := "model.go:82",after:=#[{ on:=31,ground:=Ground.data },{ on:=32,ground:=Ground.data },{ on:=28,ground:=Ground.chain }],guard:=none }) rfl (fun K hK=>?_) ?_;rotate_left 1
  · refine AllReadyH.cons (o:={ dst:=some 6,op:=Op.alloc 295,type:=0,pos := "model.go:72",after:=#[],guard:=none }) rfl (fun K hK=>?_) AllReadyH.nil
    go_simp
    clear hHeld;have HZ:=(Zk.new' (W:=v6) (n:=v6.heap.size) (by simp)).far;have hs1:w.heap.size<=v6.heap.size:=(show Below w.heap.size w v6 by exact bl).size;have hs2:((w.alloc (.cells (cSte x P) 53)).alloc (.cells #[.string s] 9)).heap.size<=v6.heap.size:=(show Below ((w.alloc (.cells (cSte x P) 53)).alloc (.cells #[.string s] 9)).heap.size ((w.alloc (.cells (cSte x P) 53)).alloc (.cells #[.string s] 9)) v6 by exact bl).size;refine hK.out _ _ (show((fun(W:World)=>PlS w P x s n13 W)) _ from FK.out _ bl) (fun hHeld=>?_);clear hK K;exact zFB_9
  go_simp
  refine(HC.c7 _ bl).mono ?_;rintro e v7 ⟨rfl,hb7⟩;clear hHeld;refine hK.out _ _ (show((fun(W:World)=>PlS w P x s n13 W)) _ from FK.out _ bl) (fun hHeld=>?_);clear hK K
  try simp only[Act.put,sA,sB,sC]
  refine htake 34 (.agg #[.string tTal,.int .i64 i7]) (hy:=fun W2 hS2=>by clear hHeld HC FK;first|(go_simp;done)|(go_simp;with_reducible rfl)|(go_simp;rfl)) (h:=?_)
  try simp only[Act.put,sA,sB,sC]
  refine wpAnyH_ready (rs:=[38,50]) zFB_b (by simp) ?_;refine AllReadyH.cons (o:={ dst:=some 47,op:=Op.call { callee:=Callee.value (Operand.func 189),args:=#[Operand.tmp 45,Operand.tmp 46],argTypes:=#[48,9] },type:=3,pos := "model.go:83",after:=#[{ on:=36,ground:=Ground.data },{ on:=37,ground:=Ground.data },{ on:=33,ground:=Ground.chain }],guard:=none }) rfl (fun K hK=>?_) ?_;rotate_left 1
  · refine AllReadyH.cons (o:={ dst:=some 6,op:=Op.alloc 295,type:=0,pos := "model.go:72",after:=#[],guard:=none }) rfl (fun K hK=>?_) AllReadyH.nil
    go_simp
    clear hHeld;have HZ:=(Zk.new' (W:=v7) (n:=v7.heap.size) (by simp)).far;have hs1:w.heap.size<=v7.heap.size:=(show Below w.heap.size w v7 by exact bl).size;have hs2:((w.alloc (.cells (cSte x P) 53)).alloc (.cells #[.string s] 9)).heap.size<=v7.heap.size:=(show Below ((w.alloc (.cells (cSte x P) 53)).alloc (.cells #[.string s] 9)).heap.size ((w.alloc (.cells (cSte x P) 53)).alloc (.cells #[.string s] 9)) v7 by exact bl).size;refine hK.out _ _ (show((fun(W:World)=>PlS w P x s n13 W)) _ from FK.out _ bl) (fun hHeld=>?_);clear hK K;exact zFB_0
  go_simp
  refine(HC.c8 _ bl).mono ?_;rintro e v8 ⟨rfl,hb8⟩;clear hHeld;refine hK.out _ _ (show((fun(W:World)=>PlS w P x s n13 W)) _ from FK.out _ bl) (fun hHeld=>?_);clear hK K
  try simp only[Act.put,sA,sB,sC]
  refine htake 39 (.agg #[.string tLev,.int .i64 i8]) (hy:=fun W2 hS2=>by clear hHeld HC FK;first|(go_simp;done)|(go_simp;with_reducible rfl)|(go_simp;rfl)) (h:=?_)
  try simp only[Act.put,sA,sB,sC]
  refine wpAnyH_ready (rs:=[43,50]) zFB_b (by simp) ?_;refine AllReadyH.cons (o:={ dst:=some 52,op:=Op.call { callee:=Callee.value (Operand.func 189),args:=#[Operand.tmp 50,Operand.tmp 51],argTypes:=#[48,9] },type:=3,pos := "model.go:84",after:=#[{ on:=41,ground:=Ground.data },{ on:=42,ground:=Ground.data },{ on:=38,ground:=Ground.chain }],guard:=none }) rfl (fun K hK=>?_) ?_;rotate_left 1
  · refine AllReadyH.cons (o:={ dst:=some 6,op:=Op.alloc 295,type:=0,pos := "model.go:72",after:=#[],guard:=none }) rfl (fun K hK=>?_) AllReadyH.nil
    go_simp
    clear hHeld;have HZ:=(Zk.new' (W:=v8) (n:=v8.heap.size) (by simp)).far;have hs1:w.heap.size<=v8.heap.size:=(show Below w.heap.size w v8 by exact bl).size;have hs2:((w.alloc (.cells (cSte x P) 53)).alloc (.cells #[.string s] 9)).heap.size<=v8.heap.size:=(show Below ((w.alloc (.cells (cSte x P) 53)).alloc (.cells #[.string s] 9)).heap.size ((w.alloc (.cells (cSte x P) 53)).alloc (.cells #[.string s] 9)) v8 by exact bl).size;refine hK.out _ _ (show((fun(W:World)=>PlS w P x s n13 W)) _ from FK.out _ bl) (fun hHeld=>?_);clear hK K;exact zFB_8
  go_simp
  refine(HC.c9 _ bl).mono ?_;rintro e v9 ⟨rfl,hb9⟩;clear hHeld;refine hK.out _ _ (show((fun(W:World)=>PlS w P x s n13 W)) _ from FK.out _ bl) (fun hHeld=>?_);clear hK K
  try simp only[Act.put,sA,sB,sC]
  refine htake 44 (.agg #[.string tCnt,.int .i64 i9]) (hy:=fun W2 hS2=>by clear hHeld HC FK;first|(go_simp;done)|(go_simp;with_reducible rfl)|(go_simp;rfl)) (h:=?_)
  try simp only[Act.put,sA,sB,sC]
  refine wpAnyH_ready (rs:=[47,50]) zFB_b (by simp) ?_;refine AllReadyH.cons (o:={ dst:=some 56,op:=Op.call { callee:=Callee.value (Operand.func 164),args:=#[Operand.tmp 54,Operand.tmp 55],argTypes:=#[53,9] },type:=3,pos := "model.go:85",after:=#[{ on:=45,ground:=Ground.data },{ on:=46,ground:=Ground.data },{ on:=43,ground:=Ground.chain }],guard:=none }) rfl (fun K hK=>?_) ?_;rotate_left 1
  · refine AllReadyH.cons (o:={ dst:=some 6,op:=Op.alloc 295,type:=0,pos := "model.go:72",after:=#[],guard:=none }) rfl (fun K hK=>?_) AllReadyH.nil
    go_simp
    clear hHeld;have HZ:=(Zk.new' (W:=v9) (n:=v9.heap.size) (by simp)).far;have hs1:w.heap.size<=v9.heap.size:=(show Below w.heap.size w v9 by exact bl).size;have hs2:((w.alloc (.cells (cSte x P) 53)).alloc (.cells #[.string s] 9)).heap.size<=v9.heap.size:=(show Below ((w.alloc (.cells (cSte x P) 53)).alloc (.cells #[.string s] 9)).heap.size ((w.alloc (.cells (cSte x P) 53)).alloc (.cells #[.string s] 9)) v9 by exact bl).size;refine hK.out _ _ (show((fun(W:World)=>PlS w P x s n13 W)) _ from FK.out _ bl) (fun hHeld=>?_);clear hK K;exact zFB_2
  go_simp
  refine(HC.c10 _ bl).mono ?_;rintro e v10 ⟨rfl,hb10⟩;clear hHeld;refine hK.out _ _ (show((fun(W:World)=>PlS w P x s n13 W)) _ from FK.out _ bl) (fun hHeld=>?_);clear hK K
  try simp only[Act.put,sA,sB,sC]
  refine htake 48 (.agg #[.string tRou,.int .i64 i10]) (hy:=fun W2 hS2=>by clear hHeld HC FK;first|(go_simp;done)|(go_simp;with_reducible rfl)|(go_simp;rfl)) (h:=?_)
  try simp only[Act.put,sA,sB,sC]
  refine htake 49 (.agg #[.string tVar,.int .i64 i1,.string tRes,.int .i64 i2,.string tSto,.int .i64 i3,.string tBlt,.int .i64 i4,.string tQue,.int .i64 i5,.string tStr,.int .i64 i6,.string tTal,.int .i64 i7,.string tLev,.int .i64 i8,.string tCnt,.int .i64 i9,.string tRou,.int .i64 i10]) (hy:=fun W2 hS2=>by clear hHeld HC FK;first|(go_simp;done)|(go_simp;with_reducible rfl)|(go_simp;rfl)) (h:=?_)
  try simp only[Act.put,sA,sB,sC]
  refine wpAnyH_ready (rs:=[50]) zFB_b (by simp) ?_;refine AllReadyH.cons (o:={ dst:=some 6,op:=Op.alloc 295,type:=0,pos := "model.go:72",after:=#[],guard:=none }) rfl (fun K hK=>?_) AllReadyH.nil
  go_simp
  clear hHeld;have HZ:=(Zk.new' (W:=v10) (n:=v10.heap.size) (by simp)).far;have hs1:w.heap.size<=v10.heap.size:=(show Below w.heap.size w v10 by exact bl).size;have hs2:((w.alloc (.cells (cSte x P) 53)).alloc (.cells #[.string s] 9)).heap.size<=v10.heap.size:=(show Below ((w.alloc (.cells (cSte x P) 53)).alloc (.cells #[.string s] 9)).heap.size ((w.alloc (.cells (cSte x P) 53)).alloc (.cells #[.string s] 9)) v10 by exact bl).size;refine hK.out _ _ (show((fun(W:World)=>PlS w P x s n13 W)) _ from FK.out _ bl) (fun hHeld=>?_);clear hK K
  try simp only[Act.put,sA,sB,sC]
  have ta:=(HZ.out (v10.alloc (.cells #[.string ⟨#[]⟩,.int .i64 0,.string ⟨#[]⟩,.int .i64 0,.string ⟨#[]⟩,.int .i64 0,.string ⟨#[]⟩,.int .i64 0,.string ⟨#[]⟩,.int .i64 0,.string ⟨#[]⟩,.int .i64 0,.string ⟨#[]⟩,.int .i64 0,.string ⟨#[]⟩,.int .i64 0,.string ⟨#[]⟩,.int .i64 0,.string ⟨#[]⟩,.int .i64 0] 295)) bl).there (c:=#[.string tVar,.int .i64 i1,.string tRes,.int .i64 i2,.string tSto,.int .i64 i3,.string tBlt,.int .i64 i4,.string tQue,.int .i64 i5,.string tStr,.int .i64 i6,.string tTal,.int .i64 i7,.string tLev,.int .i64 i8,.string tCnt,.int .i64 i9,.string tRou,.int .i64 i10]) rfl;exact zFB_4
 case rest=>
 obtain⟨B,rfl,HAT,HBW⟩:=hcut;have ld:=HAT.out.ldN HN20.out;have HB0:=HBW.out;clear HC FK HAT;go_wp2_with fail;go_loopw [60] (fun i wr=>∃j:Nat,j<=10/\i=.int .i64 j/\Hid (Below w.heap.size w wr)/\Hid (plcI words [i1,i2,i3,i4,i5,i6,i7,i8,i9,i10]=plcI (words.drop j) (List.drop j [i1,i2,i3,i4,i5,i6,i7,i8,i9,i10]))) (fun i _=>10-(intOf i).toNat)
 case atStart=>exact⟨0,Nat.zero_le _,rfl,HBW,hid rfl⟩
 case round=>
  obtain⟨j,hj,rfl,HW,HP⟩:=hrel;have hjj:j=0∨j=1∨j=2∨j=3∨j=4∨j=5∨j=6∨j=7∨j=8∨j=9∨j=10:=by omega
  rcases hjj with rfl|rfl|rfl|rfl|rfl|rfl|rfl|rfl|rfl|rfl|rfl
  · have e:=(show plcI words [i1,i2,i3,i4,i5,i6,i7,i8,i9,i10]=if 0<=i1 then (tVar,i1) else plcI (words.drop 1) (List.drop 1 [i1,i2,i3,i4,i5,i6,i7,i8,i9,i10]) by rw[HP.out];rfl)
    have hix:∀W2:World,(Instr.index 295 (.agg #[.string tVar,.int .i64 i1,.string tRes,.int .i64 i2,.string tSto,.int .i64 i3,.string tBlt,.int .i64 i4,.string tQue,.int .i64 i5,.string tStr,.int .i64 i6,.string tTal,.int .i64 i7,.string tLev,.int .i64 i8,.string tCnt,.int .i64 i9,.string tRou,.int .i64 i10]) (.int .i64 0)).run Tryz.prog W2=.ok (.agg #[.string tVar,.int .i64 i1]) W2:=fun W2=>by kernel_rfl
    by_cases g:0<=i1
    · exact zFB_6
    · rw[if_neg g] at e;have E:=hid e;have d:=decide_eq_false g;have g2:i1<0:=by omega
      clear e HP;go_wp2_with fail;go_roundw
      case rel=>exact⟨1,by omega,by go_num,hid zFB_c,E⟩
      case measure=>simp[intOf]
  · have e:=(show plcI words [i1,i2,i3,i4,i5,i6,i7,i8,i9,i10]=if 0<=i2 then (tRes,i2) else plcI (words.drop 2) (List.drop 2 [i1,i2,i3,i4,i5,i6,i7,i8,i9,i10]) by rw[HP.out];rfl)
    have hix:∀W2:World,(Instr.index 295 (.agg #[.string tVar,.int .i64 i1,.string tRes,.int .i64 i2,.string tSto,.int .i64 i3,.string tBlt,.int .i64 i4,.string tQue,.int .i64 i5,.string tStr,.int .i64 i6,.string tTal,.int .i64 i7,.string tLev,.int .i64 i8,.string tCnt,.int .i64 i9,.string tRou,.int .i64 i10]) (.int .i64 1)).run Tryz.prog W2=.ok (.agg #[.string tRes,.int .i64 i2]) W2:=fun W2=>by kernel_rfl
    by_cases g:0<=i2
    · exact zFB_6
    · rw[if_neg g] at e;have E:=hid e;have d:=decide_eq_false g;have g2:i2<0:=by omega
      clear e HP;go_wp2_with fail;go_roundw
      case rel=>exact⟨2,by omega,by go_num,hid zFB_c,E⟩
      case measure=>simp[intOf]
  · have e:=(show plcI words [i1,i2,i3,i4,i5,i6,i7,i8,i9,i10]=if 0<=i3 then (tSto,i3) else plcI (words.drop 3) (List.drop 3 [i1,i2,i3,i4,i5,i6,i7,i8,i9,i10]) by rw[HP.out];rfl)
    have hix:∀W2:World,(Instr.index 295 (.agg #[.string tVar,.int .i64 i1,.string tRes,.int .i64 i2,.string tSto,.int .i64 i3,.string tBlt,.int .i64 i4,.string tQue,.int .i64 i5,.string tStr,.int .i64 i6,.string tTal,.int .i64 i7,.string tLev,.int .i64 i8,.string tCnt,.int .i64 i9,.string tRou,.int .i64 i10]) (.int .i64 2)).run Tryz.prog W2=.ok (.agg #[.string tSto,.int .i64 i3]) W2:=fun W2=>by kernel_rfl
    by_cases g:0<=i3
    · exact zFB_6
    · rw[if_neg g] at e;have E:=hid e;have d:=decide_eq_false g;have g2:i3<0:=by omega
      clear e HP;go_wp2_with fail;go_roundw
      case rel=>exact⟨3,by omega,by go_num,hid zFB_c,E⟩
      case measure=>simp[intOf]
  · have e:=(show plcI words [i1,i2,i3,i4,i5,i6,i7,i8,i9,i10]=if 0<=i4 then (tBlt,i4) else plcI (words.drop 4) (List.drop 4 [i1,i2,i3,i4,i5,i6,i7,i8,i9,i10]) by rw[HP.out];rfl)
    have hix:∀W2:World,(Instr.index 295 (.agg #[.string tVar,.int .i64 i1,.string tRes,.int .i64 i2,.string tSto,.int .i64 i3,.string tBlt,.int .i64 i4,.string tQue,.int .i64 i5,.string tStr,.int .i64 i6,.string tTal,.int .i64 i7,.string tLev,.int .i64 i8,.string tCnt,.int .i64 i9,.string tRou,.int .i64 i10]) (.int .i64 3)).run Tryz.prog W2=.ok (.agg #[.string tBlt,.int .i64 i4]) W2:=fun W2=>by kernel_rfl
    by_cases g:0<=i4
    · exact zFB_6
    · rw[if_neg g] at e;have E:=hid e;have d:=decide_eq_false g;have g2:i4<0:=by omega
      clear e HP;go_wp2_with fail;go_roundw
      case rel=>exact⟨4,by omega,by go_num,hid zFB_c,E⟩
      case measure=>simp[intOf]
  · have e:=(show plcI words [i1,i2,i3,i4,i5,i6,i7,i8,i9,i10]=if 0<=i5 then (tQue,i5) else plcI (words.drop 5) (List.drop 5 [i1,i2,i3,i4,i5,i6,i7,i8,i9,i10]) by rw[HP.out];rfl)
    have hix:∀W2:World,(Instr.index 295 (.agg #[.string tVar,.int .i64 i1,.string tRes,.int .i64 i2,.string tSto,.int .i64 i3,.string tBlt,.int .i64 i4,.string tQue,.int .i64 i5,.string tStr,.int .i64 i6,.string tTal,.int .i64 i7,.string tLev,.int .i64 i8,.string tCnt,.int .i64 i9,.string tRou,.int .i64 i10]) (.int .i64 4)).run Tryz.prog W2=.ok (.agg #[.string tQue,.int .i64 i5]) W2:=fun W2=>by kernel_rfl
    by_cases g:0<=i5
    · exact zFB_6
    · rw[if_neg g] at e;have E:=hid e;have d:=decide_eq_false g;have g2:i5<0:=by omega
      clear e HP;go_wp2_with fail;go_roundw
      case rel=>exact⟨5,by omega,by go_num,hid zFB_c,E⟩
      case measure=>simp[intOf]
  · have e:=(show plcI words [i1,i2,i3,i4,i5,i6,i7,i8,i9,i10]=if 0<=i6 then (tStr,i6) else plcI (words.drop 6) (List.drop 6 [i1,i2,i3,i4,i5,i6,i7,i8,i9,i10]) by rw[HP.out];rfl)
    have hix:∀W2:World,(Instr.index 295 (.agg #[.string tVar,.int .i64 i1,.string tRes,.int .i64 i2,.string tSto,.int .i64 i3,.string tBlt,.int .i64 i4,.string tQue,.int .i64 i5,.string tStr,.int .i64 i6,.string tTal,.int .i64 i7,.string tLev,.int .i64 i8,.string tCnt,.int .i64 i9,.string tRou,.int .i64 i10]) (.int .i64 5)).run Tryz.prog W2=.ok (.agg #[.string tStr,.int .i64 i6]) W2:=fun W2=>by kernel_rfl
    by_cases g:0<=i6
    · exact zFB_6
    · rw[if_neg g] at e;have E:=hid e;have d:=decide_eq_false g;have g2:i6<0:=by omega
      clear e HP;go_wp2_with fail;go_roundw
      case rel=>exact⟨6,by omega,by go_num,hid zFB_c,E⟩
      case measure=>simp[intOf]
  · have e:=(show plcI words [i1,i2,i3,i4,i5,i6,i7,i8,i9,i10]=if 0<=i7 then (tTal,i7) else plcI (words.drop 7) (List.drop 7 [i1,i2,i3,i4,i5,i6,i7,i8,i9,i10]) by rw[HP.out];rfl)
    have hix:∀W2:World,(Instr.index 295 (.agg #[.string tVar,.int .i64 i1,.string tRes,.int .i64 i2,.string tSto,.int .i64 i3,.string tBlt,.int .i64 i4,.string tQue,.int .i64 i5,.string tStr,.int .i64 i6,.string tTal,.int .i64 i7,.string tLev,.int .i64 i8,.string tCnt,.int .i64 i9,.string tRou,.int .i64 i10]) (.int .i64 6)).run Tryz.prog W2=.ok (.agg #[.string tTal,.int .i64 i7]) W2:=fun W2=>by kernel_rfl
    by_cases g:0<=i7
    · exact zFB_6
    · rw[if_neg g] at e;have E:=hid e;have d:=decide_eq_false g;have g2:i7<0:=by omega
      clear e HP;go_wp2_with fail;go_roundw
      case rel=>exact⟨7,by omega,by go_num,hid zFB_c,E⟩
      case measure=>simp[intOf]
  · have e:=(show plcI words [i1,i2,i3,i4,i5,i6,i7,i8,i9,i10]=if 0<=i8 then (tLev,i8) else plcI (words.drop 8) (List.drop 8 [i1,i2,i3,i4,i5,i6,i7,i8,i9,i10]) by rw[HP.out];rfl)
    have hix:∀W2:World,(Instr.index 295 (.agg #[.string tVar,.int .i64 i1,.string tRes,.int .i64 i2,.string tSto,.int .i64 i3,.string tBlt,.int .i64 i4,.string tQue,.int .i64 i5,.string tStr,.int .i64 i6,.string tTal,.int .i64 i7,.string tLev,.int .i64 i8,.string tCnt,.int .i64 i9,.string tRou,.int .i64 i10]) (.int .i64 7)).run Tryz.prog W2=.ok (.agg #[.string tLev,.int .i64 i8]) W2:=fun W2=>by kernel_rfl
    by_cases g:0<=i8
    · exact zFB_6
    · rw[if_neg g] at e;have E:=hid e;have d:=decide_eq_false g;have g2:i8<0:=by omega
      clear e HP;go_wp2_with fail;go_roundw
      case rel=>exact⟨8,by omega,by go_num,hid zFB_c,E⟩
      case measure=>simp[intOf]
  · have e:=(show plcI words [i1,i2,i3,i4,i5,i6,i7,i8,i9,i10]=if 0<=i9 then (tCnt,i9) else plcI (words.drop 9) (List.drop 9 [i1,i2,i3,i4,i5,i6,i7,i8,i9,i10]) by rw[HP.out];rfl)
    have hix:∀W2:World,(Instr.index 295 (.agg #[.string tVar,.int .i64 i1,.string tRes,.int .i64 i2,.string tSto,.int .i64 i3,.string tBlt,.int .i64 i4,.string tQue,.int .i64 i5,.string tStr,.int .i64 i6,.string tTal,.int .i64 i7,.string tLev,.int .i64 i8,.string tCnt,.int .i64 i9,.string tRou,.int .i64 i10]) (.int .i64 8)).run Tryz.prog W2=.ok (.agg #[.string tCnt,.int .i64 i9]) W2:=fun W2=>by kernel_rfl
    by_cases g:0<=i9
    · exact zFB_6
    · rw[if_neg g] at e;have E:=hid e;have d:=decide_eq_false g;have g2:i9<0:=by omega
      clear e HP;go_wp2_with fail;go_roundw
      case rel=>exact⟨9,by omega,by go_num,hid zFB_c,E⟩
      case measure=>simp[intOf]
  · have e:=(show plcI words [i1,i2,i3,i4,i5,i6,i7,i8,i9,i10]=if 0<=i10 then (tRou,i10) else plcI (words.drop 10) (List.drop 10 [i1,i2,i3,i4,i5,i6,i7,i8,i9,i10]) by rw[HP.out];rfl)
    have hix:∀W2:World,(Instr.index 295 (.agg #[.string tVar,.int .i64 i1,.string tRes,.int .i64 i2,.string tSto,.int .i64 i3,.string tBlt,.int .i64 i4,.string tQue,.int .i64 i5,.string tStr,.int .i64 i6,.string tTal,.int .i64 i7,.string tLev,.int .i64 i8,.string tCnt,.int .i64 i9,.string tRou,.int .i64 i10]) (.int .i64 9)).run Tryz.prog W2=.ok (.agg #[.string tRou,.int .i64 i10]) W2:=fun W2=>by kernel_rfl
    by_cases g:0<=i10
    · exact zFB_6
    · rw[if_neg g] at e;have E:=hid e;have d:=decide_eq_false g;have g2:i10<0:=by omega
      clear e HP;go_wp2_with fail;go_roundw
      case rel=>exact⟨10,by omega,by go_num,hid zFB_c,E⟩
      case measure=>simp[intOf]
  · have HE:=hid (show plcI words [i1,i2,i3,i4,i5,i6,i7,i8,i9,i10]=(Sm.nE,-1) by rw[HP.out];rfl);clear HP;go_wp2_with fail;go_ret2
    exact⟨by rw[HE.out];rfl,by have HBB:=HW.out;exact bl⟩
theorem place_any (x:Ste) (P:PSte) (s:ByteArray) (w:World) (hx:OSte (Lo w.heap.size) w x P):Calls Tryz.prog 207 #[.agg (cSte x P),.string s] w (Gives (.tuple #[.string (kindV x s),.int .i64 (idxV x s)]) w):=by
 obtain⟨n13,n20,h13,h20,hn,i1,i2,i3,i4,i5,i6,i7,i8,i9,i10,HC,FK,hp⟩:=place_pre x P s w hx;rw[show kindV x s=(plcI words [i1,i2,i3,i4,i5,i6,i7,i8,i9,i10]).1 by rw[← hp],show idxV x s=(plcI words [i1,i2,i3,i4,i5,i6,i7,i8,i9,i10]).2 by rw[← hp]];exact place_walk x P s w n13 n20 h13 h20 hn i1 i2 i3 i4 i5 i6 i7 i8 i9 i10 HC FK
theorem kind_any (x:Ste) (P:PSte) (s:ByteArray) (w:World) (hx:OSte (Lo w.heap.size) w x P):Calls Tryz.prog 202 #[.agg (cSte x P),.string s] w (Gives (.string (kindV x s)) w):=by
 have CP:=hid (fun W (hW:Below w.heap.size w W)=>place_any x P s W (hx.on hW));obtain⟨n13,hn13⟩:∃n:Nat,13=n:=⟨_,rfl⟩
 have hsz13:∀w,(sizeOf 53).run Tryz.prog w=.ok n13 w:=fun w=>by rw[Tryz.sizeOf53,hn13]
 have ld13:=fun W=>run_loadCellsFrom_new (P:=Tryz.prog) W 53 (cSte x P) n13 (by rw[cSte_size];exact hn13);clear hx hn13;go_enter Tryz.func202,Tryz.ntmps202;go_wp2_with fail;refine(CP.out _ bl).mono ?_;rintro e v1 ⟨rfl,hb1⟩;go_wp2_with fail;go_ret;exact⟨rfl,bl⟩
theorem kindC:KindC:=kind_any
end Go.Proofs.YtbgodajefaahdaaGreatDoor.Md
