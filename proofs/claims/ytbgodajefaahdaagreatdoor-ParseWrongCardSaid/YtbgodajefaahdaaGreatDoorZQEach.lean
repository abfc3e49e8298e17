/-
  Parts of this proof: The contracts of checkEach at its types.
-/
import Derived.Test.YtbgodajefaahdaaGreatDoorZPBase
set_option linter.unusedVariables false
open Go.Lib (hid)
namespace Go.Proofs.YtbgodajefaahdaaGreatDoor.Md
open Go.RowKit
open Go.Proofs.YtbgodajefaahdaaGreatDoor.Ex (Lo)
set_option maxHeartbeats 2000000
theorem Mono.below {α:Type} {R:Rec α} (hm:Mono R) {B:Nat} {w w2:World} {x:α} {c:Array Value} (hb:Below B w w2) (h:R (Lo B) w x c):R (Lo B) w2 x c:=hm hb.size (fun b g=>fun _=>⟨g,hb.block b g⟩) h
def Does {σ:Type} (Inv:σ->World->Prop) (r:Int×σ) (e:Ending) (w':World):Prop:=e=.returned (.int .i64 r.1)/\Inv r.2 w'
structure Fine {σ:Type} (w0:World) (Inv:σ->World->Prop):Prop where
 below:∀s W,Inv s W->Below w0.heap.size w0 W
 on:∀s W W2,Inv s W->Below W.heap.size W W2->Inv s W2
theorem zEN_3 {p:Prop} (h:p:=by
 by_cases hv:v=0
 · have HN:=hid (goE_next HX.out HG.out (by rw[HF.out];exact hv));rw[HF.out] at HN;subst hv;go_wp2_with fail;go_roundw
   case rel=>exact⟨k+1,s2,by omega,by go_num,hid ⟨HN.out,HI.out⟩⟩
   case measure=>simp[intOf];omega
 · have HN:=hid (goE_stop HX.out HG.out (by rw[HF.out];exact hv));rw[HF.out] at HN;have hz:(v != 0)=true:=bne_iff_ne.2 hv;go_wp2_with fail;go_ret;exact⟨by rw[HE.out,HN.out];rfl,by rw[HE.out,HN.out];exact HI.out⟩
 ):p:=h
theorem zEN_0 {p:Prop} (h:p:=by
 rintro e w2 ⟨rfl,hI⟩;have HI:=hid hI;have HG:=hid HS.out.1;obtain⟨r,hr⟩:∃r,f s x=r:=⟨_,rfl⟩
 have HF:=hid hr;rw[hr] at HI ⊢;obtain⟨v,s2⟩:=r;clear ld1 ld2 ld3 ld4 st1 st2 st3 hI hr;exact zEN_3
 ):p:=h
theorem zEN_1 {p:Prop} (h:p:=by
 obtain rfl:m=k:=by omega
 have HT:=hid (show goE f l s0=(0,s) by have h1:=HS.out.1;rwa [List.take_of_length_le (by rw[HL.out];exact Nat.le_refl _)] at h1);go_wp2_with fail;go_ret;exact⟨by rw[HE.out,HT.out];rfl,by rw[HE.out,HT.out];exact HS.out.2⟩
 ):p:=h
theorem zEN_2 {p:Prop} (h:p:=by
 go_wp2_with fail;go_ret;exact⟨by rw[HE.out];rfl,by rw[HE.out];exact h0.out⟩
 ):p:=h
theorem zEN_4 {p:Prop} (h:p:=by rw[hz,HC.out]):p:=h
theorem zEN_5 {p:Prop} (h:p:=by omega):p:=h
set_option maxRecDepth 100000 in
theorem each_Val {σ:Type} {w0:World} {l:List Val} {p:Option Addr} {m c:Nat} (hl:Hid (Rw 3 RVal (Lo w0.heap.size) w0 l p m)) (bnd cap:Array Value) (Inv:σ->World->Prop) (F:Hid (Fine w0 Inv)) (f:σ->Val->Int×σ) (most:Nat) (hmost:(most:Int)<=1000) (s0:σ)
 (hc:Hid (∀k s x c W,l[k]?=some x->l.length<=most->goE f (l.take k) s0=(0,s)->RVal (Lo w0.heap.size) W x c->Inv s W->Calls Tryz.prog 37 (bnd.push (.agg c)++cap) W (Does Inv (f s x))))
 (W:World) (h0:Hid (Inv s0 W)):Calls Tryz.prog 36 #[.slice p m c,.int .i64 (most:Int),.func (.func 37) bnd cap] W (Does Inv (eachE f most l s0)):=by
 obtain⟨hlm,hm⟩:=hl.out.len;have HL:=hid hlm;have HM:=hid hm;by_cases hlt:most<m
 · have HE:=hid (show eachE f most l s0=(6,s0) by unfold eachE;rw[if_pos zEN_5]);have t1:decide (most<m)=true:=decide_eq_true hlt;clear hlm hm;go_enter Tryz.func36,Tryz.ntmps36;exact zEN_2
 have t1:decide (most<m)=false:=decide_eq_false hlt;have t3:(m:Int)<=1000:=by omega
 have HE:=hid (show eachE f most l s0=goE f l s0 by unfold eachE;rw[if_neg zEN_5]);have HLM:=hid (show l.length<=most by omega);clear hlm hm;obtain⟨kk,hkk⟩:∃n:Nat,3=n:=⟨_,rfl⟩
 have hsz:∀w,(sizeOf 93).run Tryz.prog w=.ok kk w:=fun w=>by rw[Tryz.sizeOf93,hkk]
 have HKK:=hid hkk;clear hkk;go_enter Tryz.func36,Tryz.ntmps36;go_wp2_with fail;go_loopw [16] (fun i wr=>∃k:Nat,∃s,k<=m/\i=.int .i64 (k:Nat)/\Hid (goE f (l.take k) s0=(0,s)/\Inv s wr)) (fun i _=>m-(intOf i).toNat)
 case atStart=>exact⟨0,s0,Nat.zero_le _,rfl,hid ⟨rfl,h0.out⟩⟩
 case round=>
  obtain⟨k,s,hk,rfl,HS⟩:=hrel;have k0:(0:Int)<=(k:Int):=by omega
  rcases Nat.lt_or_ge k m with h|h
  · have k1:(k:Int)<(m:Int):=by omega
    have hkl:k<l.length:=by rw[HL.out];exact h
    have HX:=hid (List.getElem?_eq_getElem hkl);have hB:=F.out.below _ _ HS.out.2;obtain⟨b,o,rfl,hbG,hG,hcell⟩:=(hl.out.below RVal.map hB).rows zEN_5;obtain⟨c,hcs,hat,hR⟩:=hcell.out k hkl;have HC:=hid hcs;have HSZ:=hid hB.size;have HR:=hid hR;have hcsz:c.size=kk:=by rw[HC.out,HKK.out]
    have hat2:=hat.at HKK.out;have bt:Big 93 c.size:=by rw[HC.out];exact bVal
    have ld1:=hat2.ldN hcsz;have ld2:=hat2.ldV bt;have ld3:=hat2.ldA bt;have st1:=fun(z:Array Value) (hz:z.size=3)=>put_C bt (RVal.is hR).2 z zEN_4;have st2:=fun(z:Array Value) (hz:z.size=3)=>put_V bt (RVal.is hR).2 z zEN_4;have st3:=fun(z:Array Value) (hz:z.size=3)=>put_A bt (RVal.is hR).2 z zEN_4;have ld4:=fun W=>run_loadCellsFrom_new (P:=Tryz.prog) W 93 c kk hcsz;obtain⟨x,hx⟩:∃x,l[k]=x:=⟨_,rfl⟩
    rw[hx] at HX HR;clear hB hcell hcs hat hat2 bt hR hx hkl;go_wp2_with fail;refine(hc.out k s x c _ HX.out HLM.out HS.out.1 (RVal.map.below ((show Below wr.heap.size wr _ by exact bl).mono HSZ.out) HR.out) (F.out.on _ _ _ HS.out.2 bl)).mono ?_;exact zEN_0
  · exact zEN_1
set_option maxRecDepth 100000 in
theorem each_Ste {σ:Type} {w0:World} {l:List Ste} {p:Option Addr} {m c:Nat} (hl:Hid (Rw 13 RSte (Lo w0.heap.size) w0 l p m)) (bnd cap:Array Value) (Inv:σ->World->Prop) (F:Hid (Fine w0 Inv)) (f:σ->Ste->Int×σ) (most:Nat) (hmost:(most:Int)<=1000) (s0:σ)
 (hc:Hid (∀k s x c W,l[k]?=some x->l.length<=most->goE f (l.take k) s0=(0,s)->RSte (Lo w0.heap.size) W x c->Inv s W->Calls Tryz.prog 73 (bnd.push (.agg c)++cap) W (Does Inv (f s x))))
 (W:World) (h0:Hid (Inv s0 W)):Calls Tryz.prog 72 #[.slice p m c,.int .i64 (most:Int),.func (.func 73) bnd cap] W (Does Inv (eachE f most l s0)):=by
 obtain⟨hlm,hm⟩:=hl.out.len;have HL:=hid hlm;have HM:=hid hm;by_cases hlt:most<m
 · have HE:=hid (show eachE f most l s0=(6,s0) by unfold eachE;rw[if_pos zEN_5]);have t1:decide (most<m)=true:=decide_eq_true hlt;clear hlm hm;go_enter Tryz.func72,Tryz.ntmps72;exact zEN_2
 have t1:decide (most<m)=false:=decide_eq_false hlt;have t3:(m:Int)<=1000:=by omega
 have HE:=hid (show eachE f most l s0=goE f l s0 by unfold eachE;rw[if_neg zEN_5]);have HLM:=hid (show l.length<=most by omega);clear hlm hm;obtain⟨kk,hkk⟩:∃n:Nat,13=n:=⟨_,rfl⟩
 have hsz:∀w,(sizeOf 53).run Tryz.prog w=.ok kk w:=fun w=>by rw[Tryz.sizeOf53,hkk]
 have HKK:=hid hkk;clear hkk;go_enter Tryz.func72,Tryz.ntmps72;go_wp2_with fail;go_loopw [16] (fun i wr=>∃k:Nat,∃s,k<=m/\i=.int .i64 (k:Nat)/\Hid (goE f (l.take k) s0=(0,s)/\Inv s wr)) (fun i _=>m-(intOf i).toNat)
 case atStart=>exact⟨0,s0,Nat.zero_le _,rfl,hid ⟨rfl,h0.out⟩⟩
 case round=>
  obtain⟨k,s,hk,rfl,HS⟩:=hrel;have k0:(0:Int)<=(k:Int):=by omega
  rcases Nat.lt_or_ge k m with h|h
  · have k1:(k:Int)<(m:Int):=by omega
    have hkl:k<l.length:=by rw[HL.out];exact h
    have HX:=hid (List.getElem?_eq_getElem hkl);have hB:=F.out.below _ _ HS.out.2;obtain⟨b,o,rfl,hbG,hG,hcell⟩:=(hl.out.below RSte.map hB).rows zEN_5;obtain⟨c,hcs,hat,hR⟩:=hcell.out k hkl;have HC:=hid hcs;have HSZ:=hid hB.size;have HR:=hid hR;have hcsz:c.size=kk:=by rw[HC.out,HKK.out]
    have hat2:=hat.at HKK.out;have bt:Big 53 c.size:=by rw[HC.out];exact bSte
    have ld1:=hat2.ldN hcsz;have ld2:=hat2.ldV bt;have ld3:=hat2.ldA bt;have st1:=fun(z:Array Value) (hz:z.size=13)=>put_C bt (RSte.is hR).2 z zEN_4;have st2:=fun(z:Array Value) (hz:z.size=13)=>put_V bt (RSte.is hR).2 z zEN_4;have st3:=fun(z:Array Value) (hz:z.size=13)=>put_A bt (RSte.is hR).2 z zEN_4;have ld4:=fun W=>run_loadCellsFrom_new (P:=Tryz.prog) W 53 c kk hcsz;obtain⟨x,hx⟩:∃x,l[k]=x:=⟨_,rfl⟩
    rw[hx] at HX HR;clear hB hcell hcs hat hat2 bt hR hx hkl;go_wp2_with fail;refine(hc.out k s x c _ HX.out HLM.out HS.out.1 (RSte.map.below ((show Below wr.heap.size wr _ by exact bl).mono HSZ.out) HR.out) (F.out.on _ _ _ HS.out.2 bl)).mono ?_;exact zEN_0
  · exact zEN_1
set_option maxRecDepth 100000 in
theorem each_Lnk {σ:Type} {w0:World} {l:List Lnk} {p:Option Addr} {m c:Nat} (hl:Hid (Rw 3 RLnk (Lo w0.heap.size) w0 l p m)) (bnd cap:Array Value) (Inv:σ->World->Prop) (F:Hid (Fine w0 Inv)) (f:σ->Lnk->Int×σ) (most:Nat) (hmost:(most:Int)<=1000) (s0:σ)
 (hc:Hid (∀k s x c W,l[k]?=some x->l.length<=most->goE f (l.take k) s0=(0,s)->RLnk (Lo w0.heap.size) W x c->Inv s W->Calls Tryz.prog 76 (bnd.push (.agg c)++cap) W (Does Inv (f s x))))
 (W:World) (h0:Hid (Inv s0 W)):Calls Tryz.prog 75 #[.slice p m c,.int .i64 (most:Int),.func (.func 76) bnd cap] W (Does Inv (eachE f most l s0)):=by
 obtain⟨hlm,hm⟩:=hl.out.len;have HL:=hid hlm;have HM:=hid hm;by_cases hlt:most<m
 · have HE:=hid (show eachE f most l s0=(6,s0) by unfold eachE;rw[if_pos zEN_5]);have t1:decide (most<m)=true:=decide_eq_true hlt;clear hlm hm;go_enter Tryz.func75,Tryz.ntmps75;exact zEN_2
 have t1:decide (most<m)=false:=decide_eq_false hlt;have t3:(m:Int)<=1000:=by omega
 have HE:=hid (show eachE f most l s0=goE f l s0 by unfold eachE;rw[if_neg zEN_5]);have HLM:=hid (show l.length<=most by omega);clear hlm hm;obtain⟨kk,hkk⟩:∃n:Nat,3=n:=⟨_,rfl⟩
 have hsz:∀w,(sizeOf 73).run Tryz.prog w=.ok kk w:=fun w=>by rw[Tryz.sizeOf73,hkk]
 have HKK:=hid hkk;clear hkk;go_enter Tryz.func75,Tryz.ntmps75;go_wp2_with fail;go_loopw [16] (fun i wr=>∃k:Nat,∃s,k<=m/\i=.int .i64 (k:Nat)/\Hid (goE f (l.take k) s0=(0,s)/\Inv s wr)) (fun i _=>m-(intOf i).toNat)
 case atStart=>exact⟨0,s0,Nat.zero_le _,rfl,hid ⟨rfl,h0.out⟩⟩
 case round=>
  obtain⟨k,s,hk,rfl,HS⟩:=hrel;have k0:(0:Int)<=(k:Int):=by omega
  rcases Nat.lt_or_ge k m with h|h
  · have k1:(k:Int)<(m:Int):=by omega
    have hkl:k<l.length:=by rw[HL.out];exact h
    have HX:=hid (List.getElem?_eq_getElem hkl);have hB:=F.out.below _ _ HS.out.2;obtain⟨b,o,rfl,hbG,hG,hcell⟩:=(hl.out.below RLnk.map hB).rows zEN_5;obtain⟨c,hcs,hat,hR⟩:=hcell.out k hkl;have HC:=hid hcs;have HSZ:=hid hB.size;have HR:=hid hR;have hcsz:c.size=kk:=by rw[HC.out,HKK.out]
    have hat2:=hat.at HKK.out;have bt:Big 73 c.size:=by rw[HC.out];exact bLnk
    have ld1:=hat2.ldN hcsz;have ld2:=hat2.ldV bt;have ld3:=hat2.ldA bt;have st1:=fun(z:Array Value) (hz:z.size=3)=>put_C bt (RLnk.is hR).2 z zEN_4;have st2:=fun(z:Array Value) (hz:z.size=3)=>put_V bt (RLnk.is hR).2 z zEN_4;have st3:=fun(z:Array Value) (hz:z.size=3)=>put_A bt (RLnk.is hR).2 z zEN_4;have ld4:=fun W=>run_loadCellsFrom_new (P:=Tryz.prog) W 73 c kk hcsz;obtain⟨x,hx⟩:∃x,l[k]=x:=⟨_,rfl⟩
    rw[hx] at HX HR;clear hB hcell hcs hat hat2 bt hR hx hkl;go_wp2_with fail;refine(hc.out k s x c _ HX.out HLM.out HS.out.1 (RLnk.map.below ((show Below wr.heap.size wr _ by exact bl).mono HSZ.out) HR.out) (F.out.on _ _ _ HS.out.2 bl)).mono ?_;exact zEN_0
  · exact zEN_1
set_option maxRecDepth 100000 in
theorem each_Res {σ:Type} {w0:World} {l:List Res} {p:Option Addr} {m c:Nat} (hl:Hid (Rw 17 RRes (Lo w0.heap.size) w0 l p m)) (bnd cap:Array Value) (Inv:σ->World->Prop) (F:Hid (Fine w0 Inv)) (f:σ->Res->Int×σ) (most:Nat) (hmost:(most:Int)<=1000) (s0:σ)
 (hc:Hid (∀k s x c W,l[k]?=some x->l.length<=most->goE f (l.take k) s0=(0,s)->RRes (Lo w0.heap.size) W x c->Inv s W->Calls Tryz.prog 110 (bnd.push (.agg c)++cap) W (Does Inv (f s x))))
 (W:World) (h0:Hid (Inv s0 W)):Calls Tryz.prog 109 #[.slice p m c,.int .i64 (most:Int),.func (.func 110) bnd cap] W (Does Inv (eachE f most l s0)):=by
 obtain⟨hlm,hm⟩:=hl.out.len;have HL:=hid hlm;have HM:=hid hm;by_cases hlt:most<m
 · have HE:=hid (show eachE f most l s0=(6,s0) by unfold eachE;rw[if_pos zEN_5]);have t1:decide (most<m)=true:=decide_eq_true hlt;clear hlm hm;go_enter Tryz.func109,Tryz.ntmps109;exact zEN_2
 have t1:decide (most<m)=false:=decide_eq_false hlt;have t3:(m:Int)<=1000:=by omega
 have HE:=hid (show eachE f most l s0=goE f l s0 by unfold eachE;rw[if_neg zEN_5]);have HLM:=hid (show l.length<=most by omega);clear hlm hm;obtain⟨kk,hkk⟩:∃n:Nat,17=n:=⟨_,rfl⟩
 have hsz:∀w,(sizeOf 111).run Tryz.prog w=.ok kk w:=fun w=>by rw[Tryz.sizeOf111,hkk]
 have HKK:=hid hkk;clear hkk;go_enter Tryz.func109,Tryz.ntmps109;go_wp2_with fail;go_loopw [16] (fun i wr=>∃k:Nat,∃s,k<=m/\i=.int .i64 (k:Nat)/\Hid (goE f (l.take k) s0=(0,s)/\Inv s wr)) (fun i _=>m-(intOf i).toNat)
 case atStart=>exact⟨0,s0,Nat.zero_le _,rfl,hid ⟨rfl,h0.out⟩⟩
 case round=>
  obtain⟨k,s,hk,rfl,HS⟩:=hrel;have k0:(0:Int)<=(k:Int):=by omega
  rcases Nat.lt_or_ge k m with h|h
  · have k1:(k:Int)<(m:Int):=by omega
    have hkl:k<l.length:=by rw[HL.out];exact h
    have HX:=hid (List.getElem?_eq_getElem hkl);have hB:=F.out.below _ _ HS.out.2;obtain⟨b,o,rfl,hbG,hG,hcell⟩:=(hl.out.below RRes.map hB).rows zEN_5;obtain⟨c,hcs,hat,hR⟩:=hcell.out k hkl;have HC:=hid hcs;have HSZ:=hid hB.size;have HR:=hid hR;have hcsz:c.size=kk:=by rw[HC.out,HKK.out]
    have hat2:=hat.at HKK.out;have bt:Big 111 c.size:=by rw[HC.out];exact bRes
    have ld1:=hat2.ldN hcsz;have ld2:=hat2.ldV bt;have ld3:=hat2.ldA bt;have st1:=fun(z:Array Value) (hz:z.size=17)=>put_C bt (RRes.is hR).2 z zEN_4;have st2:=fun(z:Array Value) (hz:z.size=17)=>put_V bt (RRes.is hR).2 z zEN_4;have st3:=fun(z:Array Value) (hz:z.size=17)=>put_A bt (RRes.is hR).2 z zEN_4;have ld4:=fun W=>run_loadCellsFrom_new (P:=Tryz.prog) W 111 c kk hcsz;obtain⟨x,hx⟩:∃x,l[k]=x:=⟨_,rfl⟩
    rw[hx] at HX HR;clear hB hcell hcs hat hat2 bt hR hx hkl;go_wp2_with fail;refine(hc.out k s x c _ HX.out HLM.out HS.out.1 (RRes.map.below ((show Below wr.heap.size wr _ by exact bl).mono HSZ.out) HR.out) (F.out.on _ _ _ HS.out.2 bl)).mono ?_;exact zEN_0
  · exact zEN_1
set_option maxRecDepth 100000 in
theorem each_Sto {σ:Type} {w0:World} {l:List Sto} {p:Option Addr} {m c:Nat} (hl:Hid (Rw 3 RSto (Lo w0.heap.size) w0 l p m)) (bnd cap:Array Value) (Inv:σ->World->Prop) (F:Hid (Fine w0 Inv)) (f:σ->Sto->Int×σ) (most:Nat) (hmost:(most:Int)<=1000) (s0:σ)
 (hc:Hid (∀k s x c W,l[k]?=some x->l.length<=most->goE f (l.take k) s0=(0,s)->RSto (Lo w0.heap.size) W x c->Inv s W->Calls Tryz.prog 113 (bnd.push (.agg c)++cap) W (Does Inv (f s x))))
 (W:World) (h0:Hid (Inv s0 W)):Calls Tryz.prog 112 #[.slice p m c,.int .i64 (most:Int),.func (.func 113) bnd cap] W (Does Inv (eachE f most l s0)):=by
 obtain⟨hlm,hm⟩:=hl.out.len;have HL:=hid hlm;have HM:=hid hm;by_cases hlt:most<m
 · have HE:=hid (show eachE f most l s0=(6,s0) by unfold eachE;rw[if_pos zEN_5]);have t1:decide (most<m)=true:=decide_eq_true hlt;clear hlm hm;go_enter Tryz.func112,Tryz.ntmps112;exact zEN_2
 have t1:decide (most<m)=false:=decide_eq_false hlt;have t3:(m:Int)<=1000:=by omega
 have HE:=hid (show eachE f most l s0=goE f l s0 by unfold eachE;rw[if_neg zEN_5]);have HLM:=hid (show l.length<=most by omega);clear hlm hm;obtain⟨kk,hkk⟩:∃n:Nat,3=n:=⟨_,rfl⟩
 have hsz:∀w,(sizeOf 114).run Tryz.prog w=.ok kk w:=fun w=>by rw[Tryz.sizeOf114,hkk]
 have HKK:=hid hkk;clear hkk;go_enter Tryz.func112,Tryz.ntmps112;go_wp2_with fail;go_loopw [16] (fun i wr=>∃k:Nat,∃s,k<=m/\i=.int .i64 (k:Nat)/\Hid (goE f (l.take k) s0=(0,s)/\Inv s wr)) (fun i _=>m-(intOf i).toNat)
 case atStart=>exact⟨0,s0,Nat.zero_le _,rfl,hid ⟨rfl,h0.out⟩⟩
 case round=>
  obtain⟨k,s,hk,rfl,HS⟩:=hrel;have k0:(0:Int)<=(k:Int):=by omega
  rcases Nat.lt_or_ge k m with h|h
  · have k1:(k:Int)<(m:Int):=by omega
    have hkl:k<l.length:=by rw[HL.out];exact h
    have HX:=hid (List.getElem?_eq_getElem hkl);have hB:=F.out.below _ _ HS.out.2;obtain⟨b,o,rfl,hbG,hG,hcell⟩:=(hl.out.below RSto.map hB).rows zEN_5;obtain⟨c,hcs,hat,hR⟩:=hcell.out k hkl;have HC:=hid hcs;have HSZ:=hid hB.size;have HR:=hid hR;have hcsz:c.size=kk:=by rw[HC.out,HKK.out]
    have hat2:=hat.at HKK.out;have bt:Big 114 c.size:=by rw[HC.out];exact bSto
    have ld1:=hat2.ldN hcsz;have ld2:=hat2.ldV bt;have ld3:=hat2.ldA bt;have st1:=fun(z:Array Value) (hz:z.size=3)=>put_C bt (RSto.is hR).2 z zEN_4;have st2:=fun(z:Array Value) (hz:z.size=3)=>put_V bt (RSto.is hR).2 z zEN_4;have st3:=fun(z:Array Value) (hz:z.size=3)=>put_A bt (RSto.is hR).2 z zEN_4;have ld4:=fun W=>run_loadCellsFrom_new (P:=Tryz.prog) W 114 c kk hcsz;obtain⟨x,hx⟩:∃x,l[k]=x:=⟨_,rfl⟩
    rw[hx] at HX HR;clear hB hcell hcs hat hat2 bt hR hx hkl;go_wp2_with fail;refine(hc.out k s x c _ HX.out HLM.out HS.out.1 (RSto.map.below ((show Below wr.heap.size wr _ by exact bl).mono HSZ.out) HR.out) (F.out.on _ _ _ HS.out.2 bl)).mono ?_;exact zEN_0
  · exact zEN_1
set_option maxRecDepth 100000 in
theorem each_Blt {σ:Type} {w0:World} {l:List Blt} {p:Option Addr} {m c:Nat} (hl:Hid (Rw 3 RBlt (Lo w0.heap.size) w0 l p m)) (bnd cap:Array Value) (Inv:σ->World->Prop) (F:Hid (Fine w0 Inv)) (f:σ->Blt->Int×σ) (most:Nat) (hmost:(most:Int)<=1000) (s0:σ)
 (hc:Hid (∀k s x c W,l[k]?=some x->l.length<=most->goE f (l.take k) s0=(0,s)->RBlt (Lo w0.heap.size) W x c->Inv s W->Calls Tryz.prog 116 (bnd.push (.agg c)++cap) W (Does Inv (f s x))))
 (W:World) (h0:Hid (Inv s0 W)):Calls Tryz.prog 115 #[.slice p m c,.int .i64 (most:Int),.func (.func 116) bnd cap] W (Does Inv (eachE f most l s0)):=by
 obtain⟨hlm,hm⟩:=hl.out.len;have HL:=hid hlm;have HM:=hid hm;by_cases hlt:most<m
 · have HE:=hid (show eachE f most l s0=(6,s0) by unfold eachE;rw[if_pos zEN_5]);have t1:decide (most<m)=true:=decide_eq_true hlt;clear hlm hm;go_enter Tryz.func115,Tryz.ntmps115;exact zEN_2
 have t1:decide (most<m)=false:=decide_eq_false hlt;have t3:(m:Int)<=1000:=by omega
 have HE:=hid (show eachE f most l s0=goE f l s0 by unfold eachE;rw[if_neg zEN_5]);have HLM:=hid (show l.length<=most by omega);clear hlm hm;obtain⟨kk,hkk⟩:∃n:Nat,3=n:=⟨_,rfl⟩
 have hsz:∀w,(sizeOf 116).run Tryz.prog w=.ok kk w:=fun w=>by rw[Tryz.sizeOf116,hkk]
 have HKK:=hid hkk;clear hkk;go_enter Tryz.func115,Tryz.ntmps115;go_wp2_with fail;go_loopw [16] (fun i wr=>∃k:Nat,∃s,k<=m/\i=.int .i64 (k:Nat)/\Hid (goE f (l.take k) s0=(0,s)/\Inv s wr)) (fun i _=>m-(intOf i).toNat)
 case atStart=>exact⟨0,s0,Nat.zero_le _,rfl,hid ⟨rfl,h0.out⟩⟩
 case round=>
  obtain⟨k,s,hk,rfl,HS⟩:=hrel;have k0:(0:Int)<=(k:Int):=by omega
  rcases Nat.lt_or_ge k m with h|h
  · have k1:(k:Int)<(m:Int):=by omega
    have hkl:k<l.length:=by rw[HL.out];exact h
    have HX:=hid (List.getElem?_eq_getElem hkl);have hB:=F.out.below _ _ HS.out.2;obtain⟨b,o,rfl,hbG,hG,hcell⟩:=(hl.out.below RBlt.map hB).rows zEN_5;obtain⟨c,hcs,hat,hR⟩:=hcell.out k hkl;have HC:=hid hcs;have HSZ:=hid hB.size;have HR:=hid hR;have hcsz:c.size=kk:=by rw[HC.out,HKK.out]
    have hat2:=hat.at HKK.out;have bt:Big 116 c.size:=by rw[HC.out];exact bBlt
    have ld1:=hat2.ldN hcsz;have ld2:=hat2.ldV bt;have ld3:=hat2.ldA bt;have st1:=fun(z:Array Value) (hz:z.size=3)=>put_C bt (RBlt.is hR).2 z zEN_4;have st2:=fun(z:Array Value) (hz:z.size=3)=>put_V bt (RBlt.is hR).2 z zEN_4;have st3:=fun(z:Array Value) (hz:z.size=3)=>put_A bt (RBlt.is hR).2 z zEN_4;have ld4:=fun W=>run_loadCellsFrom_new (P:=Tryz.prog) W 116 c kk hcsz;obtain⟨x,hx⟩:∃x,l[k]=x:=⟨_,rfl⟩
    rw[hx] at HX HR;clear hB hcell hcs hat hat2 bt hR hx hkl;go_wp2_with fail;refine(hc.out k s x c _ HX.out HLM.out HS.out.1 (RBlt.map.below ((show Below wr.heap.size wr _ by exact bl).mono HSZ.out) HR.out) (F.out.on _ _ _ HS.out.2 bl)).mono ?_;exact zEN_0
  · exact zEN_1
set_option maxRecDepth 100000 in
theorem each_Rou {σ:Type} {w0:World} {l:List Rou} {p:Option Addr} {m c:Nat} (hl:Hid (Rw 4 RRou (Lo w0.heap.size) w0 l p m)) (bnd cap:Array Value) (Inv:σ->World->Prop) (F:Hid (Fine w0 Inv)) (f:σ->Rou->Int×σ) (most:Nat) (hmost:(most:Int)<=1000) (s0:σ)
 (hc:Hid (∀k s x c W,l[k]?=some x->l.length<=most->goE f (l.take k) s0=(0,s)->RRou (Lo w0.heap.size) W x c->Inv s W->Calls Tryz.prog 120 (bnd.push (.agg c)++cap) W (Does Inv (f s x))))
 (W:World) (h0:Hid (Inv s0 W)):Calls Tryz.prog 119 #[.slice p m c,.int .i64 (most:Int),.func (.func 120) bnd cap] W (Does Inv (eachE f most l s0)):=by
 obtain⟨hlm,hm⟩:=hl.out.len;have HL:=hid hlm;have HM:=hid hm;by_cases hlt:most<m
 · have HE:=hid (show eachE f most l s0=(6,s0) by unfold eachE;rw[if_pos zEN_5]);have t1:decide (most<m)=true:=decide_eq_true hlt;clear hlm hm;go_enter Tryz.func119,Tryz.ntmps119;exact zEN_2
 have t1:decide (most<m)=false:=decide_eq_false hlt;have t3:(m:Int)<=1000:=by omega
 have HE:=hid (show eachE f most l s0=goE f l s0 by unfold eachE;rw[if_neg zEN_5]);have HLM:=hid (show l.length<=most by omega);clear hlm hm;obtain⟨kk,hkk⟩:∃n:Nat,4=n:=⟨_,rfl⟩
 have hsz:∀w,(sizeOf 119).run Tryz.prog w=.ok kk w:=fun w=>by rw[Tryz.sizeOf119,hkk]
 have HKK:=hid hkk;clear hkk;go_enter Tryz.func119,Tryz.ntmps119;go_wp2_with fail;go_loopw [16] (fun i wr=>∃k:Nat,∃s,k<=m/\i=.int .i64 (k:Nat)/\Hid (goE f (l.take k) s0=(0,s)/\Inv s wr)) (fun i _=>m-(intOf i).toNat)
 case atStart=>exact⟨0,s0,Nat.zero_le _,rfl,hid ⟨rfl,h0.out⟩⟩
 case round=>
  obtain⟨k,s,hk,rfl,HS⟩:=hrel;have k0:(0:Int)<=(k:Int):=by omega
  rcases Nat.lt_or_ge k m with h|h
  · have k1:(k:Int)<(m:Int):=by omega
    have hkl:k<l.length:=by rw[HL.out];exact h
    have HX:=hid (List.getElem?_eq_getElem hkl);have hB:=F.out.below _ _ HS.out.2;obtain⟨b,o,rfl,hbG,hG,hcell⟩:=(hl.out.below RRou.map hB).rows zEN_5;obtain⟨c,hcs,hat,hR⟩:=hcell.out k hkl;have HC:=hid hcs;have HSZ:=hid hB.size;have HR:=hid hR;have hcsz:c.size=kk:=by rw[HC.out,HKK.out]
    have hat2:=hat.at HKK.out;have bt:Big 119 c.size:=by rw[HC.out];exact bRou
    have ld1:=hat2.ldN hcsz;have ld2:=hat2.ldV bt;have ld3:=hat2.ldA bt;have st1:=fun(z:Array Value) (hz:z.size=4)=>put_C bt (RRou.is hR).2 z zEN_4;have st2:=fun(z:Array Value) (hz:z.size=4)=>put_V bt (RRou.is hR).2 z zEN_4;have st3:=fun(z:Array Value) (hz:z.size=4)=>put_A bt (RRou.is hR).2 z zEN_4;have ld4:=fun W=>run_loadCellsFrom_new (P:=Tryz.prog) W 119 c kk hcsz;obtain⟨x,hx⟩:∃x,l[k]=x:=⟨_,rfl⟩
    rw[hx] at HX HR;clear hB hcell hcs hat hat2 bt hR hx hkl;go_wp2_with fail;refine(hc.out k s x c _ HX.out HLM.out HS.out.1 (RRou.map.below ((show Below wr.heap.size wr _ by exact bl).mono HSZ.out) HR.out) (F.out.on _ _ _ HS.out.2 bl)).mono ?_;exact zEN_0
  · exact zEN_1
set_option maxRecDepth 100000 in
theorem each_Sta {σ:Type} {w0:World} {l:List Sta} {p:Option Addr} {m c:Nat} (hl:Hid (Rw 5 RSta (Lo w0.heap.size) w0 l p m)) (bnd cap:Array Value) (Inv:σ->World->Prop) (F:Hid (Fine w0 Inv)) (f:σ->Sta->Int×σ) (most:Nat) (hmost:(most:Int)<=1000) (s0:σ)
 (hc:Hid (∀k s x c W,l[k]?=some x->l.length<=most->goE f (l.take k) s0=(0,s)->RSta (Lo w0.heap.size) W x c->Inv s W->Calls Tryz.prog 123 (bnd.push (.agg c)++cap) W (Does Inv (f s x))))
 (W:World) (h0:Hid (Inv s0 W)):Calls Tryz.prog 122 #[.slice p m c,.int .i64 (most:Int),.func (.func 123) bnd cap] W (Does Inv (eachE f most l s0)):=by
 obtain⟨hlm,hm⟩:=hl.out.len;have HL:=hid hlm;have HM:=hid hm;by_cases hlt:most<m
 · have HE:=hid (show eachE f most l s0=(6,s0) by unfold eachE;rw[if_pos zEN_5]);have t1:decide (most<m)=true:=decide_eq_true hlt;clear hlm hm;go_enter Tryz.func122,Tryz.ntmps122;exact zEN_2
 have t1:decide (most<m)=false:=decide_eq_false hlt;have t3:(m:Int)<=1000:=by omega
 have HE:=hid (show eachE f most l s0=goE f l s0 by unfold eachE;rw[if_neg zEN_5]);have HLM:=hid (show l.length<=most by omega);clear hlm hm;obtain⟨kk,hkk⟩:∃n:Nat,5=n:=⟨_,rfl⟩
 have hsz:∀w,(sizeOf 122).run Tryz.prog w=.ok kk w:=fun w=>by rw[Tryz.sizeOf122,hkk]
 have HKK:=hid hkk;clear hkk;go_enter Tryz.func122,Tryz.ntmps122;go_wp2_with fail;go_loopw [16] (fun i wr=>∃k:Nat,∃s,k<=m/\i=.int .i64 (k:Nat)/\Hid (goE f (l.take k) s0=(0,s)/\Inv s wr)) (fun i _=>m-(intOf i).toNat)
 case atStart=>exact⟨0,s0,Nat.zero_le _,rfl,hid ⟨rfl,h0.out⟩⟩
 case round=>
  obtain⟨k,s,hk,rfl,HS⟩:=hrel;have k0:(0:Int)<=(k:Int):=by omega
  rcases Nat.lt_or_ge k m with h|h
  · have k1:(k:Int)<(m:Int):=by omega
    have hkl:k<l.length:=by rw[HL.out];exact h
    have HX:=hid (List.getElem?_eq_getElem hkl);have hB:=F.out.below _ _ HS.out.2;obtain⟨b,o,rfl,hbG,hG,hcell⟩:=(hl.out.below RSta.map hB).rows zEN_5;obtain⟨c,hcs,hat,hR⟩:=hcell.out k hkl;have HC:=hid hcs;have HSZ:=hid hB.size;have HR:=hid hR;have hcsz:c.size=kk:=by rw[HC.out,HKK.out]
    have hat2:=hat.at HKK.out;have bt:Big 122 c.size:=by rw[HC.out];exact bSta
    have ld1:=hat2.ldN hcsz;have ld2:=hat2.ldV bt;have ld3:=hat2.ldA bt;have st1:=fun(z:Array Value) (hz:z.size=5)=>put_C bt (RSta.is hR).2 z zEN_4;have st2:=fun(z:Array Value) (hz:z.size=5)=>put_V bt (RSta.is hR).2 z zEN_4;have st3:=fun(z:Array Value) (hz:z.size=5)=>put_A bt (RSta.is hR).2 z zEN_4;have ld4:=fun W=>run_loadCellsFrom_new (P:=Tryz.prog) W 122 c kk hcsz;obtain⟨x,hx⟩:∃x,l[k]=x:=⟨_,rfl⟩
    rw[hx] at HX HR;clear hB hcell hcs hat hat2 bt hR hx hkl;go_wp2_with fail;refine(hc.out k s x c _ HX.out HLM.out HS.out.1 (RSta.map.below ((show Below wr.heap.size wr _ by exact bl).mono HSZ.out) HR.out) (F.out.on _ _ _ HS.out.2 bl)).mono ?_;exact zEN_0
  · exact zEN_1
set_option maxRecDepth 100000 in
theorem each_Lw {σ:Type} {w0:World} {l:List Lw} {p:Option Addr} {m c:Nat} (hl:Hid (Rw 3 RLw (Lo w0.heap.size) w0 l p m)) (bnd cap:Array Value) (Inv:σ->World->Prop) (F:Hid (Fine w0 Inv)) (f:σ->Lw->Int×σ) (most:Nat) (hmost:(most:Int)<=1000) (s0:σ)
 (hc:Hid (∀k s x c W,l[k]?=some x->l.length<=most->goE f (l.take k) s0=(0,s)->RLw (Lo w0.heap.size) W x c->Inv s W->Calls Tryz.prog 166 (bnd.push (.agg c)++cap) W (Does Inv (f s x))))
 (W:World) (h0:Hid (Inv s0 W)):Calls Tryz.prog 165 #[.slice p m c,.int .i64 (most:Int),.func (.func 166) bnd cap] W (Does Inv (eachE f most l s0)):=by
 obtain⟨hlm,hm⟩:=hl.out.len;have HL:=hid hlm;have HM:=hid hm;by_cases hlt:most<m
 · have HE:=hid (show eachE f most l s0=(6,s0) by unfold eachE;rw[if_pos zEN_5]);have t1:decide (most<m)=true:=decide_eq_true hlt;clear hlm hm;go_enter Tryz.func165,Tryz.ntmps165;exact zEN_2
 have t1:decide (most<m)=false:=decide_eq_false hlt;have t3:(m:Int)<=1000:=by omega
 have HE:=hid (show eachE f most l s0=goE f l s0 by unfold eachE;rw[if_neg zEN_5]);have HLM:=hid (show l.length<=most by omega);clear hlm hm;obtain⟨kk,hkk⟩:∃n:Nat,3=n:=⟨_,rfl⟩
 have hsz:∀w,(sizeOf 127).run Tryz.prog w=.ok kk w:=fun w=>by rw[Tryz.sizeOf127,hkk]
 have HKK:=hid hkk;clear hkk;go_enter Tryz.func165,Tryz.ntmps165;go_wp2_with fail;go_loopw [16] (fun i wr=>∃k:Nat,∃s,k<=m/\i=.int .i64 (k:Nat)/\Hid (goE f (l.take k) s0=(0,s)/\Inv s wr)) (fun i _=>m-(intOf i).toNat)
 case atStart=>exact⟨0,s0,Nat.zero_le _,rfl,hid ⟨rfl,h0.out⟩⟩
 case round=>
  obtain⟨k,s,hk,rfl,HS⟩:=hrel;have k0:(0:Int)<=(k:Int):=by omega
  rcases Nat.lt_or_ge k m with h|h
  · have k1:(k:Int)<(m:Int):=by omega
    have hkl:k<l.length:=by rw[HL.out];exact h
    have HX:=hid (List.getElem?_eq_getElem hkl);have hB:=F.out.below _ _ HS.out.2;obtain⟨b,o,rfl,hbG,hG,hcell⟩:=(hl.out.below RLw.map hB).rows zEN_5;obtain⟨c,hcs,hat,hR⟩:=hcell.out k hkl;have HC:=hid hcs;have HSZ:=hid hB.size;have HR:=hid hR;have hcsz:c.size=kk:=by rw[HC.out,HKK.out]
    have hat2:=hat.at HKK.out;have bt:Big 127 c.size:=by rw[HC.out];exact bLw
    have ld1:=hat2.ldN hcsz;have ld2:=hat2.ldV bt;have ld3:=hat2.ldA bt;have st1:=fun(z:Array Value) (hz:z.size=3)=>put_C bt (RLw.is hR).2 z zEN_4;have st2:=fun(z:Array Value) (hz:z.size=3)=>put_V bt (RLw.is hR).2 z zEN_4;have st3:=fun(z:Array Value) (hz:z.size=3)=>put_A bt (RLw.is hR).2 z zEN_4;have ld4:=fun W=>run_loadCellsFrom_new (P:=Tryz.prog) W 127 c kk hcsz;obtain⟨x,hx⟩:∃x,l[k]=x:=⟨_,rfl⟩
    rw[hx] at HX HR;clear hB hcell hcs hat hat2 bt hR hx hkl;go_wp2_with fail;refine(hc.out k s x c _ HX.out HLM.out HS.out.1 (RLw.map.below ((show Below wr.heap.size wr _ by exact bl).mono HSZ.out) HR.out) (F.out.on _ _ _ HS.out.2 bl)).mono ?_;exact zEN_0
  · exact zEN_1
set_option maxRecDepth 100000 in
theorem each_Trm {σ:Type} {w0:World} {l:List Trm} {p:Option Addr} {m c:Nat} (hl:Hid (Rw 3 RTrm (Lo w0.heap.size) w0 l p m)) (bnd cap:Array Value) (Inv:σ->World->Prop) (F:Hid (Fine w0 Inv)) (f:σ->Trm->Int×σ) (most:Nat) (hmost:(most:Int)<=1000) (s0:σ)
 (hc:Hid (∀k s x c W,l[k]?=some x->l.length<=most->goE f (l.take k) s0=(0,s)->RTrm (Lo w0.heap.size) W x c->Inv s W->Calls Tryz.prog 194 (bnd.push (.agg c)++cap) W (Does Inv (f s x))))
 (W:World) (h0:Hid (Inv s0 W)):Calls Tryz.prog 193 #[.slice p m c,.int .i64 (most:Int),.func (.func 194) bnd cap] W (Does Inv (eachE f most l s0)):=by
 obtain⟨hlm,hm⟩:=hl.out.len;have HL:=hid hlm;have HM:=hid hm;by_cases hlt:most<m
 · have HE:=hid (show eachE f most l s0=(6,s0) by unfold eachE;rw[if_pos zEN_5]);have t1:decide (most<m)=true:=decide_eq_true hlt;clear hlm hm;go_enter Tryz.func193,Tryz.ntmps193;exact zEN_2
 have t1:decide (most<m)=false:=decide_eq_false hlt;have t3:(m:Int)<=1000:=by omega
 have HE:=hid (show eachE f most l s0=goE f l s0 by unfold eachE;rw[if_neg zEN_5]);have HLM:=hid (show l.length<=most by omega);clear hlm hm;obtain⟨kk,hkk⟩:∃n:Nat,3=n:=⟨_,rfl⟩
 have hsz:∀w,(sizeOf 181).run Tryz.prog w=.ok kk w:=fun w=>by rw[Tryz.sizeOf181,hkk]
 have HKK:=hid hkk;clear hkk;go_enter Tryz.func193,Tryz.ntmps193;go_wp2_with fail;go_loopw [16] (fun i wr=>∃k:Nat,∃s,k<=m/\i=.int .i64 (k:Nat)/\Hid (goE f (l.take k) s0=(0,s)/\Inv s wr)) (fun i _=>m-(intOf i).toNat)
 case atStart=>exact⟨0,s0,Nat.zero_le _,rfl,hid ⟨rfl,h0.out⟩⟩
 case round=>
  obtain⟨k,s,hk,rfl,HS⟩:=hrel;have k0:(0:Int)<=(k:Int):=by omega
  rcases Nat.lt_or_ge k m with h|h
  · have k1:(k:Int)<(m:Int):=by omega
    have hkl:k<l.length:=by rw[HL.out];exact h
    have HX:=hid (List.getElem?_eq_getElem hkl);have hB:=F.out.below _ _ HS.out.2;obtain⟨b,o,rfl,hbG,hG,hcell⟩:=(hl.out.below RTrm.map hB).rows zEN_5;obtain⟨c,hcs,hat,hR⟩:=hcell.out k hkl;have HC:=hid hcs;have HSZ:=hid hB.size;have HR:=hid hR;have hcsz:c.size=kk:=by rw[HC.out,HKK.out]
    have hat2:=hat.at HKK.out;have bt:Big 181 c.size:=by rw[HC.out];exact bTrm
    have ld1:=hat2.ldN hcsz;have ld2:=hat2.ldV bt;have ld3:=hat2.ldA bt;have st1:=fun(z:Array Value) (hz:z.size=3)=>put_C bt (RTrm.is hR).2 z zEN_4;have st2:=fun(z:Array Value) (hz:z.size=3)=>put_V bt (RTrm.is hR).2 z zEN_4;have st3:=fun(z:Array Value) (hz:z.size=3)=>put_A bt (RTrm.is hR).2 z zEN_4;have ld4:=fun W=>run_loadCellsFrom_new (P:=Tryz.prog) W 181 c kk hcsz;obtain⟨x,hx⟩:∃x,l[k]=x:=⟨_,rfl⟩
    rw[hx] at HX HR;clear hB hcell hcs hat hat2 bt hR hx hkl;go_wp2_with fail;refine(hc.out k s x c _ HX.out HLM.out HS.out.1 (RTrm.map.below ((show Below wr.heap.size wr _ by exact bl).mono HSZ.out) HR.out) (F.out.on _ _ _ HS.out.2 bl)).mono ?_;exact zEN_0
  · exact zEN_1
set_option maxRecDepth 100000 in
theorem each_Fld {σ:Type} {w0:World} {l:List Fld} {p:Option Addr} {m c:Nat} (hl:Hid (Rw 2 RFld (Lo w0.heap.size) w0 l p m)) (bnd cap:Array Value) (Inv:σ->World->Prop) (F:Hid (Fine w0 Inv)) (f:σ->Fld->Int×σ) (most:Nat) (hmost:(most:Int)<=1000) (s0:σ)
 (hc:Hid (∀k s x c W,l[k]?=some x->l.length<=most->goE f (l.take k) s0=(0,s)->RFld (Lo w0.heap.size) W x c->Inv s W->Calls Tryz.prog 163 (bnd.push (.agg c)++cap) W (Does Inv (f s x))))
 (W:World) (h0:Hid (Inv s0 W)):Calls Tryz.prog 162 #[.slice p m c,.int .i64 (most:Int),.func (.func 163) bnd cap] W (Does Inv (eachE f most l s0)):=by
 obtain⟨hlm,hm⟩:=hl.out.len;have HL:=hid hlm;have HM:=hid hm;by_cases hlt:most<m
 · have HE:=hid (show eachE f most l s0=(6,s0) by unfold eachE;rw[if_pos zEN_5]);have t1:decide (most<m)=true:=decide_eq_true hlt;clear hlm hm;go_enter Tryz.func162,Tryz.ntmps162;exact zEN_2
 have t1:decide (most<m)=false:=decide_eq_false hlt;have t3:(m:Int)<=1000:=by omega
 have HE:=hid (show eachE f most l s0=goE f l s0 by unfold eachE;rw[if_neg zEN_5]);have HLM:=hid (show l.length<=most by omega);clear hlm hm;obtain⟨kk,hkk⟩:∃n:Nat,2=n:=⟨_,rfl⟩
 have hsz:∀w,(sizeOf 179).run Tryz.prog w=.ok kk w:=fun w=>by rw[Tryz.sizeOf179,hkk]
 have HKK:=hid hkk;clear hkk;go_enter Tryz.func162,Tryz.ntmps162;go_wp2_with fail;go_loopw [16] (fun i wr=>∃k:Nat,∃s,k<=m/\i=.int .i64 (k:Nat)/\Hid (goE f (l.take k) s0=(0,s)/\Inv s wr)) (fun i _=>m-(intOf i).toNat)
 case atStart=>exact⟨0,s0,Nat.zero_le _,rfl,hid ⟨rfl,h0.out⟩⟩
 case round=>
  obtain⟨k,s,hk,rfl,HS⟩:=hrel;have k0:(0:Int)<=(k:Int):=by omega
  rcases Nat.lt_or_ge k m with h|h
  · have k1:(k:Int)<(m:Int):=by omega
    have hkl:k<l.length:=by rw[HL.out];exact h
    have HX:=hid (List.getElem?_eq_getElem hkl);have hB:=F.out.below _ _ HS.out.2;obtain⟨b,o,rfl,hbG,hG,hcell⟩:=(hl.out.below RFld.map hB).rows zEN_5;obtain⟨c,hcs,hat,hR⟩:=hcell.out k hkl;have HC:=hid hcs;have HSZ:=hid hB.size;have HR:=hid hR;have hcsz:c.size=kk:=by rw[HC.out,HKK.out]
    have hat2:=hat.at HKK.out;have bt:Big 179 c.size:=by rw[HC.out];exact bFld
    have ld1:=hat2.ldN hcsz;have ld2:=hat2.ldV bt;have ld3:=hat2.ldA bt;have st1:=fun(z:Array Value) (hz:z.size=2)=>put_C bt (RFld.is hR).2 z zEN_4;have st2:=fun(z:Array Value) (hz:z.size=2)=>put_V bt (RFld.is hR).2 z zEN_4;have st3:=fun(z:Array Value) (hz:z.size=2)=>put_A bt (RFld.is hR).2 z zEN_4;have ld4:=fun W=>run_loadCellsFrom_new (P:=Tryz.prog) W 179 c kk hcsz;obtain⟨x,hx⟩:∃x,l[k]=x:=⟨_,rfl⟩
    rw[hx] at HX HR;clear hB hcell hcs hat hat2 bt hR hx hkl;go_wp2_with fail;refine(hc.out k s x c _ HX.out HLM.out HS.out.1 (RFld.map.below ((show Below wr.heap.size wr _ by exact bl).mono HSZ.out) HR.out) (F.out.on _ _ _ HS.out.2 bl)).mono ?_;exact zEN_0
  · exact zEN_1
set_option maxRecDepth 100000 in
theorem each_Txt {σ:Type} {w0:World} {l:List ByteArray} {p:Option Addr} {m c:Nat} (hl:Hid (Rw 1 RTxt (Lo w0.heap.size) w0 l p m)) (bnd cap:Array Value) (Inv:σ->World->Prop) (F:Hid (Fine w0 Inv)) (f:σ->ByteArray->Int×σ) (most:Nat) (hmost:(most:Int)<=1000) (s0:σ)
 (hc:Hid (∀k s x W,l[k]?=some x->l.length<=most->goE f (l.take k) s0=(0,s)->Inv s W->Calls Tryz.prog 69 (bnd.push (.string x)++cap) W (Does Inv (f s x))))
 (W:World) (h0:Hid (Inv s0 W)):Calls Tryz.prog 118 #[.slice p m c,.int .i64 (most:Int),.func (.func 69) bnd cap] W (Does Inv (eachE f most l s0)):=by
 obtain⟨hlm,hm⟩:=hl.out.len;have HL:=hid hlm;have HM:=hid hm;by_cases hlt:most<m
 · have HE:=hid (show eachE f most l s0=(6,s0) by unfold eachE;rw[if_pos zEN_5]);have t1:decide (most<m)=true:=decide_eq_true hlt;clear hlm hm;go_enter Tryz.func118,Tryz.ntmps118;exact zEN_2
 have t1:decide (most<m)=false:=decide_eq_false hlt;have t3:(m:Int)<=1000:=by omega
 have HE:=hid (show eachE f most l s0=goE f l s0 by unfold eachE;rw[if_neg zEN_5]);have HLM:=hid (show l.length<=most by omega);clear hlm hm;go_enter Tryz.func118,Tryz.ntmps118;go_wp2_with fail;go_loopw [16] (fun i wr=>∃k:Nat,∃s,k<=m/\i=.int .i64 (k:Nat)/\Hid (goE f (l.take k) s0=(0,s)/\Inv s wr)) (fun i _=>m-(intOf i).toNat)
 case atStart=>exact⟨0,s0,Nat.zero_le _,rfl,hid ⟨rfl,h0.out⟩⟩
 case round=>
  obtain⟨k,s,hk,rfl,HS⟩:=hrel;have k0:(0:Int)<=(k:Int):=by omega
  rcases Nat.lt_or_ge k m with h|h
  · have k1:(k:Int)<(m:Int):=by omega
    have hkl:k<l.length:=by rw[HL.out];exact h
    have HX:=hid (List.getElem?_eq_getElem hkl);have hB:=F.out.below _ _ HS.out.2;obtain⟨b,o,rfl,hbG,hG,hcell⟩:=(hl.out.below RTxt.map hB).rows zEN_5;obtain⟨c,hcs,hat,hR⟩:=hcell.out k hkl;have HC:=hid hcs;have HSZ:=hid hB.size;have HR:Hid (RTxt (Lo w0.heap.size) wr l[k] #[.string l[k]]):=hid rfl;have e1:w0.heap.size<=w0.heap.size:=Nat.le_refl _;have e0:=hat.get (r:=0) (v:=.string l[k]) (by rw[hR];rfl);rw[show o+k*1+0=o+k by omega] at e0;obtain⟨x,hx⟩:∃x,l[k]=x:=⟨_,rfl⟩
    rw[hx] at HX HR e0;clear hB hcell hcs hat hR hx hkl e1;go_wp2_with fail;refine(hc.out k s x _ HX.out HLM.out HS.out.1 (F.out.on _ _ _ HS.out.2 bl)).mono ?_;rintro e w2 ⟨rfl,hI⟩;have HI:=hid hI;have HG:=hid HS.out.1;obtain⟨r,hr⟩:∃r,f s x=r:=⟨_,rfl⟩
    have HF:=hid hr;rw[hr] at HI ⊢;obtain⟨v,s2⟩:=r;clear e0 hI hr;exact zEN_3
  · exact zEN_1
end Go.Proofs.YtbgodajefaahdaaGreatDoor.Md
