/-
  Parts of this proof: The contracts of checkEach at its types.
-/
import Derived.Test.YtbgodajefaahdaaGreatDoorYPBase
open Go.Proofs.Tryz renaming prog->ae
open List renaming getElem?_eq_getElem->af
open Go.Lib renaming hid->U
open Go renaming Value->ag,World->ah,Calls->ak,sizeOf->au
open Nat renaming lt_or_ge->ai,zero_le->aj
open Go.RowKit renaming Hid->V,Below->av
set_option linter.unusedVariables false
open Go.Lib (hid)
namespace Go.Proofs.YtbgodajefaahdaaGreatDoor
namespace Md
open Go.RowKit
open Ex (Lo)
set_option maxHeartbeats 2000000
theorem fC.below {α:Type} {R:Rec α} (hm:fC R) {B:Nat} {w w2:ah} {x:α} {c:Array ag} (hb:av B w w2) (h:R (Lo B) w x c):R (Lo B) w2 x c:=hm hb.size (fun b g=>fun _=>⟨g,hb.block b g⟩) h
def Does {σ:Type} (Inv:σ->ah->Prop) (r:Int×σ) (e:Ending) (w':ah):Prop:=e=.returned (.int .i64 r.1)/\Inv r.2 w'
structure qR {σ:Type} (w0:ah) (Inv:σ->ah->Prop):Prop where
 below:∀s W,Inv s W->av w0.heap.size w0 W
 on:∀s W W2,Inv s W->av W.heap.size W W2->Inv s W2
theorem agq {p:Prop} (h:p:=by
 by_cases hv:v=0
 · have HN:=U (amM HX.out HG.out (by rw[HF.out];exact hv));rw[HF.out] at HN;subst hv;go_wp2_with fail;go_roundw
   case rel=>exact⟨k+1,s2,by omega,by go_num,U ⟨HN.out,HI.out⟩⟩
   case measure=>simp[intOf];omega
 · have HN:=U (amO HX.out HG.out (by rw[HF.out];exact hv));rw[HF.out] at HN;have hz:(v != 0)=true:=bne_iff_ne.2 hv;go_wp2_with fail;go_ret;exact⟨by rw[HE.out,HN.out];rfl,by rw[HE.out,HN.out];exact HI.out⟩
 ):p:=h
theorem yT {p:Prop} (h:p:=by
 rintro e w2 ⟨rfl,hI⟩;have HI:=U hI;have HG:=U HS.out.1;obtain⟨r,hr⟩:∃r,f s x=r:=⟨_,rfl⟩
 have HF:=U hr;rw[hr] at HI ⊢;obtain⟨v,s2⟩:=r;clear ld1 lI nD sJ st1 st2 rM hI hr;exact agq
 ):p:=h
theorem xI {p:Prop} (h:p:=by
 obtain rfl:m=k:=by omega
 have HT:=U (show dN f l s0=(0,s) by have h1:=HS.out.1;rwa [List.take_of_length_le (by rw[HL.out];exact Nat.le_refl _)] at h1);go_wp2_with fail;go_ret;exact⟨by rw[HE.out,HT.out];rfl,by rw[HE.out,HT.out];exact HS.out.2⟩
 ):p:=h
theorem xJ {p:Prop} (h:p:=by
 go_wp2_with fail;go_ret;exact⟨by rw[HE.out];rfl,by rw[HE.out];exact h0.out⟩
 ):p:=h
theorem jc {p:Prop} (h:p:=by rw[hz,HC.out]):p:=h
theorem ik {p:Prop} (h:p:=by omega):p:=h
set_option maxRecDepth 100000 in
theorem alr {σ:Type} {w0:ah} {l:List Val} {p:Option Addr} {m c:Nat} (hl:V (Rw 3 fV (Lo w0.heap.size) w0 l p m)) (bnd cap:Array ag) (Inv:σ->ah->Prop) (F:V (qR w0 Inv)) (f:σ->Val->Int×σ) (most:Nat) (t_:(most:Int)<=1000) (s0:σ)
 (hc:V (∀k s x c W,l[k]?=some x->l.length<=most->dN f (l.take k) s0=(0,s)->fV (Lo w0.heap.size) W x c->Inv s W->ak ae 37 (bnd.push (.agg c)++cap) W (Does Inv (f s x))))
 (W:ah) (h0:V (Inv s0 W)):ak ae 36 #[.slice p m c,.int .i64 (most:Int),.func (.func 37) bnd cap] W (Does Inv (dh f most l s0)):=by
 obtain⟨hlm,hm⟩:=hl.out.len;have HL:=U hlm;have HM:=U hm;by_cases hlt:most<m
 · have HE:=U (show dh f most l s0=(6,s0) by unfold dh;rw[if_pos ik]);have t1:decide (most<m)=true:=decide_eq_true hlt;clear hlm hm;go_enter Tryz.func36,Tryz.ntmps36;exact xJ
 have t1:decide (most<m)=false:=decide_eq_false hlt;have t3:(m:Int)<=1000:=by omega
 have HE:=U (show dh f most l s0=dN f l s0 by unfold dh;rw[if_neg ik]);have lU:=U (show l.length<=most by omega);clear hlm hm;obtain⟨kk,hkk⟩:∃n:Nat,3=n:=⟨_,rfl⟩
 have hsz:∀w,(au 93).run ae w=.ok kk w:=fun w=>by rw[Tryz.sizeOf93,hkk]
 have HKK:=U hkk;clear hkk;go_enter Tryz.func36,Tryz.ntmps36;go_wp2_with fail;go_loopw [16] (fun i wr=>∃k:Nat,∃s,k<=m/\i=.int .i64 (k:Nat)/\V (dN f (l.take k) s0=(0,s)/\Inv s wr)) (fun i _=>m-(intOf i).toNat)
 case atStart=>exact⟨0,s0,aj _,rfl,U ⟨rfl,h0.out⟩⟩
 case round=>
  obtain⟨k,s,hk,rfl,HS⟩:=hrel;have k0:(0:Int)<=(k:Int):=by omega
  rcases ai k m with h|h
  · have k1:(k:Int)<(m:Int):=by omega
    have hkl:k<l.length:=by rw[HL.out];exact h
    have HX:=U (af hkl);have hB:=F.out.below _ _ HS.out.2;obtain⟨b,o,rfl,gD,hG,hcell⟩:=(hl.out.below fV.map hB).rows ik;obtain⟨c,hcs,hat,hR⟩:=hcell.out k hkl;have HC:=U hcs;have jI:=U hB.size;have HR:=U hR;have hcsz:c.size=kk:=by rw[HC.out,HKK.out]
    have cK:=hat.at HKK.out;have bt:Big 93 c.size:=by rw[HC.out];exact M9
    have ld1:=cK.dW hcsz;have lI:=cK.kg bt;have nD:=cK.kN bt;have st1:=fun(z:Array ag) (hz:z.size=3)=>rD bt (fV.is hR).2 z jc;have st2:=fun(z:Array ag) (hz:z.size=3)=>rE bt (fV.is hR).2 z jc;have rM:=fun(z:Array ag) (hz:z.size=3)=>rC bt (fV.is hR).2 z jc;have sJ:=fun W=>run_loadCellsFrom_new (P:=ae) W 93 c kk hcsz;obtain⟨x,hx⟩:∃x,l[k]=x:=⟨_,rfl⟩
    rw[hx] at HX HR;clear hB hcell hcs hat cK bt hR hx hkl;go_wp2_with fail;refine(hc.out k s x c _ HX.out lU.out HS.out.1 (fV.map.below ((show av wr.heap.size wr _ by exact bl).mono jI.out) HR.out) (F.out.on _ _ _ HS.out.2 bl)).mono ?_;exact yT
  · exact xI
set_option maxRecDepth 100000 in
theorem aln {σ:Type} {w0:ah} {l:List b_} {p:Option Addr} {m c:Nat} (hl:V (Rw 13 gH (Lo w0.heap.size) w0 l p m)) (bnd cap:Array ag) (Inv:σ->ah->Prop) (F:V (qR w0 Inv)) (f:σ->b_->Int×σ) (most:Nat) (t_:(most:Int)<=1000) (s0:σ)
 (hc:V (∀k s x c W,l[k]?=some x->l.length<=most->dN f (l.take k) s0=(0,s)->gH (Lo w0.heap.size) W x c->Inv s W->ak ae 73 (bnd.push (.agg c)++cap) W (Does Inv (f s x))))
 (W:ah) (h0:V (Inv s0 W)):ak ae 72 #[.slice p m c,.int .i64 (most:Int),.func (.func 73) bnd cap] W (Does Inv (dh f most l s0)):=by
 obtain⟨hlm,hm⟩:=hl.out.len;have HL:=U hlm;have HM:=U hm;by_cases hlt:most<m
 · have HE:=U (show dh f most l s0=(6,s0) by unfold dh;rw[if_pos ik]);have t1:decide (most<m)=true:=decide_eq_true hlt;clear hlm hm;go_enter Tryz.func72,Tryz.ntmps72;exact xJ
 have t1:decide (most<m)=false:=decide_eq_false hlt;have t3:(m:Int)<=1000:=by omega
 have HE:=U (show dh f most l s0=dN f l s0 by unfold dh;rw[if_neg ik]);have lU:=U (show l.length<=most by omega);clear hlm hm;obtain⟨kk,hkk⟩:∃n:Nat,13=n:=⟨_,rfl⟩
 have hsz:∀w,(au 53).run ae w=.ok kk w:=fun w=>by rw[Tryz.sizeOf53,hkk]
 have HKK:=U hkk;clear hkk;go_enter Tryz.func72,Tryz.ntmps72;go_wp2_with fail;go_loopw [16] (fun i wr=>∃k:Nat,∃s,k<=m/\i=.int .i64 (k:Nat)/\V (dN f (l.take k) s0=(0,s)/\Inv s wr)) (fun i _=>m-(intOf i).toNat)
 case atStart=>exact⟨0,s0,aj _,rfl,U ⟨rfl,h0.out⟩⟩
 case round=>
  obtain⟨k,s,hk,rfl,HS⟩:=hrel;have k0:(0:Int)<=(k:Int):=by omega
  rcases ai k m with h|h
  · have k1:(k:Int)<(m:Int):=by omega
    have hkl:k<l.length:=by rw[HL.out];exact h
    have HX:=U (af hkl);have hB:=F.out.below _ _ HS.out.2;obtain⟨b,o,rfl,gD,hG,hcell⟩:=(hl.out.below gH.map hB).rows ik;obtain⟨c,hcs,hat,hR⟩:=hcell.out k hkl;have HC:=U hcs;have jI:=U hB.size;have HR:=U hR;have hcsz:c.size=kk:=by rw[HC.out,HKK.out]
    have cK:=hat.at HKK.out;have bt:Big 53 c.size:=by rw[HC.out];exact M7
    have ld1:=cK.dW hcsz;have lI:=cK.kg bt;have nD:=cK.kN bt;have st1:=fun(z:Array ag) (hz:z.size=13)=>rD bt (gH.is hR).2 z jc;have st2:=fun(z:Array ag) (hz:z.size=13)=>rE bt (gH.is hR).2 z jc;have rM:=fun(z:Array ag) (hz:z.size=13)=>rC bt (gH.is hR).2 z jc;have sJ:=fun W=>run_loadCellsFrom_new (P:=ae) W 53 c kk hcsz;obtain⟨x,hx⟩:∃x,l[k]=x:=⟨_,rfl⟩
    rw[hx] at HX HR;clear hB hcell hcs hat cK bt hR hx hkl;go_wp2_with fail;refine(hc.out k s x c _ HX.out lU.out HS.out.1 (gH.map.below ((show av wr.heap.size wr _ by exact bl).mono jI.out) HR.out) (F.out.on _ _ _ HS.out.2 bl)).mono ?_;exact yT
  · exact xI
set_option maxRecDepth 100000 in
theorem alh {σ:Type} {w0:ah} {l:List gz} {p:Option Addr} {m c:Nat} (hl:V (Rw 3 ng (Lo w0.heap.size) w0 l p m)) (bnd cap:Array ag) (Inv:σ->ah->Prop) (F:V (qR w0 Inv)) (f:σ->gz->Int×σ) (most:Nat) (t_:(most:Int)<=1000) (s0:σ)
 (hc:V (∀k s x c W,l[k]?=some x->l.length<=most->dN f (l.take k) s0=(0,s)->ng (Lo w0.heap.size) W x c->Inv s W->ak ae 76 (bnd.push (.agg c)++cap) W (Does Inv (f s x))))
 (W:ah) (h0:V (Inv s0 W)):ak ae 75 #[.slice p m c,.int .i64 (most:Int),.func (.func 76) bnd cap] W (Does Inv (dh f most l s0)):=by
 obtain⟨hlm,hm⟩:=hl.out.len;have HL:=U hlm;have HM:=U hm;by_cases hlt:most<m
 · have HE:=U (show dh f most l s0=(6,s0) by unfold dh;rw[if_pos ik]);have t1:decide (most<m)=true:=decide_eq_true hlt;clear hlm hm;go_enter Tryz.func75,Tryz.ntmps75;exact xJ
 have t1:decide (most<m)=false:=decide_eq_false hlt;have t3:(m:Int)<=1000:=by omega
 have HE:=U (show dh f most l s0=dN f l s0 by unfold dh;rw[if_neg ik]);have lU:=U (show l.length<=most by omega);clear hlm hm;obtain⟨kk,hkk⟩:∃n:Nat,3=n:=⟨_,rfl⟩
 have hsz:∀w,(au 73).run ae w=.ok kk w:=fun w=>by rw[Tryz.sizeOf73,hkk]
 have HKK:=U hkk;clear hkk;go_enter Tryz.func75,Tryz.ntmps75;go_wp2_with fail;go_loopw [16] (fun i wr=>∃k:Nat,∃s,k<=m/\i=.int .i64 (k:Nat)/\V (dN f (l.take k) s0=(0,s)/\Inv s wr)) (fun i _=>m-(intOf i).toNat)
 case atStart=>exact⟨0,s0,aj _,rfl,U ⟨rfl,h0.out⟩⟩
 case round=>
  obtain⟨k,s,hk,rfl,HS⟩:=hrel;have k0:(0:Int)<=(k:Int):=by omega
  rcases ai k m with h|h
  · have k1:(k:Int)<(m:Int):=by omega
    have hkl:k<l.length:=by rw[HL.out];exact h
    have HX:=U (af hkl);have hB:=F.out.below _ _ HS.out.2;obtain⟨b,o,rfl,gD,hG,hcell⟩:=(hl.out.below ng.map hB).rows ik;obtain⟨c,hcs,hat,hR⟩:=hcell.out k hkl;have HC:=U hcs;have jI:=U hB.size;have HR:=U hR;have hcsz:c.size=kk:=by rw[HC.out,HKK.out]
    have cK:=hat.at HKK.out;have bt:Big 73 c.size:=by rw[HC.out];exact Si
    have ld1:=cK.dW hcsz;have lI:=cK.kg bt;have nD:=cK.kN bt;have st1:=fun(z:Array ag) (hz:z.size=3)=>rD bt (ng.is hR).2 z jc;have st2:=fun(z:Array ag) (hz:z.size=3)=>rE bt (ng.is hR).2 z jc;have rM:=fun(z:Array ag) (hz:z.size=3)=>rC bt (ng.is hR).2 z jc;have sJ:=fun W=>run_loadCellsFrom_new (P:=ae) W 73 c kk hcsz;obtain⟨x,hx⟩:∃x,l[k]=x:=⟨_,rfl⟩
    rw[hx] at HX HR;clear hB hcell hcs hat cK bt hR hx hkl;go_wp2_with fail;refine(hc.out k s x c _ HX.out lU.out HS.out.1 (ng.map.below ((show av wr.heap.size wr _ by exact bl).mono jI.out) HR.out) (F.out.on _ _ _ HS.out.2 bl)).mono ?_;exact yT
  · exact xI
set_option maxRecDepth 100000 in
theorem alj {σ:Type} {w0:ah} {l:List dm} {p:Option Addr} {m c:Nat} (hl:V (Rw 17 iV (Lo w0.heap.size) w0 l p m)) (bnd cap:Array ag) (Inv:σ->ah->Prop) (F:V (qR w0 Inv)) (f:σ->dm->Int×σ) (most:Nat) (t_:(most:Int)<=1000) (s0:σ)
 (hc:V (∀k s x c W,l[k]?=some x->l.length<=most->dN f (l.take k) s0=(0,s)->iV (Lo w0.heap.size) W x c->Inv s W->ak ae 110 (bnd.push (.agg c)++cap) W (Does Inv (f s x))))
 (W:ah) (h0:V (Inv s0 W)):ak ae 109 #[.slice p m c,.int .i64 (most:Int),.func (.func 110) bnd cap] W (Does Inv (dh f most l s0)):=by
 obtain⟨hlm,hm⟩:=hl.out.len;have HL:=U hlm;have HM:=U hm;by_cases hlt:most<m
 · have HE:=U (show dh f most l s0=(6,s0) by unfold dh;rw[if_pos ik]);have t1:decide (most<m)=true:=decide_eq_true hlt;clear hlm hm;go_enter Tryz.func109,Tryz.ntmps109;exact xJ
 have t1:decide (most<m)=false:=decide_eq_false hlt;have t3:(m:Int)<=1000:=by omega
 have HE:=U (show dh f most l s0=dN f l s0 by unfold dh;rw[if_neg ik]);have lU:=U (show l.length<=most by omega);clear hlm hm;obtain⟨kk,hkk⟩:∃n:Nat,17=n:=⟨_,rfl⟩
 have hsz:∀w,(au 111).run ae w=.ok kk w:=fun w=>by rw[Tryz.sizeOf111,hkk]
 have HKK:=U hkk;clear hkk;go_enter Tryz.func109,Tryz.ntmps109;go_wp2_with fail;go_loopw [16] (fun i wr=>∃k:Nat,∃s,k<=m/\i=.int .i64 (k:Nat)/\V (dN f (l.take k) s0=(0,s)/\Inv s wr)) (fun i _=>m-(intOf i).toNat)
 case atStart=>exact⟨0,s0,aj _,rfl,U ⟨rfl,h0.out⟩⟩
 case round=>
  obtain⟨k,s,hk,rfl,HS⟩:=hrel;have k0:(0:Int)<=(k:Int):=by omega
  rcases ai k m with h|h
  · have k1:(k:Int)<(m:Int):=by omega
    have hkl:k<l.length:=by rw[HL.out];exact h
    have HX:=U (af hkl);have hB:=F.out.below _ _ HS.out.2;obtain⟨b,o,rfl,gD,hG,hcell⟩:=(hl.out.below iV.map hB).rows ik;obtain⟨c,hcs,hat,hR⟩:=hcell.out k hkl;have HC:=U hcs;have jI:=U hB.size;have HR:=U hR;have hcsz:c.size=kk:=by rw[HC.out,HKK.out]
    have cK:=hat.at HKK.out;have bt:Big 111 c.size:=by rw[HC.out];exact Cc
    have ld1:=cK.dW hcsz;have lI:=cK.kg bt;have nD:=cK.kN bt;have st1:=fun(z:Array ag) (hz:z.size=17)=>rD bt (iV.is hR).2 z jc;have st2:=fun(z:Array ag) (hz:z.size=17)=>rE bt (iV.is hR).2 z jc;have rM:=fun(z:Array ag) (hz:z.size=17)=>rC bt (iV.is hR).2 z jc;have sJ:=fun W=>run_loadCellsFrom_new (P:=ae) W 111 c kk hcsz;obtain⟨x,hx⟩:∃x,l[k]=x:=⟨_,rfl⟩
    rw[hx] at HX HR;clear hB hcell hcs hat cK bt hR hx hkl;go_wp2_with fail;refine(hc.out k s x c _ HX.out lU.out HS.out.1 (iV.map.below ((show av wr.heap.size wr _ by exact bl).mono jI.out) HR.out) (F.out.on _ _ _ HS.out.2 bl)).mono ?_;exact yT
  · exact xI
set_option maxRecDepth 100000 in
theorem alo {σ:Type} {w0:ah} {l:List iI} {p:Option Addr} {m c:Nat} (hl:V (Rw 3 jZ (Lo w0.heap.size) w0 l p m)) (bnd cap:Array ag) (Inv:σ->ah->Prop) (F:V (qR w0 Inv)) (f:σ->iI->Int×σ) (most:Nat) (t_:(most:Int)<=1000) (s0:σ)
 (hc:V (∀k s x c W,l[k]?=some x->l.length<=most->dN f (l.take k) s0=(0,s)->jZ (Lo w0.heap.size) W x c->Inv s W->ak ae 113 (bnd.push (.agg c)++cap) W (Does Inv (f s x))))
 (W:ah) (h0:V (Inv s0 W)):ak ae 112 #[.slice p m c,.int .i64 (most:Int),.func (.func 113) bnd cap] W (Does Inv (dh f most l s0)):=by
 obtain⟨hlm,hm⟩:=hl.out.len;have HL:=U hlm;have HM:=U hm;by_cases hlt:most<m
 · have HE:=U (show dh f most l s0=(6,s0) by unfold dh;rw[if_pos ik]);have t1:decide (most<m)=true:=decide_eq_true hlt;clear hlm hm;go_enter Tryz.func112,Tryz.ntmps112;exact xJ
 have t1:decide (most<m)=false:=decide_eq_false hlt;have t3:(m:Int)<=1000:=by omega
 have HE:=U (show dh f most l s0=dN f l s0 by unfold dh;rw[if_neg ik]);have lU:=U (show l.length<=most by omega);clear hlm hm;obtain⟨kk,hkk⟩:∃n:Nat,3=n:=⟨_,rfl⟩
 have hsz:∀w,(au 114).run ae w=.ok kk w:=fun w=>by rw[Tryz.sizeOf114,hkk]
 have HKK:=U hkk;clear hkk;go_enter Tryz.func112,Tryz.ntmps112;go_wp2_with fail;go_loopw [16] (fun i wr=>∃k:Nat,∃s,k<=m/\i=.int .i64 (k:Nat)/\V (dN f (l.take k) s0=(0,s)/\Inv s wr)) (fun i _=>m-(intOf i).toNat)
 case atStart=>exact⟨0,s0,aj _,rfl,U ⟨rfl,h0.out⟩⟩
 case round=>
  obtain⟨k,s,hk,rfl,HS⟩:=hrel;have k0:(0:Int)<=(k:Int):=by omega
  rcases ai k m with h|h
  · have k1:(k:Int)<(m:Int):=by omega
    have hkl:k<l.length:=by rw[HL.out];exact h
    have HX:=U (af hkl);have hB:=F.out.below _ _ HS.out.2;obtain⟨b,o,rfl,gD,hG,hcell⟩:=(hl.out.below jZ.map hB).rows ik;obtain⟨c,hcs,hat,hR⟩:=hcell.out k hkl;have HC:=U hcs;have jI:=U hB.size;have HR:=U hR;have hcsz:c.size=kk:=by rw[HC.out,HKK.out]
    have cK:=hat.at HKK.out;have bt:Big 114 c.size:=by rw[HC.out];exact M8
    have ld1:=cK.dW hcsz;have lI:=cK.kg bt;have nD:=cK.kN bt;have st1:=fun(z:Array ag) (hz:z.size=3)=>rD bt (jZ.is hR).2 z jc;have st2:=fun(z:Array ag) (hz:z.size=3)=>rE bt (jZ.is hR).2 z jc;have rM:=fun(z:Array ag) (hz:z.size=3)=>rC bt (jZ.is hR).2 z jc;have sJ:=fun W=>run_loadCellsFrom_new (P:=ae) W 114 c kk hcsz;obtain⟨x,hx⟩:∃x,l[k]=x:=⟨_,rfl⟩
    rw[hx] at HX HR;clear hB hcell hcs hat cK bt hR hx hkl;go_wp2_with fail;refine(hc.out k s x c _ HX.out lU.out HS.out.1 (jZ.map.below ((show av wr.heap.size wr _ by exact bl).mono jI.out) HR.out) (F.out.on _ _ _ HS.out.2 bl)).mono ?_;exact yT
  · exact xI
set_option maxRecDepth 100000 in
theorem alf {σ:Type} {w0:ah} {l:List iF} {p:Option Addr} {m c:Nat} (hl:V (Rw 3 jY (Lo w0.heap.size) w0 l p m)) (bnd cap:Array ag) (Inv:σ->ah->Prop) (F:V (qR w0 Inv)) (f:σ->iF->Int×σ) (most:Nat) (t_:(most:Int)<=1000) (s0:σ)
 (hc:V (∀k s x c W,l[k]?=some x->l.length<=most->dN f (l.take k) s0=(0,s)->jY (Lo w0.heap.size) W x c->Inv s W->ak ae 116 (bnd.push (.agg c)++cap) W (Does Inv (f s x))))
 (W:ah) (h0:V (Inv s0 W)):ak ae 115 #[.slice p m c,.int .i64 (most:Int),.func (.func 116) bnd cap] W (Does Inv (dh f most l s0)):=by
 obtain⟨hlm,hm⟩:=hl.out.len;have HL:=U hlm;have HM:=U hm;by_cases hlt:most<m
 · have HE:=U (show dh f most l s0=(6,s0) by unfold dh;rw[if_pos ik]);have t1:decide (most<m)=true:=decide_eq_true hlt;clear hlm hm;go_enter Tryz.func115,Tryz.ntmps115;exact xJ
 have t1:decide (most<m)=false:=decide_eq_false hlt;have t3:(m:Int)<=1000:=by omega
 have HE:=U (show dh f most l s0=dN f l s0 by unfold dh;rw[if_neg ik]);have lU:=U (show l.length<=most by omega);clear hlm hm;obtain⟨kk,hkk⟩:∃n:Nat,3=n:=⟨_,rfl⟩
 have hsz:∀w,(au 116).run ae w=.ok kk w:=fun w=>by rw[Tryz.sizeOf116,hkk]
 have HKK:=U hkk;clear hkk;go_enter Tryz.func115,Tryz.ntmps115;go_wp2_with fail;go_loopw [16] (fun i wr=>∃k:Nat,∃s,k<=m/\i=.int .i64 (k:Nat)/\V (dN f (l.take k) s0=(0,s)/\Inv s wr)) (fun i _=>m-(intOf i).toNat)
 case atStart=>exact⟨0,s0,aj _,rfl,U ⟨rfl,h0.out⟩⟩
 case round=>
  obtain⟨k,s,hk,rfl,HS⟩:=hrel;have k0:(0:Int)<=(k:Int):=by omega
  rcases ai k m with h|h
  · have k1:(k:Int)<(m:Int):=by omega
    have hkl:k<l.length:=by rw[HL.out];exact h
    have HX:=U (af hkl);have hB:=F.out.below _ _ HS.out.2;obtain⟨b,o,rfl,gD,hG,hcell⟩:=(hl.out.below jY.map hB).rows ik;obtain⟨c,hcs,hat,hR⟩:=hcell.out k hkl;have HC:=U hcs;have jI:=U hB.size;have HR:=U hR;have hcsz:c.size=kk:=by rw[HC.out,HKK.out]
    have cK:=hat.at HKK.out;have bt:Big 116 c.size:=by rw[HC.out];exact M5
    have ld1:=cK.dW hcsz;have lI:=cK.kg bt;have nD:=cK.kN bt;have st1:=fun(z:Array ag) (hz:z.size=3)=>rD bt (jY.is hR).2 z jc;have st2:=fun(z:Array ag) (hz:z.size=3)=>rE bt (jY.is hR).2 z jc;have rM:=fun(z:Array ag) (hz:z.size=3)=>rC bt (jY.is hR).2 z jc;have sJ:=fun W=>run_loadCellsFrom_new (P:=ae) W 116 c kk hcsz;obtain⟨x,hx⟩:∃x,l[k]=x:=⟨_,rfl⟩
    rw[hx] at HX HR;clear hB hcell hcs hat cK bt hR hx hkl;go_wp2_with fail;refine(hc.out k s x c _ HX.out lU.out HS.out.1 (jY.map.below ((show av wr.heap.size wr _ by exact bl).mono jI.out) HR.out) (F.out.on _ _ _ HS.out.2 bl)).mono ?_;exact yT
  · exact xI
set_option maxRecDepth 100000 in
theorem alk {σ:Type} {w0:ah} {l:List eQ} {p:Option Addr} {m c:Nat} (hl:V (Rw 4 gT (Lo w0.heap.size) w0 l p m)) (bnd cap:Array ag) (Inv:σ->ah->Prop) (F:V (qR w0 Inv)) (f:σ->eQ->Int×σ) (most:Nat) (t_:(most:Int)<=1000) (s0:σ)
 (hc:V (∀k s x c W,l[k]?=some x->l.length<=most->dN f (l.take k) s0=(0,s)->gT (Lo w0.heap.size) W x c->Inv s W->ak ae 120 (bnd.push (.agg c)++cap) W (Does Inv (f s x))))
 (W:ah) (h0:V (Inv s0 W)):ak ae 119 #[.slice p m c,.int .i64 (most:Int),.func (.func 120) bnd cap] W (Does Inv (dh f most l s0)):=by
 obtain⟨hlm,hm⟩:=hl.out.len;have HL:=U hlm;have HM:=U hm;by_cases hlt:most<m
 · have HE:=U (show dh f most l s0=(6,s0) by unfold dh;rw[if_pos ik]);have t1:decide (most<m)=true:=decide_eq_true hlt;clear hlm hm;go_enter Tryz.func119,Tryz.ntmps119;exact xJ
 have t1:decide (most<m)=false:=decide_eq_false hlt;have t3:(m:Int)<=1000:=by omega
 have HE:=U (show dh f most l s0=dN f l s0 by unfold dh;rw[if_neg ik]);have lU:=U (show l.length<=most by omega);clear hlm hm;obtain⟨kk,hkk⟩:∃n:Nat,4=n:=⟨_,rfl⟩
 have hsz:∀w,(au 119).run ae w=.ok kk w:=fun w=>by rw[Tryz.sizeOf119,hkk]
 have HKK:=U hkk;clear hkk;go_enter Tryz.func119,Tryz.ntmps119;go_wp2_with fail;go_loopw [16] (fun i wr=>∃k:Nat,∃s,k<=m/\i=.int .i64 (k:Nat)/\V (dN f (l.take k) s0=(0,s)/\Inv s wr)) (fun i _=>m-(intOf i).toNat)
 case atStart=>exact⟨0,s0,aj _,rfl,U ⟨rfl,h0.out⟩⟩
 case round=>
  obtain⟨k,s,hk,rfl,HS⟩:=hrel;have k0:(0:Int)<=(k:Int):=by omega
  rcases ai k m with h|h
  · have k1:(k:Int)<(m:Int):=by omega
    have hkl:k<l.length:=by rw[HL.out];exact h
    have HX:=U (af hkl);have hB:=F.out.below _ _ HS.out.2;obtain⟨b,o,rfl,gD,hG,hcell⟩:=(hl.out.below gT.map hB).rows ik;obtain⟨c,hcs,hat,hR⟩:=hcell.out k hkl;have HC:=U hcs;have jI:=U hB.size;have HR:=U hR;have hcsz:c.size=kk:=by rw[HC.out,HKK.out]
    have cK:=hat.at HKK.out;have bt:Big 119 c.size:=by rw[HC.out];exact F6
    have ld1:=cK.dW hcsz;have lI:=cK.kg bt;have nD:=cK.kN bt;have st1:=fun(z:Array ag) (hz:z.size=4)=>rD bt (gT.is hR).2 z jc;have st2:=fun(z:Array ag) (hz:z.size=4)=>rE bt (gT.is hR).2 z jc;have rM:=fun(z:Array ag) (hz:z.size=4)=>rC bt (gT.is hR).2 z jc;have sJ:=fun W=>run_loadCellsFrom_new (P:=ae) W 119 c kk hcsz;obtain⟨x,hx⟩:∃x,l[k]=x:=⟨_,rfl⟩
    rw[hx] at HX HR;clear hB hcell hcs hat cK bt hR hx hkl;go_wp2_with fail;refine(hc.out k s x c _ HX.out lU.out HS.out.1 (gT.map.below ((show av wr.heap.size wr _ by exact bl).mono jI.out) HR.out) (F.out.on _ _ _ HS.out.2 bl)).mono ?_;exact yT
  · exact xI
set_option maxRecDepth 100000 in
theorem alm {σ:Type} {w0:ah} {l:List h_} {p:Option Addr} {m c:Nat} (hl:V (Rw 5 kU (Lo w0.heap.size) w0 l p m)) (bnd cap:Array ag) (Inv:σ->ah->Prop) (F:V (qR w0 Inv)) (f:σ->h_->Int×σ) (most:Nat) (t_:(most:Int)<=1000) (s0:σ)
 (hc:V (∀k s x c W,l[k]?=some x->l.length<=most->dN f (l.take k) s0=(0,s)->kU (Lo w0.heap.size) W x c->Inv s W->ak ae 123 (bnd.push (.agg c)++cap) W (Does Inv (f s x))))
 (W:ah) (h0:V (Inv s0 W)):ak ae 122 #[.slice p m c,.int .i64 (most:Int),.func (.func 123) bnd cap] W (Does Inv (dh f most l s0)):=by
 obtain⟨hlm,hm⟩:=hl.out.len;have HL:=U hlm;have HM:=U hm;by_cases hlt:most<m
 · have HE:=U (show dh f most l s0=(6,s0) by unfold dh;rw[if_pos ik]);have t1:decide (most<m)=true:=decide_eq_true hlt;clear hlm hm;go_enter Tryz.func122,Tryz.ntmps122;exact xJ
 have t1:decide (most<m)=false:=decide_eq_false hlt;have t3:(m:Int)<=1000:=by omega
 have HE:=U (show dh f most l s0=dN f l s0 by unfold dh;rw[if_neg ik]);have lU:=U (show l.length<=most by omega);clear hlm hm;obtain⟨kk,hkk⟩:∃n:Nat,5=n:=⟨_,rfl⟩
 have hsz:∀w,(au 122).run ae w=.ok kk w:=fun w=>by rw[Tryz.sizeOf122,hkk]
 have HKK:=U hkk;clear hkk;go_enter Tryz.func122,Tryz.ntmps122;go_wp2_with fail;go_loopw [16] (fun i wr=>∃k:Nat,∃s,k<=m/\i=.int .i64 (k:Nat)/\V (dN f (l.take k) s0=(0,s)/\Inv s wr)) (fun i _=>m-(intOf i).toNat)
 case atStart=>exact⟨0,s0,aj _,rfl,U ⟨rfl,h0.out⟩⟩
 case round=>
  obtain⟨k,s,hk,rfl,HS⟩:=hrel;have k0:(0:Int)<=(k:Int):=by omega
  rcases ai k m with h|h
  · have k1:(k:Int)<(m:Int):=by omega
    have hkl:k<l.length:=by rw[HL.out];exact h
    have HX:=U (af hkl);have hB:=F.out.below _ _ HS.out.2;obtain⟨b,o,rfl,gD,hG,hcell⟩:=(hl.out.below kU.map hB).rows ik;obtain⟨c,hcs,hat,hR⟩:=hcell.out k hkl;have HC:=U hcs;have jI:=U hB.size;have HR:=U hR;have hcsz:c.size=kk:=by rw[HC.out,HKK.out]
    have cK:=hat.at HKK.out;have bt:Big 122 c.size:=by rw[HC.out];exact F7
    have ld1:=cK.dW hcsz;have lI:=cK.kg bt;have nD:=cK.kN bt;have st1:=fun(z:Array ag) (hz:z.size=5)=>rD bt (kU.is hR).2 z jc;have st2:=fun(z:Array ag) (hz:z.size=5)=>rE bt (kU.is hR).2 z jc;have rM:=fun(z:Array ag) (hz:z.size=5)=>rC bt (kU.is hR).2 z jc;have sJ:=fun W=>run_loadCellsFrom_new (P:=ae) W 122 c kk hcsz;obtain⟨x,hx⟩:∃x,l[k]=x:=⟨_,rfl⟩
    rw[hx] at HX HR;clear hB hcell hcs hat cK bt hR hx hkl;go_wp2_with fail;refine(hc.out k s x c _ HX.out lU.out HS.out.1 (kU.map.below ((show av wr.heap.size wr _ by exact bl).mono jI.out) HR.out) (F.out.on _ _ _ HS.out.2 bl)).mono ?_;exact yT
  · exact xI
set_option maxRecDepth 100000 in
theorem ali {σ:Type} {w0:ah} {l:List Lw} {p:Option Addr} {m c:Nat} (hl:V (Rw 3 kT (Lo w0.heap.size) w0 l p m)) (bnd cap:Array ag) (Inv:σ->ah->Prop) (F:V (qR w0 Inv)) (f:σ->Lw->Int×σ) (most:Nat) (t_:(most:Int)<=1000) (s0:σ)
 (hc:V (∀k s x c W,l[k]?=some x->l.length<=most->dN f (l.take k) s0=(0,s)->kT (Lo w0.heap.size) W x c->Inv s W->ak ae 166 (bnd.push (.agg c)++cap) W (Does Inv (f s x))))
 (W:ah) (h0:V (Inv s0 W)):ak ae 165 #[.slice p m c,.int .i64 (most:Int),.func (.func 166) bnd cap] W (Does Inv (dh f most l s0)):=by
 obtain⟨hlm,hm⟩:=hl.out.len;have HL:=U hlm;have HM:=U hm;by_cases hlt:most<m
 · have HE:=U (show dh f most l s0=(6,s0) by unfold dh;rw[if_pos ik]);have t1:decide (most<m)=true:=decide_eq_true hlt;clear hlm hm;go_enter Tryz.func165,Tryz.ntmps165;exact xJ
 have t1:decide (most<m)=false:=decide_eq_false hlt;have t3:(m:Int)<=1000:=by omega
 have HE:=U (show dh f most l s0=dN f l s0 by unfold dh;rw[if_neg ik]);have lU:=U (show l.length<=most by omega);clear hlm hm;obtain⟨kk,hkk⟩:∃n:Nat,3=n:=⟨_,rfl⟩
 have hsz:∀w,(au 127).run ae w=.ok kk w:=fun w=>by rw[Tryz.sizeOf127,hkk]
 have HKK:=U hkk;clear hkk;go_enter Tryz.func165,Tryz.ntmps165;go_wp2_with fail;go_loopw [16] (fun i wr=>∃k:Nat,∃s,k<=m/\i=.int .i64 (k:Nat)/\V (dN f (l.take k) s0=(0,s)/\Inv s wr)) (fun i _=>m-(intOf i).toNat)
 case atStart=>exact⟨0,s0,aj _,rfl,U ⟨rfl,h0.out⟩⟩
 case round=>
  obtain⟨k,s,hk,rfl,HS⟩:=hrel;have k0:(0:Int)<=(k:Int):=by omega
  rcases ai k m with h|h
  · have k1:(k:Int)<(m:Int):=by omega
    have hkl:k<l.length:=by rw[HL.out];exact h
    have HX:=U (af hkl);have hB:=F.out.below _ _ HS.out.2;obtain⟨b,o,rfl,gD,hG,hcell⟩:=(hl.out.below kT.map hB).rows ik;obtain⟨c,hcs,hat,hR⟩:=hcell.out k hkl;have HC:=U hcs;have jI:=U hB.size;have HR:=U hR;have hcsz:c.size=kk:=by rw[HC.out,HKK.out]
    have cK:=hat.at HKK.out;have bt:Big 127 c.size:=by rw[HC.out];exact M6
    have ld1:=cK.dW hcsz;have lI:=cK.kg bt;have nD:=cK.kN bt;have st1:=fun(z:Array ag) (hz:z.size=3)=>rD bt (kT.is hR).2 z jc;have st2:=fun(z:Array ag) (hz:z.size=3)=>rE bt (kT.is hR).2 z jc;have rM:=fun(z:Array ag) (hz:z.size=3)=>rC bt (kT.is hR).2 z jc;have sJ:=fun W=>run_loadCellsFrom_new (P:=ae) W 127 c kk hcsz;obtain⟨x,hx⟩:∃x,l[k]=x:=⟨_,rfl⟩
    rw[hx] at HX HR;clear hB hcell hcs hat cK bt hR hx hkl;go_wp2_with fail;refine(hc.out k s x c _ HX.out lU.out HS.out.1 (kT.map.below ((show av wr.heap.size wr _ by exact bl).mono jI.out) HR.out) (F.out.on _ _ _ HS.out.2 bl)).mono ?_;exact yT
  · exact xI
set_option maxRecDepth 100000 in
theorem alp {σ:Type} {w0:ah} {l:List gU} {p:Option Addr} {m c:Nat} (hl:V (Rw 3 jw (Lo w0.heap.size) w0 l p m)) (bnd cap:Array ag) (Inv:σ->ah->Prop) (F:V (qR w0 Inv)) (f:σ->gU->Int×σ) (most:Nat) (t_:(most:Int)<=1000) (s0:σ)
 (hc:V (∀k s x c W,l[k]?=some x->l.length<=most->dN f (l.take k) s0=(0,s)->jw (Lo w0.heap.size) W x c->Inv s W->ak ae 194 (bnd.push (.agg c)++cap) W (Does Inv (f s x))))
 (W:ah) (h0:V (Inv s0 W)):ak ae 193 #[.slice p m c,.int .i64 (most:Int),.func (.func 194) bnd cap] W (Does Inv (dh f most l s0)):=by
 obtain⟨hlm,hm⟩:=hl.out.len;have HL:=U hlm;have HM:=U hm;by_cases hlt:most<m
 · have HE:=U (show dh f most l s0=(6,s0) by unfold dh;rw[if_pos ik]);have t1:decide (most<m)=true:=decide_eq_true hlt;clear hlm hm;go_enter Tryz.func193,Tryz.ntmps193;exact xJ
 have t1:decide (most<m)=false:=decide_eq_false hlt;have t3:(m:Int)<=1000:=by omega
 have HE:=U (show dh f most l s0=dN f l s0 by unfold dh;rw[if_neg ik]);have lU:=U (show l.length<=most by omega);clear hlm hm;obtain⟨kk,hkk⟩:∃n:Nat,3=n:=⟨_,rfl⟩
 have hsz:∀w,(au 181).run ae w=.ok kk w:=fun w=>by rw[Tryz.sizeOf181,hkk]
 have HKK:=U hkk;clear hkk;go_enter Tryz.func193,Tryz.ntmps193;go_wp2_with fail;go_loopw [16] (fun i wr=>∃k:Nat,∃s,k<=m/\i=.int .i64 (k:Nat)/\V (dN f (l.take k) s0=(0,s)/\Inv s wr)) (fun i _=>m-(intOf i).toNat)
 case atStart=>exact⟨0,s0,aj _,rfl,U ⟨rfl,h0.out⟩⟩
 case round=>
  obtain⟨k,s,hk,rfl,HS⟩:=hrel;have k0:(0:Int)<=(k:Int):=by omega
  rcases ai k m with h|h
  · have k1:(k:Int)<(m:Int):=by omega
    have hkl:k<l.length:=by rw[HL.out];exact h
    have HX:=U (af hkl);have hB:=F.out.below _ _ HS.out.2;obtain⟨b,o,rfl,gD,hG,hcell⟩:=(hl.out.below jw.map hB).rows ik;obtain⟨c,hcs,hat,hR⟩:=hcell.out k hkl;have HC:=U hcs;have jI:=U hB.size;have HR:=U hR;have hcsz:c.size=kk:=by rw[HC.out,HKK.out]
    have cK:=hat.at HKK.out;have bt:Big 181 c.size:=by rw[HC.out];exact Sj
    have ld1:=cK.dW hcsz;have lI:=cK.kg bt;have nD:=cK.kN bt;have st1:=fun(z:Array ag) (hz:z.size=3)=>rD bt (jw.is hR).2 z jc;have st2:=fun(z:Array ag) (hz:z.size=3)=>rE bt (jw.is hR).2 z jc;have rM:=fun(z:Array ag) (hz:z.size=3)=>rC bt (jw.is hR).2 z jc;have sJ:=fun W=>run_loadCellsFrom_new (P:=ae) W 181 c kk hcsz;obtain⟨x,hx⟩:∃x,l[k]=x:=⟨_,rfl⟩
    rw[hx] at HX HR;clear hB hcell hcs hat cK bt hR hx hkl;go_wp2_with fail;refine(hc.out k s x c _ HX.out lU.out HS.out.1 (jw.map.below ((show av wr.heap.size wr _ by exact bl).mono jI.out) HR.out) (F.out.on _ _ _ HS.out.2 bl)).mono ?_;exact yT
  · exact xI
set_option maxRecDepth 100000 in
theorem alg {σ:Type} {w0:ah} {l:List d_} {p:Option Addr} {m c:Nat} (hl:V (Rw 2 dH (Lo w0.heap.size) w0 l p m)) (bnd cap:Array ag) (Inv:σ->ah->Prop) (F:V (qR w0 Inv)) (f:σ->d_->Int×σ) (most:Nat) (t_:(most:Int)<=1000) (s0:σ)
 (hc:V (∀k s x c W,l[k]?=some x->l.length<=most->dN f (l.take k) s0=(0,s)->dH (Lo w0.heap.size) W x c->Inv s W->ak ae 163 (bnd.push (.agg c)++cap) W (Does Inv (f s x))))
 (W:ah) (h0:V (Inv s0 W)):ak ae 162 #[.slice p m c,.int .i64 (most:Int),.func (.func 163) bnd cap] W (Does Inv (dh f most l s0)):=by
 obtain⟨hlm,hm⟩:=hl.out.len;have HL:=U hlm;have HM:=U hm;by_cases hlt:most<m
 · have HE:=U (show dh f most l s0=(6,s0) by unfold dh;rw[if_pos ik]);have t1:decide (most<m)=true:=decide_eq_true hlt;clear hlm hm;go_enter Tryz.func162,Tryz.ntmps162;exact xJ
 have t1:decide (most<m)=false:=decide_eq_false hlt;have t3:(m:Int)<=1000:=by omega
 have HE:=U (show dh f most l s0=dN f l s0 by unfold dh;rw[if_neg ik]);have lU:=U (show l.length<=most by omega);clear hlm hm;obtain⟨kk,hkk⟩:∃n:Nat,2=n:=⟨_,rfl⟩
 have hsz:∀w,(au 179).run ae w=.ok kk w:=fun w=>by rw[Tryz.sizeOf179,hkk]
 have HKK:=U hkk;clear hkk;go_enter Tryz.func162,Tryz.ntmps162;go_wp2_with fail;go_loopw [16] (fun i wr=>∃k:Nat,∃s,k<=m/\i=.int .i64 (k:Nat)/\V (dN f (l.take k) s0=(0,s)/\Inv s wr)) (fun i _=>m-(intOf i).toNat)
 case atStart=>exact⟨0,s0,aj _,rfl,U ⟨rfl,h0.out⟩⟩
 case round=>
  obtain⟨k,s,hk,rfl,HS⟩:=hrel;have k0:(0:Int)<=(k:Int):=by omega
  rcases ai k m with h|h
  · have k1:(k:Int)<(m:Int):=by omega
    have hkl:k<l.length:=by rw[HL.out];exact h
    have HX:=U (af hkl);have hB:=F.out.below _ _ HS.out.2;obtain⟨b,o,rfl,gD,hG,hcell⟩:=(hl.out.below dH.map hB).rows ik;obtain⟨c,hcs,hat,hR⟩:=hcell.out k hkl;have HC:=U hcs;have jI:=U hB.size;have HR:=U hR;have hcsz:c.size=kk:=by rw[HC.out,HKK.out]
    have cK:=hat.at HKK.out;have bt:Big 179 c.size:=by rw[HC.out];exact Sg
    have ld1:=cK.dW hcsz;have lI:=cK.kg bt;have nD:=cK.kN bt;have st1:=fun(z:Array ag) (hz:z.size=2)=>rD bt (dH.is hR).2 z jc;have st2:=fun(z:Array ag) (hz:z.size=2)=>rE bt (dH.is hR).2 z jc;have rM:=fun(z:Array ag) (hz:z.size=2)=>rC bt (dH.is hR).2 z jc;have sJ:=fun W=>run_loadCellsFrom_new (P:=ae) W 179 c kk hcsz;obtain⟨x,hx⟩:∃x,l[k]=x:=⟨_,rfl⟩
    rw[hx] at HX HR;clear hB hcell hcs hat cK bt hR hx hkl;go_wp2_with fail;refine(hc.out k s x c _ HX.out lU.out HS.out.1 (dH.map.below ((show av wr.heap.size wr _ by exact bl).mono jI.out) HR.out) (F.out.on _ _ _ HS.out.2 bl)).mono ?_;exact yT
  · exact xI
set_option maxRecDepth 100000 in
theorem alq {σ:Type} {w0:ah} {l:List ByteArray} {p:Option Addr} {m c:Nat} (hl:V (Rw 1 dP (Lo w0.heap.size) w0 l p m)) (bnd cap:Array ag) (Inv:σ->ah->Prop) (F:V (qR w0 Inv)) (f:σ->ByteArray->Int×σ) (most:Nat) (t_:(most:Int)<=1000) (s0:σ)
 (hc:V (∀k s x W,l[k]?=some x->l.length<=most->dN f (l.take k) s0=(0,s)->Inv s W->ak ae 69 (bnd.push (.string x)++cap) W (Does Inv (f s x))))
 (W:ah) (h0:V (Inv s0 W)):ak ae 118 #[.slice p m c,.int .i64 (most:Int),.func (.func 69) bnd cap] W (Does Inv (dh f most l s0)):=by
 obtain⟨hlm,hm⟩:=hl.out.len;have HL:=U hlm;have HM:=U hm;by_cases hlt:most<m
 · have HE:=U (show dh f most l s0=(6,s0) by unfold dh;rw[if_pos ik]);have t1:decide (most<m)=true:=decide_eq_true hlt;clear hlm hm;go_enter Tryz.func118,Tryz.ntmps118;exact xJ
 have t1:decide (most<m)=false:=decide_eq_false hlt;have t3:(m:Int)<=1000:=by omega
 have HE:=U (show dh f most l s0=dN f l s0 by unfold dh;rw[if_neg ik]);have lU:=U (show l.length<=most by omega);clear hlm hm;go_enter Tryz.func118,Tryz.ntmps118;go_wp2_with fail;go_loopw [16] (fun i wr=>∃k:Nat,∃s,k<=m/\i=.int .i64 (k:Nat)/\V (dN f (l.take k) s0=(0,s)/\Inv s wr)) (fun i _=>m-(intOf i).toNat)
 case atStart=>exact⟨0,s0,aj _,rfl,U ⟨rfl,h0.out⟩⟩
 case round=>
  obtain⟨k,s,hk,rfl,HS⟩:=hrel;have k0:(0:Int)<=(k:Int):=by omega
  rcases ai k m with h|h
  · have k1:(k:Int)<(m:Int):=by omega
    have hkl:k<l.length:=by rw[HL.out];exact h
    have HX:=U (af hkl);have hB:=F.out.below _ _ HS.out.2;obtain⟨b,o,rfl,gD,hG,hcell⟩:=(hl.out.below dP.map hB).rows ik;obtain⟨c,hcs,hat,hR⟩:=hcell.out k hkl;have HC:=U hcs;have jI:=U hB.size;have HR:V (dP (Lo w0.heap.size) wr l[k] #[.string l[k]]):=U rfl;have e1:w0.heap.size<=w0.heap.size:=Nat.le_refl _;have e0:=hat.get (r:=0) (v:=.string l[k]) (by rw[hR];rfl);rw[show o+k*1+0=o+k by omega] at e0;obtain⟨x,hx⟩:∃x,l[k]=x:=⟨_,rfl⟩
    rw[hx] at HX HR e0;clear hB hcell hcs hat hR hx hkl e1;go_wp2_with fail;refine(hc.out k s x _ HX.out lU.out HS.out.1 (F.out.on _ _ _ HS.out.2 bl)).mono ?_;rintro e w2 ⟨rfl,hI⟩;have HI:=U hI;have HG:=U HS.out.1;obtain⟨r,hr⟩:∃r,f s x=r:=⟨_,rfl⟩
    have HF:=U hr;rw[hr] at HI ⊢;obtain⟨v,s2⟩:=r;clear e0 hI hr;exact agq
  · exact xI
end Md
end Go.Proofs.YtbgodajefaahdaaGreatDoor
