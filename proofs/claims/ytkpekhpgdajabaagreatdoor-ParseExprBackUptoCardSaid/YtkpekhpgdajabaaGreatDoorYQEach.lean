/-
  Parts of this proof: The contracts of checkEach at its types.
-/
import Derived.Test.YtkpekhpgdajabaaGreatDoorYQBase
open Go.Proofs.Tryz
open Go.Proofs.Tryz renaming prog->ae
open List renaming getElem?_eq_getElem->af
open Go.Lib renaming hid->U
open Go renaming Value->ag,World->ah,Calls->ak,sizeOf->au
open Nat renaming lt_or_ge->ai,zero_le->aj
open Go.RowKit renaming Hid->V,Below->av
set_option linter.unusedVariables false
set_option maxRecDepth 100000
set_option maxHeartbeats 2000000
open Go.Lib (hid)
namespace Go.Proofs.YtkpekhpgdajabaaGreatDoor
namespace Md
open Go.RowKit
open Ex (Lo)
theorem fe.below {α:Type} {R:Rec α} (hm:fe R) {B:Nat} {w w2:ah} {x:α} {c:Array ag} (hb:av B w w2) (h:R (Lo B) w x c):R (Lo B) w2 x c:=hm hb.size (fun b g=>fun _=>⟨g,hb.block b g⟩) h
def Does {σ:Type} (Inv:σ->ah->Prop) (r:Int×σ) (e:Ending) (w':ah):Prop:=e=.returned (.int .i64 r.1)/\Inv r.2 w'
structure pX {σ:Type} (w0:ah) (Inv:σ->ah->Prop):Prop where
 below:∀s W,Inv s W->av w0.heap.size w0 W
 on:∀s W W2,Inv s W->av W.heap.size W W2->Inv s W2
theorem acL {p:Prop} (h:p:=by
 by_cases hv:v=0
 · have HN:=U (aiI HX.out HG.out (by rw[HF.out];exact hv));rw[HF.out] at HN;subst hv;go_wp2_with fail;go_roundw
   case rel=>exact⟨k+1,s2,by omega,by go_num,U ⟨HN.out,HI.out⟩⟩
   case measure=>simp[intOf];omega
 · have HN:=U (aiK HX.out HG.out (by rw[HF.out];exact hv));rw[HF.out] at HN;have hz:(v != 0)=true:=bne_iff_ne.2 hv;go_wp2_with fail;go_ret;exact⟨by rw[HE.out,HN.out];rfl,by rw[HE.out,HN.out];exact HI.out⟩
 ):p:=h
theorem xZ {p:Prop} (h:p:=by
 rintro e w2 ⟨rfl,hI⟩;have HI:=U hI;have HG:=U HS.out.1;obtain⟨r,hr⟩:∃r,f s x=r:=⟨_,rfl⟩
 have HF:=U hr;rw[hr] at HI ⊢;obtain⟨v,s2⟩:=r;clear ld1 oU oV wU st1 st2 qB hI hr;exact acL
 ):p:=h
theorem vU {p:Prop} (h:p:=by
 obtain rfl:m=k:=by omega
 have HT:=U (show dJ f l s0=(0,s) by have h1:=HS.out.1;rwa [List.take_of_length_le x_] at h1);go_wp2_with fail;go_ret;exact⟨by rw[HE.out,HT.out];rfl,by rw[HE.out,HT.out];exact HS.out.2⟩
 ):p:=h
theorem vV {p:Prop} (h:p:=by
 go_wp2_with fail;go_ret;exact⟨by rw[HE.out];rfl,by rw[HE.out];exact h0.out⟩
 ):p:=h
theorem iF {p:Prop} (h:p:=by rw[hz,HC.out]):p:=h
theorem gT {p:Prop} (h:p:=by omega):p:=h
theorem ahz {σ:Type} {w0:ah} {l:List Val} {p:Option Addr} {m c:Nat} (hl:V (Rw 3 ik (Lo w0.heap.size) w0 l p m)) (bnd cap:Array ag) (Inv:σ->ah->Prop) (F:V (pX w0 Inv)) (f:σ->Val->Int×σ) (most:Nat) (rM:(most:Int)<=1000) (s0:σ)
 (hc:V (∀k s x c W,l[k]?=some x->l.length<=most->dJ f (l.take k) s0=(0,s)->ik (Lo w0.heap.size) W x c->Inv s W->ak ae 55 (bnd.push (.agg c)++cap) W (Does Inv (f s x))))
 (W:ah) (h0:V (Inv s0 W)):ak ae 54 #[.slice p m c,.int .i64 (most:Int),.func (.func 55) bnd cap] W (Does Inv (df f most l s0)):=by
 obtain⟨hlm,hm⟩:=hl.out.len;have HL:=U hlm;have HM:=U hm;by_cases hlt:most<m
 · have HE:=U (show df f most l s0=(6,s0) by unfold df;rw[if_pos gT]);have t1:decide (most<m)=true:=decide_eq_true hlt;clear hlm hm;go_enter func54,ntmps54;exact vV
 have t1:decide (most<m)=false:=decide_eq_false hlt;have t3:(m:Int)<=1000:=by omega
 have HE:=U (show df f most l s0=dJ f l s0 by unfold df;rw[if_neg gT]);have kJ:=U (show l.length<=most by omega);clear hlm hm;obtain⟨kk,hkk⟩:∃n:Nat,3=n:=⟨_,rfl⟩
 have hsz:∀w,(au 105).run ae w=.ok kk w:=fun w=>by rw[sizeOf105,hkk]
 have HKK:=U hkk;clear hkk;go_enter func54,ntmps54;go_wp2_with fail;go_loopw [16] (fun i wr=>∃k:Nat,∃s,k<=m/\i=.int .i64 (k:Nat)/\V (dJ f (l.take k) s0=(0,s)/\Inv s wr)) (fun i _=>m-(intOf i).toNat)
 case atStart=>exact⟨0,s0,aj _,rfl,U ⟨rfl,h0.out⟩⟩
 case round=>
  obtain⟨k,s,hk,rfl,HS⟩:=hrel;have k0:(0:Int)<=(k:Int):=by omega
  rcases ai k m with h|h
  · have k1:(k:Int)<(m:Int):=by omega
    have hkl:k<l.length:=by rw[HL.out];exact h
    have HX:=U (af hkl);have hB:=F.out.below _ _ HS.out.2;obtain⟨b,o,rfl,lT,hG,hcell⟩:=(hl.out.below ik.map hB).rows gT;obtain⟨c,hcs,hat,hR⟩:=hcell.out k hkl;have HC:=U hcs;have je:=U hB.size;have HR:=U hR;have hcsz:c.size=kk:=by rw[HC.out,HKK.out]
    have dO:=hat.at HKK.out;have bt:Big 105 c.size:=by rw[HC.out];exact Vn
    have ld1:=dO.fZ hcsz;have oU:=dO.sV bt;have oV:=dO.vE bt;have st1:=fun(z:Array ag) (hz:z.size=3)=>xu bt (ik.is hR).2 z iF;have st2:=fun(z:Array ag) (hz:z.size=3)=>xw bt (ik.is hR).2 z iF;have qB:=fun(z:Array ag) (hz:z.size=3)=>xq bt (ik.is hR).2 z iF;have wU:=fun W=>run_loadCellsFrom_new (P:=ae) W 105 c kk hcsz;obtain⟨x,hx⟩:∃x,l[k]=x:=⟨_,rfl⟩
    rw[hx] at HX HR;clear hB hcell hcs hat dO bt hR hx hkl;go_wp2_with fail;refine(hc.out k s x c _ HX.out kJ.out HS.out.1 (ik.map.below ((show av wr.heap.size wr _ by exact bl).mono je.out) HR.out) (F.out.on _ _ _ HS.out.2 bl)).mono ?_;exact xZ
  · exact vU
theorem ahv {σ:Type} {w0:ah} {l:List cz} {p:Option Addr} {m c:Nat} (hl:V (Rw 13 gK (Lo w0.heap.size) w0 l p m)) (bnd cap:Array ag) (Inv:σ->ah->Prop) (F:V (pX w0 Inv)) (f:σ->cz->Int×σ) (most:Nat) (rM:(most:Int)<=1000) (s0:σ)
 (hc:V (∀k s x c W,l[k]?=some x->l.length<=most->dJ f (l.take k) s0=(0,s)->gK (Lo w0.heap.size) W x c->Inv s W->ak ae 93 (bnd.push (.agg c)++cap) W (Does Inv (f s x))))
 (W:ah) (h0:V (Inv s0 W)):ak ae 92 #[.slice p m c,.int .i64 (most:Int),.func (.func 93) bnd cap] W (Does Inv (df f most l s0)):=by
 obtain⟨hlm,hm⟩:=hl.out.len;have HL:=U hlm;have HM:=U hm;by_cases hlt:most<m
 · have HE:=U (show df f most l s0=(6,s0) by unfold df;rw[if_pos gT]);have t1:decide (most<m)=true:=decide_eq_true hlt;clear hlm hm;go_enter func92,ntmps92;exact vV
 have t1:decide (most<m)=false:=decide_eq_false hlt;have t3:(m:Int)<=1000:=by omega
 have HE:=U (show df f most l s0=dJ f l s0 by unfold df;rw[if_neg gT]);have kJ:=U (show l.length<=most by omega);clear hlm hm;obtain⟨kk,hkk⟩:∃n:Nat,13=n:=⟨_,rfl⟩
 have hsz:∀w,(au 54).run ae w=.ok kk w:=fun w=>by rw[sizeOf54,hkk]
 have HKK:=U hkk;clear hkk;go_enter func92,ntmps92;go_wp2_with fail;go_loopw [16] (fun i wr=>∃k:Nat,∃s,k<=m/\i=.int .i64 (k:Nat)/\V (dJ f (l.take k) s0=(0,s)/\Inv s wr)) (fun i _=>m-(intOf i).toNat)
 case atStart=>exact⟨0,s0,aj _,rfl,U ⟨rfl,h0.out⟩⟩
 case round=>
  obtain⟨k,s,hk,rfl,HS⟩:=hrel;have k0:(0:Int)<=(k:Int):=by omega
  rcases ai k m with h|h
  · have k1:(k:Int)<(m:Int):=by omega
    have hkl:k<l.length:=by rw[HL.out];exact h
    have HX:=U (af hkl);have hB:=F.out.below _ _ HS.out.2;obtain⟨b,o,rfl,lT,hG,hcell⟩:=(hl.out.below gK.map hB).rows gT;obtain⟨c,hcs,hat,hR⟩:=hcell.out k hkl;have HC:=U hcs;have je:=U hB.size;have HR:=U hR;have hcsz:c.size=kk:=by rw[HC.out,HKK.out]
    have dO:=hat.at HKK.out;have bt:Big 54 c.size:=by rw[HC.out];exact JX
    have ld1:=dO.fZ hcsz;have oU:=dO.sV bt;have oV:=dO.vE bt;have st1:=fun(z:Array ag) (hz:z.size=13)=>xu bt (gK.is hR).2 z iF;have st2:=fun(z:Array ag) (hz:z.size=13)=>xw bt (gK.is hR).2 z iF;have qB:=fun(z:Array ag) (hz:z.size=13)=>xq bt (gK.is hR).2 z iF;have wU:=fun W=>run_loadCellsFrom_new (P:=ae) W 54 c kk hcsz;obtain⟨x,hx⟩:∃x,l[k]=x:=⟨_,rfl⟩
    rw[hx] at HX HR;clear hB hcell hcs hat dO bt hR hx hkl;go_wp2_with fail;refine(hc.out k s x c _ HX.out kJ.out HS.out.1 (gK.map.below ((show av wr.heap.size wr _ by exact bl).mono je.out) HR.out) (F.out.on _ _ _ HS.out.2 bl)).mono ?_;exact xZ
  · exact vU
theorem ahq {σ:Type} {w0:ah} {l:List iH} {p:Option Addr} {m c:Nat} (hl:V (Rw 3 nC (Lo w0.heap.size) w0 l p m)) (bnd cap:Array ag) (Inv:σ->ah->Prop) (F:V (pX w0 Inv)) (f:σ->iH->Int×σ) (most:Nat) (rM:(most:Int)<=1000) (s0:σ)
 (hc:V (∀k s x c W,l[k]?=some x->l.length<=most->dJ f (l.take k) s0=(0,s)->nC (Lo w0.heap.size) W x c->Inv s W->ak ae 96 (bnd.push (.agg c)++cap) W (Does Inv (f s x))))
 (W:ah) (h0:V (Inv s0 W)):ak ae 95 #[.slice p m c,.int .i64 (most:Int),.func (.func 96) bnd cap] W (Does Inv (df f most l s0)):=by
 obtain⟨hlm,hm⟩:=hl.out.len;have HL:=U hlm;have HM:=U hm;by_cases hlt:most<m
 · have HE:=U (show df f most l s0=(6,s0) by unfold df;rw[if_pos gT]);have t1:decide (most<m)=true:=decide_eq_true hlt;clear hlm hm;go_enter func95,ntmps95;exact vV
 have t1:decide (most<m)=false:=decide_eq_false hlt;have t3:(m:Int)<=1000:=by omega
 have HE:=U (show df f most l s0=dJ f l s0 by unfold df;rw[if_neg gT]);have kJ:=U (show l.length<=most by omega);clear hlm hm;obtain⟨kk,hkk⟩:∃n:Nat,3=n:=⟨_,rfl⟩
 have hsz:∀w,(au 145).run ae w=.ok kk w:=fun w=>by rw[sizeOf145,hkk]
 have HKK:=U hkk;clear hkk;go_enter func95,ntmps95;go_wp2_with fail;go_loopw [16] (fun i wr=>∃k:Nat,∃s,k<=m/\i=.int .i64 (k:Nat)/\V (dJ f (l.take k) s0=(0,s)/\Inv s wr)) (fun i _=>m-(intOf i).toNat)
 case atStart=>exact⟨0,s0,aj _,rfl,U ⟨rfl,h0.out⟩⟩
 case round=>
  obtain⟨k,s,hk,rfl,HS⟩:=hrel;have k0:(0:Int)<=(k:Int):=by omega
  rcases ai k m with h|h
  · have k1:(k:Int)<(m:Int):=by omega
    have hkl:k<l.length:=by rw[HL.out];exact h
    have HX:=U (af hkl);have hB:=F.out.below _ _ HS.out.2;obtain⟨b,o,rfl,lT,hG,hcell⟩:=(hl.out.below nC.map hB).rows gT;obtain⟨c,hcs,hat,hR⟩:=hcell.out k hkl;have HC:=U hcs;have je:=U hB.size;have HR:=U hR;have hcsz:c.size=kk:=by rw[HC.out,HKK.out]
    have dO:=hat.at HKK.out;have bt:Big 145 c.size:=by rw[HC.out];exact aeL
    have ld1:=dO.fZ hcsz;have oU:=dO.sV bt;have oV:=dO.vE bt;have st1:=fun(z:Array ag) (hz:z.size=3)=>xu bt (nC.is hR).2 z iF;have st2:=fun(z:Array ag) (hz:z.size=3)=>xw bt (nC.is hR).2 z iF;have qB:=fun(z:Array ag) (hz:z.size=3)=>xq bt (nC.is hR).2 z iF;have wU:=fun W=>run_loadCellsFrom_new (P:=ae) W 145 c kk hcsz;obtain⟨x,hx⟩:∃x,l[k]=x:=⟨_,rfl⟩
    rw[hx] at HX HR;clear hB hcell hcs hat dO bt hR hx hkl;go_wp2_with fail;refine(hc.out k s x c _ HX.out kJ.out HS.out.1 (nC.map.below ((show av wr.heap.size wr _ by exact bl).mono je.out) HR.out) (F.out.on _ _ _ HS.out.2 bl)).mono ?_;exact xZ
  · exact vU
theorem ahs {σ:Type} {w0:ah} {l:List dm} {p:Option Addr} {m c:Nat} (hl:V (Rw 17 iO (Lo w0.heap.size) w0 l p m)) (bnd cap:Array ag) (Inv:σ->ah->Prop) (F:V (pX w0 Inv)) (f:σ->dm->Int×σ) (most:Nat) (rM:(most:Int)<=1000) (s0:σ)
 (hc:V (∀k s x c W,l[k]?=some x->l.length<=most->dJ f (l.take k) s0=(0,s)->iO (Lo w0.heap.size) W x c->Inv s W->ak ae 132 (bnd.push (.agg c)++cap) W (Does Inv (f s x))))
 (W:ah) (h0:V (Inv s0 W)):ak ae 131 #[.slice p m c,.int .i64 (most:Int),.func (.func 132) bnd cap] W (Does Inv (df f most l s0)):=by
 obtain⟨hlm,hm⟩:=hl.out.len;have HL:=U hlm;have HM:=U hm;by_cases hlt:most<m
 · have HE:=U (show df f most l s0=(6,s0) by unfold df;rw[if_pos gT]);have t1:decide (most<m)=true:=decide_eq_true hlt;clear hlm hm;go_enter func131,ntmps131;exact vV
 have t1:decide (most<m)=false:=decide_eq_false hlt;have t3:(m:Int)<=1000:=by omega
 have HE:=U (show df f most l s0=dJ f l s0 by unfold df;rw[if_neg gT]);have kJ:=U (show l.length<=most by omega);clear hlm hm;obtain⟨kk,hkk⟩:∃n:Nat,17=n:=⟨_,rfl⟩
 have hsz:∀w,(au 199).run ae w=.ok kk w:=fun w=>by rw[sizeOf199,hkk]
 have HKK:=U hkk;clear hkk;go_enter func131,ntmps131;go_wp2_with fail;go_loopw [16] (fun i wr=>∃k:Nat,∃s,k<=m/\i=.int .i64 (k:Nat)/\V (dJ f (l.take k) s0=(0,s)/\Inv s wr)) (fun i _=>m-(intOf i).toNat)
 case atStart=>exact⟨0,s0,aj _,rfl,U ⟨rfl,h0.out⟩⟩
 case round=>
  obtain⟨k,s,hk,rfl,HS⟩:=hrel;have k0:(0:Int)<=(k:Int):=by omega
  rcases ai k m with h|h
  · have k1:(k:Int)<(m:Int):=by omega
    have hkl:k<l.length:=by rw[HL.out];exact h
    have HX:=U (af hkl);have hB:=F.out.below _ _ HS.out.2;obtain⟨b,o,rfl,lT,hG,hcell⟩:=(hl.out.below iO.map hB).rows gT;obtain⟨c,hcs,hat,hR⟩:=hcell.out k hkl;have HC:=U hcs;have je:=U hB.size;have HR:=U hR;have hcsz:c.size=kk:=by rw[HC.out,HKK.out]
    have dO:=hat.at HKK.out;have bt:Big 199 c.size:=by rw[HC.out];exact Az
    have ld1:=dO.fZ hcsz;have oU:=dO.sV bt;have oV:=dO.vE bt;have st1:=fun(z:Array ag) (hz:z.size=17)=>xu bt (iO.is hR).2 z iF;have st2:=fun(z:Array ag) (hz:z.size=17)=>xw bt (iO.is hR).2 z iF;have qB:=fun(z:Array ag) (hz:z.size=17)=>xq bt (iO.is hR).2 z iF;have wU:=fun W=>run_loadCellsFrom_new (P:=ae) W 199 c kk hcsz;obtain⟨x,hx⟩:∃x,l[k]=x:=⟨_,rfl⟩
    rw[hx] at HX HR;clear hB hcell hcs hat dO bt hR hx hkl;go_wp2_with fail;refine(hc.out k s x c _ HX.out kJ.out HS.out.1 (iO.map.below ((show av wr.heap.size wr _ by exact bl).mono je.out) HR.out) (F.out.on _ _ _ HS.out.2 bl)).mono ?_;exact xZ
  · exact vU
theorem ahw {σ:Type} {w0:ah} {l:List jP} {p:Option Addr} {m c:Nat} (hl:V (Rw 3 jY (Lo w0.heap.size) w0 l p m)) (bnd cap:Array ag) (Inv:σ->ah->Prop) (F:V (pX w0 Inv)) (f:σ->jP->Int×σ) (most:Nat) (rM:(most:Int)<=1000) (s0:σ)
 (hc:V (∀k s x c W,l[k]?=some x->l.length<=most->dJ f (l.take k) s0=(0,s)->jY (Lo w0.heap.size) W x c->Inv s W->ak ae 135 (bnd.push (.agg c)++cap) W (Does Inv (f s x))))
 (W:ah) (h0:V (Inv s0 W)):ak ae 134 #[.slice p m c,.int .i64 (most:Int),.func (.func 135) bnd cap] W (Does Inv (df f most l s0)):=by
 obtain⟨hlm,hm⟩:=hl.out.len;have HL:=U hlm;have HM:=U hm;by_cases hlt:most<m
 · have HE:=U (show df f most l s0=(6,s0) by unfold df;rw[if_pos gT]);have t1:decide (most<m)=true:=decide_eq_true hlt;clear hlm hm;go_enter func134,ntmps134;exact vV
 have t1:decide (most<m)=false:=decide_eq_false hlt;have t3:(m:Int)<=1000:=by omega
 have HE:=U (show df f most l s0=dJ f l s0 by unfold df;rw[if_neg gT]);have kJ:=U (show l.length<=most by omega);clear hlm hm;obtain⟨kk,hkk⟩:∃n:Nat,3=n:=⟨_,rfl⟩
 have hsz:∀w,(au 205).run ae w=.ok kk w:=fun w=>by rw[sizeOf205,hkk]
 have HKK:=U hkk;clear hkk;go_enter func134,ntmps134;go_wp2_with fail;go_loopw [16] (fun i wr=>∃k:Nat,∃s,k<=m/\i=.int .i64 (k:Nat)/\V (dJ f (l.take k) s0=(0,s)/\Inv s wr)) (fun i _=>m-(intOf i).toNat)
 case atStart=>exact⟨0,s0,aj _,rfl,U ⟨rfl,h0.out⟩⟩
 case round=>
  obtain⟨k,s,hk,rfl,HS⟩:=hrel;have k0:(0:Int)<=(k:Int):=by omega
  rcases ai k m with h|h
  · have k1:(k:Int)<(m:Int):=by omega
    have hkl:k<l.length:=by rw[HL.out];exact h
    have HX:=U (af hkl);have hB:=F.out.below _ _ HS.out.2;obtain⟨b,o,rfl,lT,hG,hcell⟩:=(hl.out.below jY.map hB).rows gT;obtain⟨c,hcs,hat,hR⟩:=hcell.out k hkl;have HC:=U hcs;have je:=U hB.size;have HR:=U hR;have hcsz:c.size=kk:=by rw[HC.out,HKK.out]
    have dO:=hat.at HKK.out;have bt:Big 205 c.size:=by rw[HC.out];exact Vm
    have ld1:=dO.fZ hcsz;have oU:=dO.sV bt;have oV:=dO.vE bt;have st1:=fun(z:Array ag) (hz:z.size=3)=>xu bt (jY.is hR).2 z iF;have st2:=fun(z:Array ag) (hz:z.size=3)=>xw bt (jY.is hR).2 z iF;have qB:=fun(z:Array ag) (hz:z.size=3)=>xq bt (jY.is hR).2 z iF;have wU:=fun W=>run_loadCellsFrom_new (P:=ae) W 205 c kk hcsz;obtain⟨x,hx⟩:∃x,l[k]=x:=⟨_,rfl⟩
    rw[hx] at HX HR;clear hB hcell hcs hat dO bt hR hx hkl;go_wp2_with fail;refine(hc.out k s x c _ HX.out kJ.out HS.out.1 (jY.map.below ((show av wr.heap.size wr _ by exact bl).mono je.out) HR.out) (F.out.on _ _ _ HS.out.2 bl)).mono ?_;exact xZ
  · exact vU
theorem aho {σ:Type} {w0:ah} {l:List jO} {p:Option Addr} {m c:Nat} (hl:V (Rw 3 jX (Lo w0.heap.size) w0 l p m)) (bnd cap:Array ag) (Inv:σ->ah->Prop) (F:V (pX w0 Inv)) (f:σ->jO->Int×σ) (most:Nat) (rM:(most:Int)<=1000) (s0:σ)
 (hc:V (∀k s x c W,l[k]?=some x->l.length<=most->dJ f (l.take k) s0=(0,s)->jX (Lo w0.heap.size) W x c->Inv s W->ak ae 138 (bnd.push (.agg c)++cap) W (Does Inv (f s x))))
 (W:ah) (h0:V (Inv s0 W)):ak ae 137 #[.slice p m c,.int .i64 (most:Int),.func (.func 138) bnd cap] W (Does Inv (df f most l s0)):=by
 obtain⟨hlm,hm⟩:=hl.out.len;have HL:=U hlm;have HM:=U hm;by_cases hlt:most<m
 · have HE:=U (show df f most l s0=(6,s0) by unfold df;rw[if_pos gT]);have t1:decide (most<m)=true:=decide_eq_true hlt;clear hlm hm;go_enter func137,ntmps137;exact vV
 have t1:decide (most<m)=false:=decide_eq_false hlt;have t3:(m:Int)<=1000:=by omega
 have HE:=U (show df f most l s0=dJ f l s0 by unfold df;rw[if_neg gT]);have kJ:=U (show l.length<=most by omega);clear hlm hm;obtain⟨kk,hkk⟩:∃n:Nat,3=n:=⟨_,rfl⟩
 have hsz:∀w,(au 209).run ae w=.ok kk w:=fun w=>by rw[sizeOf209,hkk]
 have HKK:=U hkk;clear hkk;go_enter func137,ntmps137;go_wp2_with fail;go_loopw [16] (fun i wr=>∃k:Nat,∃s,k<=m/\i=.int .i64 (k:Nat)/\V (dJ f (l.take k) s0=(0,s)/\Inv s wr)) (fun i _=>m-(intOf i).toNat)
 case atStart=>exact⟨0,s0,aj _,rfl,U ⟨rfl,h0.out⟩⟩
 case round=>
  obtain⟨k,s,hk,rfl,HS⟩:=hrel;have k0:(0:Int)<=(k:Int):=by omega
  rcases ai k m with h|h
  · have k1:(k:Int)<(m:Int):=by omega
    have hkl:k<l.length:=by rw[HL.out];exact h
    have HX:=U (af hkl);have hB:=F.out.below _ _ HS.out.2;obtain⟨b,o,rfl,lT,hG,hcell⟩:=(hl.out.below jX.map hB).rows gT;obtain⟨c,hcs,hat,hR⟩:=hcell.out k hkl;have HC:=U hcs;have je:=U hB.size;have HR:=U hR;have hcsz:c.size=kk:=by rw[HC.out,HKK.out]
    have dO:=hat.at HKK.out;have bt:Big 209 c.size:=by rw[HC.out];exact Vl
    have ld1:=dO.fZ hcsz;have oU:=dO.sV bt;have oV:=dO.vE bt;have st1:=fun(z:Array ag) (hz:z.size=3)=>xu bt (jX.is hR).2 z iF;have st2:=fun(z:Array ag) (hz:z.size=3)=>xw bt (jX.is hR).2 z iF;have qB:=fun(z:Array ag) (hz:z.size=3)=>xq bt (jX.is hR).2 z iF;have wU:=fun W=>run_loadCellsFrom_new (P:=ae) W 209 c kk hcsz;obtain⟨x,hx⟩:∃x,l[k]=x:=⟨_,rfl⟩
    rw[hx] at HX HR;clear hB hcell hcs hat dO bt hR hx hkl;go_wp2_with fail;refine(hc.out k s x c _ HX.out kJ.out HS.out.1 (jX.map.below ((show av wr.heap.size wr _ by exact bl).mono je.out) HR.out) (F.out.on _ _ _ HS.out.2 bl)).mono ?_;exact xZ
  · exact vU
theorem aht {σ:Type} {w0:ah} {l:List fo} {p:Option Addr} {m c:Nat} (hl:V (Rw 4 gU (Lo w0.heap.size) w0 l p m)) (bnd cap:Array ag) (Inv:σ->ah->Prop) (F:V (pX w0 Inv)) (f:σ->fo->Int×σ) (most:Nat) (rM:(most:Int)<=1000) (s0:σ)
 (hc:V (∀k s x c W,l[k]?=some x->l.length<=most->dJ f (l.take k) s0=(0,s)->gU (Lo w0.heap.size) W x c->Inv s W->ak ae 142 (bnd.push (.agg c)++cap) W (Does Inv (f s x))))
 (W:ah) (h0:V (Inv s0 W)):ak ae 141 #[.slice p m c,.int .i64 (most:Int),.func (.func 142) bnd cap] W (Does Inv (df f most l s0)):=by
 obtain⟨hlm,hm⟩:=hl.out.len;have HL:=U hlm;have HM:=U hm;by_cases hlt:most<m
 · have HE:=U (show df f most l s0=(6,s0) by unfold df;rw[if_pos gT]);have t1:decide (most<m)=true:=decide_eq_true hlt;clear hlm hm;go_enter func141,ntmps141;exact vV
 have t1:decide (most<m)=false:=decide_eq_false hlt;have t3:(m:Int)<=1000:=by omega
 have HE:=U (show df f most l s0=dJ f l s0 by unfold df;rw[if_neg gT]);have kJ:=U (show l.length<=most by omega);clear hlm hm;obtain⟨kk,hkk⟩:∃n:Nat,4=n:=⟨_,rfl⟩
 have hsz:∀w,(au 215).run ae w=.ok kk w:=fun w=>by rw[sizeOf215,hkk]
 have HKK:=U hkk;clear hkk;go_enter func141,ntmps141;go_wp2_with fail;go_loopw [16] (fun i wr=>∃k:Nat,∃s,k<=m/\i=.int .i64 (k:Nat)/\V (dJ f (l.take k) s0=(0,s)/\Inv s wr)) (fun i _=>m-(intOf i).toNat)
 case atStart=>exact⟨0,s0,aj _,rfl,U ⟨rfl,h0.out⟩⟩
 case round=>
  obtain⟨k,s,hk,rfl,HS⟩:=hrel;have k0:(0:Int)<=(k:Int):=by omega
  rcases ai k m with h|h
  · have k1:(k:Int)<(m:Int):=by omega
    have hkl:k<l.length:=by rw[HL.out];exact h
    have HX:=U (af hkl);have hB:=F.out.below _ _ HS.out.2;obtain⟨b,o,rfl,lT,hG,hcell⟩:=(hl.out.below gU.map hB).rows gT;obtain⟨c,hcs,hat,hR⟩:=hcell.out k hkl;have HC:=U hcs;have je:=U hB.size;have HR:=U hR;have hcsz:c.size=kk:=by rw[HC.out,HKK.out]
    have dO:=hat.at HKK.out;have bt:Big 215 c.size:=by rw[HC.out];exact JV
    have ld1:=dO.fZ hcsz;have oU:=dO.sV bt;have oV:=dO.vE bt;have st1:=fun(z:Array ag) (hz:z.size=4)=>xu bt (gU.is hR).2 z iF;have st2:=fun(z:Array ag) (hz:z.size=4)=>xw bt (gU.is hR).2 z iF;have qB:=fun(z:Array ag) (hz:z.size=4)=>xq bt (gU.is hR).2 z iF;have wU:=fun W=>run_loadCellsFrom_new (P:=ae) W 215 c kk hcsz;obtain⟨x,hx⟩:∃x,l[k]=x:=⟨_,rfl⟩
    rw[hx] at HX HR;clear hB hcell hcs hat dO bt hR hx hkl;go_wp2_with fail;refine(hc.out k s x c _ HX.out kJ.out HS.out.1 (gU.map.below ((show av wr.heap.size wr _ by exact bl).mono je.out) HR.out) (F.out.on _ _ _ HS.out.2 bl)).mono ?_;exact xZ
  · exact vU
theorem ahu {σ:Type} {w0:ah} {l:List iP} {p:Option Addr} {m c:Nat} (hl:V (Rw 5 kN (Lo w0.heap.size) w0 l p m)) (bnd cap:Array ag) (Inv:σ->ah->Prop) (F:V (pX w0 Inv)) (f:σ->iP->Int×σ) (most:Nat) (rM:(most:Int)<=1000) (s0:σ)
 (hc:V (∀k s x c W,l[k]?=some x->l.length<=most->dJ f (l.take k) s0=(0,s)->kN (Lo w0.heap.size) W x c->Inv s W->ak ae 145 (bnd.push (.agg c)++cap) W (Does Inv (f s x))))
 (W:ah) (h0:V (Inv s0 W)):ak ae 144 #[.slice p m c,.int .i64 (most:Int),.func (.func 145) bnd cap] W (Does Inv (df f most l s0)):=by
 obtain⟨hlm,hm⟩:=hl.out.len;have HL:=U hlm;have HM:=U hm;by_cases hlt:most<m
 · have HE:=U (show df f most l s0=(6,s0) by unfold df;rw[if_pos gT]);have t1:decide (most<m)=true:=decide_eq_true hlt;clear hlm hm;go_enter func144,ntmps144;exact vV
 have t1:decide (most<m)=false:=decide_eq_false hlt;have t3:(m:Int)<=1000:=by omega
 have HE:=U (show df f most l s0=dJ f l s0 by unfold df;rw[if_neg gT]);have kJ:=U (show l.length<=most by omega);clear hlm hm;obtain⟨kk,hkk⟩:∃n:Nat,5=n:=⟨_,rfl⟩
 have hsz:∀w,(au 219).run ae w=.ok kk w:=fun w=>by rw[sizeOf219,hkk]
 have HKK:=U hkk;clear hkk;go_enter func144,ntmps144;go_wp2_with fail;go_loopw [16] (fun i wr=>∃k:Nat,∃s,k<=m/\i=.int .i64 (k:Nat)/\V (dJ f (l.take k) s0=(0,s)/\Inv s wr)) (fun i _=>m-(intOf i).toNat)
 case atStart=>exact⟨0,s0,aj _,rfl,U ⟨rfl,h0.out⟩⟩
 case round=>
  obtain⟨k,s,hk,rfl,HS⟩:=hrel;have k0:(0:Int)<=(k:Int):=by omega
  rcases ai k m with h|h
  · have k1:(k:Int)<(m:Int):=by omega
    have hkl:k<l.length:=by rw[HL.out];exact h
    have HX:=U (af hkl);have hB:=F.out.below _ _ HS.out.2;obtain⟨b,o,rfl,lT,hG,hcell⟩:=(hl.out.below kN.map hB).rows gT;obtain⟨c,hcs,hat,hR⟩:=hcell.out k hkl;have HC:=U hcs;have je:=U hB.size;have HR:=U hR;have hcsz:c.size=kk:=by rw[HC.out,HKK.out]
    have dO:=hat.at HKK.out;have bt:Big 219 c.size:=by rw[HC.out];exact JW
    have ld1:=dO.fZ hcsz;have oU:=dO.sV bt;have oV:=dO.vE bt;have st1:=fun(z:Array ag) (hz:z.size=5)=>xu bt (kN.is hR).2 z iF;have st2:=fun(z:Array ag) (hz:z.size=5)=>xw bt (kN.is hR).2 z iF;have qB:=fun(z:Array ag) (hz:z.size=5)=>xq bt (kN.is hR).2 z iF;have wU:=fun W=>run_loadCellsFrom_new (P:=ae) W 219 c kk hcsz;obtain⟨x,hx⟩:∃x,l[k]=x:=⟨_,rfl⟩
    rw[hx] at HX HR;clear hB hcell hcs hat dO bt hR hx hkl;go_wp2_with fail;refine(hc.out k s x c _ HX.out kJ.out HS.out.1 (kN.map.below ((show av wr.heap.size wr _ by exact bl).mono je.out) HR.out) (F.out.on _ _ _ HS.out.2 bl)).mono ?_;exact xZ
  · exact vU
theorem ahr {σ:Type} {w0:ah} {l:List Lw} {p:Option Addr} {m c:Nat} (hl:V (Rw 3 kL (Lo w0.heap.size) w0 l p m)) (bnd cap:Array ag) (Inv:σ->ah->Prop) (F:V (pX w0 Inv)) (f:σ->Lw->Int×σ) (most:Nat) (rM:(most:Int)<=1000) (s0:σ)
 (hc:V (∀k s x c W,l[k]?=some x->l.length<=most->dJ f (l.take k) s0=(0,s)->kL (Lo w0.heap.size) W x c->Inv s W->ak ae 182 (bnd.push (.agg c)++cap) W (Does Inv (f s x))))
 (W:ah) (h0:V (Inv s0 W)):ak ae 181 #[.slice p m c,.int .i64 (most:Int),.func (.func 182) bnd cap] W (Does Inv (df f most l s0)):=by
 obtain⟨hlm,hm⟩:=hl.out.len;have HL:=U hlm;have HM:=U hm;by_cases hlt:most<m
 · have HE:=U (show df f most l s0=(6,s0) by unfold df;rw[if_pos gT]);have t1:decide (most<m)=true:=decide_eq_true hlt;clear hlm hm;go_enter func181,ntmps181;exact vV
 have t1:decide (most<m)=false:=decide_eq_false hlt;have t3:(m:Int)<=1000:=by omega
 have HE:=U (show df f most l s0=dJ f l s0 by unfold df;rw[if_neg gT]);have kJ:=U (show l.length<=most by omega);clear hlm hm;obtain⟨kk,hkk⟩:∃n:Nat,3=n:=⟨_,rfl⟩
 have hsz:∀w,(au 241).run ae w=.ok kk w:=fun w=>by rw[sizeOf241,hkk]
 have HKK:=U hkk;clear hkk;go_enter func181,ntmps181;go_wp2_with fail;go_loopw [16] (fun i wr=>∃k:Nat,∃s,k<=m/\i=.int .i64 (k:Nat)/\V (dJ f (l.take k) s0=(0,s)/\Inv s wr)) (fun i _=>m-(intOf i).toNat)
 case atStart=>exact⟨0,s0,aj _,rfl,U ⟨rfl,h0.out⟩⟩
 case round=>
  obtain⟨k,s,hk,rfl,HS⟩:=hrel;have k0:(0:Int)<=(k:Int):=by omega
  rcases ai k m with h|h
  · have k1:(k:Int)<(m:Int):=by omega
    have hkl:k<l.length:=by rw[HL.out];exact h
    have HX:=U (af hkl);have hB:=F.out.below _ _ HS.out.2;obtain⟨b,o,rfl,lT,hG,hcell⟩:=(hl.out.below kL.map hB).rows gT;obtain⟨c,hcs,hat,hR⟩:=hcell.out k hkl;have HC:=U hcs;have je:=U hB.size;have HR:=U hR;have hcsz:c.size=kk:=by rw[HC.out,HKK.out]
    have dO:=hat.at HKK.out;have bt:Big 241 c.size:=by rw[HC.out];exact JU
    have ld1:=dO.fZ hcsz;have oU:=dO.sV bt;have oV:=dO.vE bt;have st1:=fun(z:Array ag) (hz:z.size=3)=>xu bt (kL.is hR).2 z iF;have st2:=fun(z:Array ag) (hz:z.size=3)=>xw bt (kL.is hR).2 z iF;have qB:=fun(z:Array ag) (hz:z.size=3)=>xq bt (kL.is hR).2 z iF;have wU:=fun W=>run_loadCellsFrom_new (P:=ae) W 241 c kk hcsz;obtain⟨x,hx⟩:∃x,l[k]=x:=⟨_,rfl⟩
    rw[hx] at HX HR;clear hB hcell hcs hat dO bt hR hx hkl;go_wp2_with fail;refine(hc.out k s x c _ HX.out kJ.out HS.out.1 (kL.map.below ((show av wr.heap.size wr _ by exact bl).mono je.out) HR.out) (F.out.on _ _ _ HS.out.2 bl)).mono ?_;exact xZ
  · exact vU
theorem ahx {σ:Type} {w0:ah} {l:List jg} {p:Option Addr} {m c:Nat} (hl:V (Rw 3 jk (Lo w0.heap.size) w0 l p m)) (bnd cap:Array ag) (Inv:σ->ah->Prop) (F:V (pX w0 Inv)) (f:σ->jg->Int×σ) (most:Nat) (rM:(most:Int)<=1000) (s0:σ)
 (hc:V (∀k s x c W,l[k]?=some x->l.length<=most->dJ f (l.take k) s0=(0,s)->jk (Lo w0.heap.size) W x c->Inv s W->ak ae 208 (bnd.push (.agg c)++cap) W (Does Inv (f s x))))
 (W:ah) (h0:V (Inv s0 W)):ak ae 207 #[.slice p m c,.int .i64 (most:Int),.func (.func 208) bnd cap] W (Does Inv (df f most l s0)):=by
 obtain⟨hlm,hm⟩:=hl.out.len;have HL:=U hlm;have HM:=U hm;by_cases hlt:most<m
 · have HE:=U (show df f most l s0=(6,s0) by unfold df;rw[if_pos gT]);have t1:decide (most<m)=true:=decide_eq_true hlt;clear hlm hm;go_enter func207,ntmps207;exact vV
 have t1:decide (most<m)=false:=decide_eq_false hlt;have t3:(m:Int)<=1000:=by omega
 have HE:=U (show df f most l s0=dJ f l s0 by unfold df;rw[if_neg gT]);have kJ:=U (show l.length<=most by omega);clear hlm hm;obtain⟨kk,hkk⟩:∃n:Nat,3=n:=⟨_,rfl⟩
 have hsz:∀w,(au 268).run ae w=.ok kk w:=fun w=>by rw[sizeOf268,hkk]
 have HKK:=U hkk;clear hkk;go_enter func207,ntmps207;go_wp2_with fail;go_loopw [16] (fun i wr=>∃k:Nat,∃s,k<=m/\i=.int .i64 (k:Nat)/\V (dJ f (l.take k) s0=(0,s)/\Inv s wr)) (fun i _=>m-(intOf i).toNat)
 case atStart=>exact⟨0,s0,aj _,rfl,U ⟨rfl,h0.out⟩⟩
 case round=>
  obtain⟨k,s,hk,rfl,HS⟩:=hrel;have k0:(0:Int)<=(k:Int):=by omega
  rcases ai k m with h|h
  · have k1:(k:Int)<(m:Int):=by omega
    have hkl:k<l.length:=by rw[HL.out];exact h
    have HX:=U (af hkl);have hB:=F.out.below _ _ HS.out.2;obtain⟨b,o,rfl,lT,hG,hcell⟩:=(hl.out.below jk.map hB).rows gT;obtain⟨c,hcs,hat,hR⟩:=hcell.out k hkl;have HC:=U hcs;have je:=U hB.size;have HR:=U hR;have hcsz:c.size=kk:=by rw[HC.out,HKK.out]
    have dO:=hat.at HKK.out;have bt:Big 268 c.size:=by rw[HC.out];exact aeN
    have ld1:=dO.fZ hcsz;have oU:=dO.sV bt;have oV:=dO.vE bt;have st1:=fun(z:Array ag) (hz:z.size=3)=>xu bt (jk.is hR).2 z iF;have st2:=fun(z:Array ag) (hz:z.size=3)=>xw bt (jk.is hR).2 z iF;have qB:=fun(z:Array ag) (hz:z.size=3)=>xq bt (jk.is hR).2 z iF;have wU:=fun W=>run_loadCellsFrom_new (P:=ae) W 268 c kk hcsz;obtain⟨x,hx⟩:∃x,l[k]=x:=⟨_,rfl⟩
    rw[hx] at HX HR;clear hB hcell hcs hat dO bt hR hx hkl;go_wp2_with fail;refine(hc.out k s x c _ HX.out kJ.out HS.out.1 (jk.map.below ((show av wr.heap.size wr _ by exact bl).mono je.out) HR.out) (F.out.on _ _ _ HS.out.2 bl)).mono ?_;exact xZ
  · exact vU
theorem ahp {σ:Type} {w0:ah} {l:List eO} {p:Option Addr} {m c:Nat} (hl:V (Rw 2 dE (Lo w0.heap.size) w0 l p m)) (bnd cap:Array ag) (Inv:σ->ah->Prop) (F:V (pX w0 Inv)) (f:σ->eO->Int×σ) (most:Nat) (rM:(most:Int)<=1000) (s0:σ)
 (hc:V (∀k s x c W,l[k]?=some x->l.length<=most->dJ f (l.take k) s0=(0,s)->dE (Lo w0.heap.size) W x c->Inv s W->ak ae 179 (bnd.push (.agg c)++cap) W (Does Inv (f s x))))
 (W:ah) (h0:V (Inv s0 W)):ak ae 178 #[.slice p m c,.int .i64 (most:Int),.func (.func 179) bnd cap] W (Does Inv (df f most l s0)):=by
 obtain⟨hlm,hm⟩:=hl.out.len;have HL:=U hlm;have HM:=U hm;by_cases hlt:most<m
 · have HE:=U (show df f most l s0=(6,s0) by unfold df;rw[if_pos gT]);have t1:decide (most<m)=true:=decide_eq_true hlt;clear hlm hm;go_enter func178,ntmps178;exact vV
 have t1:decide (most<m)=false:=decide_eq_false hlt;have t3:(m:Int)<=1000:=by omega
 have HE:=U (show df f most l s0=dJ f l s0 by unfold df;rw[if_neg gT]);have kJ:=U (show l.length<=most by omega);clear hlm hm;obtain⟨kk,hkk⟩:∃n:Nat,2=n:=⟨_,rfl⟩
 have hsz:∀w,(au 247).run ae w=.ok kk w:=fun w=>by rw[sizeOf247,hkk]
 have HKK:=U hkk;clear hkk;go_enter func178,ntmps178;go_wp2_with fail;go_loopw [16] (fun i wr=>∃k:Nat,∃s,k<=m/\i=.int .i64 (k:Nat)/\V (dJ f (l.take k) s0=(0,s)/\Inv s wr)) (fun i _=>m-(intOf i).toNat)
 case atStart=>exact⟨0,s0,aj _,rfl,U ⟨rfl,h0.out⟩⟩
 case round=>
  obtain⟨k,s,hk,rfl,HS⟩:=hrel;have k0:(0:Int)<=(k:Int):=by omega
  rcases ai k m with h|h
  · have k1:(k:Int)<(m:Int):=by omega
    have hkl:k<l.length:=by rw[HL.out];exact h
    have HX:=U (af hkl);have hB:=F.out.below _ _ HS.out.2;obtain⟨b,o,rfl,lT,hG,hcell⟩:=(hl.out.below dE.map hB).rows gT;obtain⟨c,hcs,hat,hR⟩:=hcell.out k hkl;have HC:=U hcs;have je:=U hB.size;have HR:=U hR;have hcsz:c.size=kk:=by rw[HC.out,HKK.out]
    have dO:=hat.at HKK.out;have bt:Big 247 c.size:=by rw[HC.out];exact aeJ
    have ld1:=dO.fZ hcsz;have oU:=dO.sV bt;have oV:=dO.vE bt;have st1:=fun(z:Array ag) (hz:z.size=2)=>xu bt (dE.is hR).2 z iF;have st2:=fun(z:Array ag) (hz:z.size=2)=>xw bt (dE.is hR).2 z iF;have qB:=fun(z:Array ag) (hz:z.size=2)=>xq bt (dE.is hR).2 z iF;have wU:=fun W=>run_loadCellsFrom_new (P:=ae) W 247 c kk hcsz;obtain⟨x,hx⟩:∃x,l[k]=x:=⟨_,rfl⟩
    rw[hx] at HX HR;clear hB hcell hcs hat dO bt hR hx hkl;go_wp2_with fail;refine(hc.out k s x c _ HX.out kJ.out HS.out.1 (dE.map.below ((show av wr.heap.size wr _ by exact bl).mono je.out) HR.out) (F.out.on _ _ _ HS.out.2 bl)).mono ?_;exact xZ
  · exact vU
theorem ahy {σ:Type} {w0:ah} {l:List ByteArray} {p:Option Addr} {m c:Nat} (hl:V (Rw 1 dU (Lo w0.heap.size) w0 l p m)) (bnd cap:Array ag) (Inv:σ->ah->Prop) (F:V (pX w0 Inv)) (f:σ->ByteArray->Int×σ) (most:Nat) (rM:(most:Int)<=1000) (s0:σ)
 (hc:V (∀k s x W,l[k]?=some x->l.length<=most->dJ f (l.take k) s0=(0,s)->Inv s W->ak ae 89 (bnd.push (.string x)++cap) W (Does Inv (f s x))))
 (W:ah) (h0:V (Inv s0 W)):ak ae 140 #[.slice p m c,.int .i64 (most:Int),.func (.func 89) bnd cap] W (Does Inv (df f most l s0)):=by
 obtain⟨hlm,hm⟩:=hl.out.len;have HL:=U hlm;have HM:=U hm;by_cases hlt:most<m
 · have HE:=U (show df f most l s0=(6,s0) by unfold df;rw[if_pos gT]);have t1:decide (most<m)=true:=decide_eq_true hlt;clear hlm hm;go_enter func140,ntmps140;exact vV
 have t1:decide (most<m)=false:=decide_eq_false hlt;have t3:(m:Int)<=1000:=by omega
 have HE:=U (show df f most l s0=dJ f l s0 by unfold df;rw[if_neg gT]);have kJ:=U (show l.length<=most by omega);clear hlm hm;go_enter func140,ntmps140;go_wp2_with fail;go_loopw [16] (fun i wr=>∃k:Nat,∃s,k<=m/\i=.int .i64 (k:Nat)/\V (dJ f (l.take k) s0=(0,s)/\Inv s wr)) (fun i _=>m-(intOf i).toNat)
 case atStart=>exact⟨0,s0,aj _,rfl,U ⟨rfl,h0.out⟩⟩
 case round=>
  obtain⟨k,s,hk,rfl,HS⟩:=hrel;have k0:(0:Int)<=(k:Int):=by omega
  rcases ai k m with h|h
  · have k1:(k:Int)<(m:Int):=by omega
    have hkl:k<l.length:=by rw[HL.out];exact h
    have HX:=U (af hkl);have hB:=F.out.below _ _ HS.out.2;obtain⟨b,o,rfl,lT,hG,hcell⟩:=(hl.out.below dU.map hB).rows gT;obtain⟨c,hcs,hat,hR⟩:=hcell.out k hkl;have HC:=U hcs;have je:=U hB.size;have HR:V (dU (Lo w0.heap.size) wr l[k] #[.string l[k]]):=U rfl;have e1:w0.heap.size<=w0.heap.size:=Nat.le_refl _;have e0:=hat.get (r:=0) (v:=.string l[k]) (by rw[hR];rfl);rw[show o+k*1+0=o+k by omega] at e0;obtain⟨x,hx⟩:∃x,l[k]=x:=⟨_,rfl⟩
    rw[hx] at HX HR e0;clear hB hcell hcs hat hR hx hkl e1;go_wp2_with fail;refine(hc.out k s x _ HX.out kJ.out HS.out.1 (F.out.on _ _ _ HS.out.2 bl)).mono ?_;rintro e w2 ⟨rfl,hI⟩;have HI:=U hI;have HG:=U HS.out.1;obtain⟨r,hr⟩:∃r,f s x=r:=⟨_,rfl⟩
    have HF:=U hr;rw[hr] at HI ⊢;obtain⟨v,s2⟩:=r;clear e0 hI hr;exact acL
  · exact vU
end Md
end Go.Proofs.YtkpekhpgdajabaaGreatDoor
