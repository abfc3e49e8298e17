/-
  Parts of this proof: The contracts of usage, of checkUsed at its four. The contracts of the closures that declare a nam. The contracts of sameFault and checkFault. The contract of checkResource.
-/
import Derived.Test.YthnillhnjhalmaaGreatDoorYECheckN
import Derived.Test.YthnillhnjhalmaaGreatDoorYTRou
import Derived.Test.YthnillhnjhalmaaGreatDoorYESame
import Derived.Test.YthnillhnjhalmaaGreatDoorYQSch
open Go.Proofs.Tryz
open Go.Proofs.Tryz renaming prog->ae
open Option renaming some->U,none->V
open Go renaming loadCellsFrom->af,Calls->ag,World->ah
open Go.Lib renaming hid->X
open Go.RowKit renaming Below->ai
set_option linter.unusedVariables false
set_option maxRecDepth 100000
set_option maxHeartbeats 4000000
open Go.Lib (hid)
namespace Go.Proofs.YthnillhnjhalmaaGreatDoor
namespace Sm
open Go.RowKit
open Ex (Ex In Sz Gives fU nZ)
attribute [local go_sem] cs0 cs1 cs2 wo wu wy wB wC wD wE vQ vR vS vT vU vV vW vX vY vZ v_
abbrev yM (o:Int):Value:=.agg #[.bool (uN o),.bool (uO o),.bool (uE o),.bool (uF o),.bool (uA o),.bool (uD o),.bool (uG o),.bool (uB o),.bool (uL o)]
theorem amo (o:Int):(o=1∨o=2∨o=3∨o=4∨o=5∨o=6∨o=7∨o=8∨o=9∨o=10∨o=11∨o=12∨o=13∨o=14∨o=15∨o=16∨o=17∨o=18)∨(o<1∨18<o):=by omega
theorem aqB {p:Prop} (h:p:=by omega):p:=h
theorem UY (o:Int) (w:ah):ag ae 106 #[.int .i64 o] w (Gives (.tuple #[yM o,.bool (kn o)]) w):=by
 rcases amo o with h|h
 · rcases h with rfl|rfl|rfl|rfl|rfl|rfl|rfl|rfl|rfl|rfl|rfl|rfl|rfl|rfl|rfl|rfl|rfl|rfl
   all_goals
    go_enter func106,ntmps106;go_wp2_with fail;exact bodyPost_ret (v:=.tuple #[yM _,.bool (kn _)]) (by simp[results,results106,go_sem,yM,uN,uO,uE,uF,uA,uD,uG,uB,uL,kn]) rfl ⟨rfl,bl⟩
 · have hk:kn o=false:=by unfold kn;rcases h with h|h <;> simp <;> omega
   have e0:yM o=.agg #[.bool false,.bool false,.bool false,.bool false,.bool false,.bool false,.bool false,.bool false,.bool false]:=by
    have a1:uN o=false:=by unfold uN;exact decide_eq_false aqB
    have a2:uO o=false:=by unfold uO;exact decide_eq_false aqB
    have a3:uE o=false:=by unfold uE;exact decide_eq_false aqB
    have a4:uF o=false:=by unfold uF;exact decide_eq_false aqB
    have a5:uA o=false:=by unfold uA;exact decide_eq_false aqB
    have a6:uD o=false:=by unfold uD;exact decide_eq_false aqB
    have a7:uG o=false:=by unfold uG;exact decide_eq_false aqB
    have a8:uB o=false:=by unfold uB;exact decide_eq_false aqB
    have a9:uL o=false:=by unfold uL;exact decide_eq_false aqB
    show Value.agg _=_
    rw[a1,a2,a3,a4,a5,a6,a7,a8,a9]
   rw[hk,e0];have u1:(o==1)=false:=beq_eq_false_iff_ne.2 aqB;have u2:(o==2)=false:=beq_eq_false_iff_ne.2 aqB;have u3:(o==3)=false:=beq_eq_false_iff_ne.2 aqB;have u4:(o==4)=false:=beq_eq_false_iff_ne.2 aqB;have u5:(o==5)=false:=beq_eq_false_iff_ne.2 aqB;have u6:(o==6)=false:=beq_eq_false_iff_ne.2 aqB;have u7:(o==7)=false:=beq_eq_false_iff_ne.2 aqB;have u8:(o==8)=false:=beq_eq_false_iff_ne.2 aqB;have u9:(o==9)=false:=beq_eq_false_iff_ne.2 aqB;have jy:(o==10)=false:=beq_eq_false_iff_ne.2 aqB;have kC:(o==11)=false:=beq_eq_false_iff_ne.2 aqB;have l_:(o==12)=false:=beq_eq_false_iff_ne.2 aqB;have lK:(o==13)=false:=beq_eq_false_iff_ne.2 aqB;have mU:(o==14)=false:=beq_eq_false_iff_ne.2 aqB;have mV:(o==15)=false:=beq_eq_false_iff_ne.2 aqB;have u16:(o==16)=false:=beq_eq_false_iff_ne.2 aqB;have mW:(o==17)=false:=beq_eq_false_iff_ne.2 aqB;have mX:(o==18)=false:=beq_eq_false_iff_ne.2 aqB;clear h hk e0;go_enter func106,ntmps106;go_wp2_with fail;exact bodyPost_ret (v:=.tuple #[.agg #[.bool false,.bool false,.bool false,.bool false,.bool false,.bool false,.bool false,.bool false,.bool false],.bool false]) (by simp[results,results106,go_sem]) rfl ⟨rfl,bl⟩
theorem arD {p:Prop} (h:p:=by
 go_wp2_with fail;refine((C).out _ bl).mono ?_;exact KY
 ):p:=h
theorem adt (u:Bool) (s:ByteArray) (v:Int) (w:ah) (C:Hid (u=true->∀W,ai w.heap.size w W->ag ae 50 #[.string s] W (Gives (.int .i64 v) W))):ag ae 108 #[.bool u,.func (.func 50) #[] #[],.string s] w (Gives (.int .i64 (onE u v)) w):=by
 cases u with
 | false=>
  clear C;go_enter func108,ntmps108;exact dS
 | true=>
  replace C:=X ((C).out rfl);go_enter func108,ntmps108;exact arD
theorem ads (u:Bool) (e:Ex) (p:Option Addr) (m c:Nat) (v:Int) (w:ah) (C:Hid (u=true->∀W,ai w.heap.size w W->ag ae 13 #[.agg #[.int .i64 e.o,.string e.s,.int .i64 e.n,.slice p m c]] W (Gives (.int .i64 v) W))):ag ae 109 #[.bool u,.func (.func 13) #[] #[],.agg #[.int .i64 e.o,.string e.s,.int .i64 e.n,.slice p m c]] w (Gives (.int .i64 (onE u v)) w):=by
 cases u with
 | false=>
  clear C;go_enter func109,ntmps109;exact dS
 | true=>
  replace C:=X ((C).out rfl);go_enter func109,ntmps109;exact arD
theorem ap_ (u:Bool) (p:Option Addr) (m c:Nat) (v:Int) (w:ah) (C:Hid (u=true->∀W,ai w.heap.size w W->ag ae 111 #[.slice p m c] W (Gives (.int .i64 v) W))):ag ae 110 #[.bool u,.func (.func 111) #[] #[],.slice p m c] w (Gives (.int .i64 (onE u v)) w):=by
 cases u with
 | false=>
  clear C;go_enter func110,ntmps110;exact dS
 | true=>
  replace C:=X ((C).out rfl);go_enter func110,ntmps110;exact arD
theorem aqa (u:Bool) (x:St) (P:Pl) (v:Int) (w:ah) (C:Hid (u=true->∀W,ai w.heap.size w W->ag ae 113 #[.agg #[.int .i64 x.di.op,.int .i64 x.di.a,.int .i64 x.di.b,.int .i64 x.di.n,.slice P.vp P.vm P.vc,.slice P.wp P.wm P.wc]] W (Gives (.int .i64 v) W))):ag ae 112 #[.bool u,.func (.func 113) #[] #[],.agg #[.int .i64 x.di.op,.int .i64 x.di.a,.int .i64 x.di.b,.int .i64 x.di.n,.slice P.vp P.vm P.vc,.slice P.wp P.wm P.wc]] w (Gives (.int .i64 (onE u v)) w):=by
 cases u with
 | false=>
  clear C;go_enter func112,ntmps112;exact dS
 | true=>
  replace C:=X ((C).out rfl);go_enter func112,ntmps112;exact arD
def ic:List Int->Int
 | []=>0
 | x::t=>dQ x (ic t)
theorem NB:∀a b:List Int,ic (a++b)=dQ (ic a) (ic b)
 | [],b=>kV.symm
 | x::t,b=>by rw[List.cons_append,ic,ic,NB t b,BX]
theorem oL (l:List Int) (b n c:Nat) (w:ah) (hl:l.length=n) (hn:n<=1000000) (hc:Hid (∀i,(h:i<l.length)->w.cell? ⟨b,i,V⟩=U (.int .i64 l[i]))):ag ae 49 #[.slice (U ⟨b,0,V⟩) n c] w fun e w'=>e=.returned (.int .i64 (ic l))/\w=w':=by
 have HL:=X hl;clear hl;go_enter func49,ntmps49;go_wp2_with fail;go_loop [8] (fun i=>∃k:Nat,k<=n/\i=.int .i64 k/\Hid (ic (l.take k)=0)) (fun i=>n-(intOf i).toNat)
 case atStart=>exact⟨0,Nat.zero_le _,rfl,X rfl⟩
 case round=>
  obtain⟨k,hk,rfl,HA⟩:=hrel;rcases Nat.lt_or_ge k n with h|h
  · have hkl:k<l.length:=by rw[HL.out];exact h
    have e1:=hc.out k hkl;have e0:w.cell? ⟨b,0+k,V⟩=U (.int .i64 l[k]):=by rw[Nat.zero_add];exact e1
    have c1:(0:Int)<=(k:Int):=by omega
    have c2:(k:Int)<(n:Int):=by omega
    have hgx:l[k]?=U l[k]:=List.getElem?_eq_getElem hkl;obtain⟨x,hx⟩:∃x,l[k]=x:=⟨_,rfl⟩
    rw[hx] at e1 e0 hgx;by_cases hz:x=0
    · have H:Hid (ic (l.take (k+1))=0):=X (by rw[Ex.take_one hgx,NB,HA.out,kV,hz];rfl);subst hz;clear hgx hx hkl;go_wp2_with fail;go_round
      case rel=>exact⟨k+1,by omega,by go_num,H⟩
      case measure=>simp[intOf];omega
    · have hz2:(x != 0)=true:=by rw[bne_iff_ne];exact hz
      have H:Hid (ic l=x):=X (by
       have h2:=NB (l.take (k+1)) (l.drop (k+1));rw[List.take_append_drop,Ex.take_one hgx,NB,HA.out,kV] at h2;rw[h2]
       show dQ (dQ x 0) _=x
       rw[tH,tF hz])
      clear hgx hx hkl hz;go_wp2_with fail;go_ret;exact⟨nZ H.out.symm,rfl⟩
  · obtain rfl:n=k:=by omega
    have H:Hid (ic l=0):=X (by have h1:=HA.out;rwa [List.take_of_length_le t_] at h1);go_wp2_with fail;go_ret;exact⟨nZ H.out.symm,rfl⟩
theorem aqj {e:Ex} {v:Int} (h:fU false e=v) (p:Option Addr) (m c:Nat) (w:ah) (hi:In w e p m) (hs:Sz e) (hc:Ex.cnt e<=1000000):ag ae 13 #[.agg #[.int .i64 e.o,.string e.s,.int .i64 e.n,.slice p m c]] w (Gives (.int .i64 v) w):=by rw[← h];exact Ex.oC e p m c w hi hs hc
theorem agc (l:List Ex) (p:Option Addr) (m c:Nat) (w:ah) (h:In w (.mk 0 nE 0 l) p m) (hs:∀y∈l,Sz y/\Ex.cnt y<=1000000):ag ae 111 #[.slice p m c] w (Gives (.int .i64 (Dj l)) w):=by
 have HH:=X h;have HS:=X hs;obtain⟨hl,hm⟩:=h.len;have HL:=X hl;clear h hs hl;by_cases h6:6<m
 · rw[show Dj l=6 by unfold Dj;rw[HL.out,if_pos h6]];have t1:decide ((6:Int)<(m:Int))=true:=decide_eq_true aqB;have t2:(6:Int)<(m:Int):=by omega
   go_enter func111,ntmps111;exact dS
 rw[show Dj l=o8 l by unfold Dj;rw[HL.out,if_neg h6]];have t1:decide ((6:Int)<(m:Int))=false:=decide_eq_false aqB;have t2:(m:Int)<=6:=by omega
 go_enter func111,ntmps111;go_wp2_with fail;go_loopw [11] (fun i wr=>∃k:Nat,k<=m/\Hid (o8 (l.take k)=0)/\i=.int .i64 (k:Nat)/\Hid (ai w.heap.size w wr)) (fun i _=>m-(intOf i).toNat)
 case atStart=>exact⟨0,Nat.zero_le _,X rfl,rfl,X bl⟩
 case round=>
  obtain⟨k,hk,HT0,rfl,HW⟩:=hrel;have k0:(0:Int)<=(k:Int):=by omega
  rcases Nat.lt_or_ge k m with h|h
  · have k1:(k:Int)<(m:Int):=by omega
    obtain⟨b,o',rfl,-,hG,hcell⟩:=HH.out.kids aqB;have hkl:k<l.length:=by rw[HL.out];omega
    obtain⟨q,j,c',hc4,dP⟩:=hcell.out k hkl;have hmem:l[k]∈l:=List.getElem_mem hkl;have hgx:l[k]?=U l[k]:=List.getElem?_eq_getElem hkl;obtain⟨x,hx⟩:∃x,l[k]=x:=⟨_,rfl⟩
    rw[hx] at hc4 dP hmem hgx;obtain⟨e0,e1,e2,e3⟩:=hc4.on HW.out hG;have hbr:b<wr.heap.size:=Nat.lt_of_lt_of_le hG HW.out.size;have ng:=X dP;obtain⟨v,hv⟩:∃v,fU false x=v:=⟨_,rfl⟩
    have HC:=X (fun W hi=>aqj hv q j c' W hi (HS.out x hmem).1 (HS.out x hmem).2);have HTK:=X (Xg hgx);have HST:=X (fun(h1:¬fU false x=0)=>agq hgx HT0.out h1);have HV:=X hv;clear hcell hc4 dP hx hmem hgx hkl hv;go_wp2_with fail;refine(HC.out _ (ng.out.on rq)).mono ?_;rintro e w2 ⟨rfl,hb2⟩;have HW2:Hid (ai w.heap.size w w2):=X rq;clear hb2 HC;by_cases hz:v=0
    · have HR:Hid (o8 (l.take (k+1))=0):=X (by rw[HTK.out,HT0.out,kV,HV.out,hz]);subst hz;exact KU
    · have HR:Hid (o8 l=v):=X (by rw[HST.out (by rw[HV.out];exact hz),HV.out]);have z1:(v != 0)=true:=bne_iff_ne.2 hz;clear hz;go_wp2_with fail;go_ret;exact⟨by rw[HR.out];rfl,HW2.out⟩
  · obtain rfl:m=k:=by omega
    have HR:Hid (o8 l=0):=X (by have h1:=HT0.out;rwa [List.take_of_length_le t_] at h1);exact K7
end Sm
namespace Md
open Go.RowKit Go.Maps
open Sm (dQ tH ic oL)
open Ex (Gives block_lt)
attribute [local go_sem] Ma LY L8 QU QW LZ
theorem Al (w:ah) (t:TypeId) (r1 r2:Int):∀i,(h:i<[r1,r2].length)->(w.alloc (.cells #[.int .i64 r1,.int .i64 r2] t)).cell? ⟨w.heap.size,i,V⟩=U (.int .i64 [r1,r2][i]):=by
 intro i h;rw[World.cell?_alloc_mark]
 match i,h with
 | 0,_=>rfl
 | 1,_=>rfl
theorem AR (a b:Int):ic [a,b]=dQ a b:=by unfold ic ic ic;rw[tH]
theorem xy {b:Nat} {w w2:ah} (h:But b w w2) {g:Nat} {o:Nat} {v:Value} (hc:w.cell? ⟨g,o,V⟩=U v) (hg:g≠b):w2.cell? ⟨g,o,V⟩=U v:=
 (World.cell?_of_block (w:=w) (a:=⟨g,o,V⟩) (h.block g (block_lt hc) hg)).trans hc
theorem aqF {p:Prop} (h:p:=by assumption):p:=h
theorem arb {p:Prop} (h:p:=by((repeat (first|(with_reducible exact But.refl _ _)|(with_reducible assumption)|(with_reducible apply But.alloc)|(with_reducible apply But.drewN)|(with_reducible apply But.drew)|(with_reducible refine But.trans ?_ aqF)|(with_reducible refine But.then ?_ aqF)));done)):p:=h
theorem ah7 (x:ko) (b B1:Nat) (acc:List ByteArray) (w:ah) (hS:iJ b acc w) (hn:acc.length<=100000) (hx:x.nm.size<=9223372036854775807) (hv:w.cell? ⟨B1,0,V⟩=U (.map (U b))) (hB:B1≠b)
 (tv:Int) (CT:Hid (∀W,But b w W->ag ae 145 #[.agg (mq x)] W (Gives (.int .i64 tv) W))) :
 ag ae 144 #[.agg (mq x),.pointer (U ⟨B1,0,V⟩)] w (Step b (dQ (jE acc x.nm) tv,jm acc x.nm) w):=by
 have HS:=X hS;have nK:=X hS.lt;have HV:=X hv;obtain⟨za,h2⟩:∃a,jm acc x.nm=a:=⟨_,rfl⟩
 obtain⟨v,hd⟩:∃v,jE acc x.nm=v:=⟨_,rfl⟩
 rw[h2,hd];have CD:=X (fun W (hW:iJ b acc W)=>BD hd h2 W hW hn hx);obtain⟨kk,hkk⟩:∃n:Nat,3=n:=⟨_,rfl⟩
 have hsz:∀w,(sizeOf 200).run ae w=.ok kk w:=fun w=>by rw[sizeOf200,hkk]
 have HKK:=X hkk;have FK:Hid (∀W,But b (w.alloc (.cells (mq x) 200)) W->W.cell? ⟨B1,0,V⟩=U (.map (U b))/\W.cell? ⟨w.heap.size,0,V⟩=U (.string x.nm)/\(af ⟨w.heap.size,0,V⟩ 0 kk #[]).run ae W=.ok (mq x) W):=X fun W hb=>by
  have q:=bX.new.but hb (show w.heap.size≠b by have:=nK.out;omega);exact⟨xy hb ((World.cell?_alloc_lt _ _ _ (block_lt HV.out)).trans HV.out) hB,q.get (Ma x),q.cell.gJ HKK.out⟩
 clear hS hd h2 hv hkk;go_enter func144,ntmps144;go_wp2_with fail;go_region_held3 (fun W=>W.cell? ⟨B1,0,V⟩=U (.map (U b))/\W.cell? ⟨w.heap.size,0,V⟩=U (.string x.nm)/\(af ⟨w.heap.size,0,V⟩ 0 kk #[]).run ae W=.ok (mq x) W) (first|(refine FK.out _ ?_;((repeat (first|(with_reducible exact But.refl _ _)|(with_reducible assumption)|(with_reducible apply But.alloc)|(with_reducible apply But.drewN)|(with_reducible apply But.drew)|(with_reducible refine But.trans ?_ aqF)|(with_reducible refine But.then ?_ aqF)));done))|(go_keep;done)) (first
  | (have t:=hb3;go_at_call 49;refine(oL [v,tv] _ 2 2 _ rfl bU (X (Al _ _ _ _))).mono ?_;rintro e w9 ⟨rfl,rfl⟩)
  | (have t:=hb2;go_at_call 145;refine(CT.out _ arb).mono ?_;rintro e w3 ⟨rfl,hb3⟩)
  | (go_at_call 91;refine(CD.out _ (HS.out.on bl)).mono ?_;rintro e w2 ⟨rfl,hs2,hb2⟩))
 all_goals
  have HB3:=X hb3;go_wp2_with fail;go_ret;exact⟨by rw[← AR];rfl,hs2.on bl,by((repeat (first|(with_reducible exact But.refl _ _)|(with_reducible assumption)|(with_reducible apply But.alloc)|(with_reducible apply But.drewN)|(with_reducible apply But.drew)|(with_reducible refine But.trans ?_ aqF)|(with_reducible refine But.then ?_ aqF)));done)⟩
theorem ah1 (x:j_) (b B1:Nat) (acc:List ByteArray) (w:ah) (hS:iJ b acc w) (hn:acc.length<=100000) (hx:x.nm.size<=9223372036854775807) (hv:w.cell? ⟨B1,0,V⟩=U (.map (U b))) (hB:B1≠b)
 (tv:Int) (CT:Hid (∀W,But b w W->ag ae 148 #[.agg (mo x)] W (Gives (.int .i64 tv) W))) :
 ag ae 147 #[.agg (mo x),.pointer (U ⟨B1,0,V⟩)] w (Step b (dQ (jE acc x.nm) tv,jm acc x.nm) w):=by
 have HS:=X hS;have nK:=X hS.lt;have HV:=X hv;obtain⟨za,h2⟩:∃a,jm acc x.nm=a:=⟨_,rfl⟩
 obtain⟨v,hd⟩:∃v,jE acc x.nm=v:=⟨_,rfl⟩
 rw[h2,hd];have CD:=X (fun W (hW:iJ b acc W)=>BD hd h2 W hW hn hx);obtain⟨kk,hkk⟩:∃n:Nat,3=n:=⟨_,rfl⟩
 have hsz:∀w,(sizeOf 204).run ae w=.ok kk w:=fun w=>by rw[sizeOf204,hkk]
 have HKK:=X hkk;have FK:Hid (∀W,But b (w.alloc (.cells (mo x) 204)) W->W.cell? ⟨B1,0,V⟩=U (.map (U b))/\W.cell? ⟨w.heap.size,0,V⟩=U (.string x.nm)/\(af ⟨w.heap.size,0,V⟩ 0 kk #[]).run ae W=.ok (mo x) W):=X fun W hb=>by
  have q:=bX.new.but hb (show w.heap.size≠b by have:=nK.out;omega);exact⟨xy hb ((World.cell?_alloc_lt _ _ _ (block_lt HV.out)).trans HV.out) hB,q.get (LY x),q.cell.gJ HKK.out⟩
 clear hS hd h2 hv hkk;go_enter func147,ntmps147;go_wp2_with fail;go_region_held3 (fun W=>W.cell? ⟨B1,0,V⟩=U (.map (U b))/\W.cell? ⟨w.heap.size,0,V⟩=U (.string x.nm)/\(af ⟨w.heap.size,0,V⟩ 0 kk #[]).run ae W=.ok (mo x) W) (first|(refine FK.out _ ?_;((repeat (first|(with_reducible exact But.refl _ _)|(with_reducible assumption)|(with_reducible apply But.alloc)|(with_reducible apply But.drewN)|(with_reducible apply But.drew)|(with_reducible refine But.trans ?_ aqF)|(with_reducible refine But.then ?_ aqF)));done))|(go_keep;done)) (first
  | (have t:=hb3;go_at_call 49;refine(oL [v,tv] _ 2 2 _ rfl bU (X (Al _ _ _ _))).mono ?_;rintro e w9 ⟨rfl,rfl⟩)
  | (have t:=hb2;go_at_call 148;refine(CT.out _ arb).mono ?_;rintro e w3 ⟨rfl,hb3⟩)
  | (go_at_call 91;refine(CD.out _ (HS.out.on bl)).mono ?_;rintro e w2 ⟨rfl,hs2,hb2⟩))
 all_goals
  have HB3:=X hb3;go_wp2_with fail;go_ret;exact⟨by rw[← AR];rfl,hs2.on bl,by((repeat (first|(with_reducible exact But.refl _ _)|(with_reducible assumption)|(with_reducible apply But.alloc)|(with_reducible apply But.drewN)|(with_reducible apply But.drew)|(with_reducible refine But.trans ?_ aqF)|(with_reducible refine But.then ?_ aqF)));done)⟩
theorem ah5 (x:fD) (P:qC) (b B1:Nat) (acc:List ByteArray) (w:ah) (hS:iJ b acc w) (hn:acc.length<=100000) (hx:x.nm.size<=9223372036854775807) (hv:w.cell? ⟨B1,0,V⟩=U (.map (U b))) (hB:B1≠b)
 (tv:Int) (CT:Hid (∀W,But b w W->ag ae 152 #[.agg (kr x P)] W (Gives (.int .i64 tv) W))) :
 ag ae 151 #[.agg (kr x P),.pointer (U ⟨B1,0,V⟩)] w (Step b (dQ (jE acc x.nm) tv,jm acc x.nm) w):=by
 have HS:=X hS;have nK:=X hS.lt;have HV:=X hv;obtain⟨za,h2⟩:∃a,jm acc x.nm=a:=⟨_,rfl⟩
 obtain⟨v,hd⟩:∃v,jE acc x.nm=v:=⟨_,rfl⟩
 rw[h2,hd];have CD:=X (fun W (hW:iJ b acc W)=>BD hd h2 W hW hn hx);obtain⟨kk,hkk⟩:∃n:Nat,4=n:=⟨_,rfl⟩
 have hsz:∀w,(sizeOf 210).run ae w=.ok kk w:=fun w=>by rw[sizeOf210,hkk]
 have HKK:=X hkk;have FK:Hid (∀W,But b (w.alloc (.cells (kr x P) 210)) W->W.cell? ⟨B1,0,V⟩=U (.map (U b))/\W.cell? ⟨w.heap.size,0,V⟩=U (.string x.nm)/\(af ⟨w.heap.size,0,V⟩ 0 kk #[]).run ae W=.ok (kr x P) W):=X fun W hb=>by
  have q:=bX.new.but hb (show w.heap.size≠b by have:=nK.out;omega);exact⟨xy hb ((World.cell?_alloc_lt _ _ _ (block_lt HV.out)).trans HV.out) hB,q.get (L8 x P),q.cell.gJ HKK.out⟩
 clear hS hd h2 hv hkk;go_enter func151,ntmps151;go_wp2_with fail;go_region_held3 (fun W=>W.cell? ⟨B1,0,V⟩=U (.map (U b))/\W.cell? ⟨w.heap.size,0,V⟩=U (.string x.nm)/\(af ⟨w.heap.size,0,V⟩ 0 kk #[]).run ae W=.ok (kr x P) W) (first|(refine FK.out _ ?_;((repeat (first|(with_reducible exact But.refl _ _)|(with_reducible assumption)|(with_reducible apply But.alloc)|(with_reducible apply But.drewN)|(with_reducible apply But.drew)|(with_reducible refine But.trans ?_ aqF)|(with_reducible refine But.then ?_ aqF)));done))|(go_keep;done)) (first
  | (have t:=hb3;go_at_call 49;refine(oL [v,tv] _ 2 2 _ rfl bU (X (Al _ _ _ _))).mono ?_;rintro e w9 ⟨rfl,rfl⟩)
  | (have t:=hb2;go_at_call 152;refine(CT.out _ arb).mono ?_;rintro e w3 ⟨rfl,hb3⟩)
  | (go_at_call 91;refine(CD.out _ (HS.out.on bl)).mono ?_;rintro e w2 ⟨rfl,hs2,hb2⟩))
 all_goals
  have HB3:=X hb3;go_wp2_with fail;go_ret;exact⟨by rw[← AR];rfl,hs2.on bl,by((repeat (first|(with_reducible exact But.refl _ _)|(with_reducible assumption)|(with_reducible apply But.alloc)|(with_reducible apply But.drewN)|(with_reducible apply But.drew)|(with_reducible refine But.trans ?_ aqF)|(with_reducible refine But.then ?_ aqF)));done)⟩
theorem ah6 (x:cZ) (P:fe) (b B1:Nat) (acc:List ByteArray) (w:ah) (hS:iJ b acc w) (hn:acc.length<=100000) (hx:x.nm.size<=9223372036854775807) (hv:w.cell? ⟨B1,0,V⟩=U (.map (U b))) (hB:B1≠b)
 (tv:Int) (CT:Hid (∀W,But b w W->ag ae 96 #[.agg (cK x P)] W (Gives (.int .i64 tv) W))) :
 ag ae 95 #[.agg (cK x P),.pointer (U ⟨B1,0,V⟩)] w (Step b (dQ (jE acc x.nm) tv,jm acc x.nm) w):=by
 have HS:=X hS;have nK:=X hS.lt;have HV:=X hv;obtain⟨za,h2⟩:∃a,jm acc x.nm=a:=⟨_,rfl⟩
 obtain⟨v,hd⟩:∃v,jE acc x.nm=v:=⟨_,rfl⟩
 rw[h2,hd];have CD:=X (fun W (hW:iJ b acc W)=>BD hd h2 W hW hn hx);obtain⟨kk,hkk⟩:∃n:Nat,13=n:=⟨_,rfl⟩
 have hsz:∀w,(sizeOf 50).run ae w=.ok kk w:=fun w=>by rw[sizeOf50,hkk]
 have HKK:=X hkk;have FK:Hid (∀W,But b (w.alloc (.cells (cK x P) 50)) W->W.cell? ⟨B1,0,V⟩=U (.map (U b))/\W.cell? ⟨w.heap.size,0,V⟩=U (.string x.nm)/\(af ⟨w.heap.size,0,V⟩ 0 kk #[]).run ae W=.ok (cK x P) W):=X fun W hb=>by
  have q:=bX.new.but hb (show w.heap.size≠b by have:=nK.out;omega);exact⟨xy hb ((World.cell?_alloc_lt _ _ _ (block_lt HV.out)).trans HV.out) hB,q.get (QW x P),q.cell.gJ HKK.out⟩
 clear hS hd h2 hv hkk;go_enter func95,ntmps95;go_wp2_with fail;go_region_held3 (fun W=>W.cell? ⟨B1,0,V⟩=U (.map (U b))/\W.cell? ⟨w.heap.size,0,V⟩=U (.string x.nm)/\(af ⟨w.heap.size,0,V⟩ 0 kk #[]).run ae W=.ok (cK x P) W) (first|(refine FK.out _ ?_;((repeat (first|(with_reducible exact But.refl _ _)|(with_reducible assumption)|(with_reducible apply But.alloc)|(with_reducible apply But.drewN)|(with_reducible apply But.drew)|(with_reducible refine But.trans ?_ aqF)|(with_reducible refine But.then ?_ aqF)));done))|(go_keep;done)) (first
  | (have t:=hb3;go_at_call 49;refine(oL [v,tv] _ 2 2 _ rfl bU (X (Al _ _ _ _))).mono ?_;rintro e w9 ⟨rfl,rfl⟩)
  | (have t:=hb2;go_at_call 96;refine(CT.out _ arb).mono ?_;rintro e w3 ⟨rfl,hb3⟩)
  | (go_at_call 91;refine(CD.out _ (HS.out.on bl)).mono ?_;rintro e w2 ⟨rfl,hs2,hb2⟩))
 all_goals
  have HB3:=X hb3;go_wp2_with fail;go_ret;exact⟨by rw[← AR];rfl,hs2.on bl,by((repeat (first|(with_reducible exact But.refl _ _)|(with_reducible assumption)|(with_reducible apply But.alloc)|(with_reducible apply But.drewN)|(with_reducible apply But.drew)|(with_reducible refine But.trans ?_ aqF)|(with_reducible refine But.then ?_ aqF)));done)⟩
theorem ah4 (x:dx) (P:eO) (b B1:Nat) (acc:List ByteArray) (w:ah) (hS:iJ b acc w) (hn:acc.length<=100000) (hx:x.nm.size<=9223372036854775807) (hv:w.cell? ⟨B1,0,V⟩=U (.map (U b))) (hB:B1≠b) (B2:Nat) (sp:Option Addr) (sm sc:Nat) (hu:w.cell? ⟨B2,6,V⟩=U (.slice sp sm sc)) (hB2:B2≠b)
 (tv:Int) (CT:Hid (∀W,But b w W->ag ae 142 #[.agg (d_ x P),.slice sp sm sc] W (Gives (.int .i64 tv) W))) :
 ag ae 141 #[.agg (d_ x P),.pointer (U ⟨B1,0,V⟩),.pointer (U ⟨B2,0,V⟩)] w (Step b (dQ (jE acc x.nm) tv,jm acc x.nm) w):=by
 have HS:=X hS;have nK:=X hS.lt;have HV:=X hv;have HU:=X hu;obtain⟨za,h2⟩:∃a,jm acc x.nm=a:=⟨_,rfl⟩
 obtain⟨v,hd⟩:∃v,jE acc x.nm=v:=⟨_,rfl⟩
 rw[h2,hd];have CD:=X (fun W (hW:iJ b acc W)=>BD hd h2 W hW hn hx);obtain⟨kk,hkk⟩:∃n:Nat,17=n:=⟨_,rfl⟩
 have hsz:∀w,(sizeOf 194).run ae w=.ok kk w:=fun w=>by rw[sizeOf194,hkk]
 have HKK:=X hkk;have FK:Hid (∀W,But b (w.alloc (.cells (d_ x P) 194)) W->W.cell? ⟨B1,0,V⟩=U (.map (U b))/\W.cell? ⟨w.heap.size,0,V⟩=U (.string x.nm)/\(af ⟨w.heap.size,0,V⟩ 0 kk #[]).run ae W=.ok (d_ x P) W/\W.cell? ⟨B2,6,V⟩=U (.slice sp sm sc)):=X fun W hb=>by
  have q:=bX.new.but hb (show w.heap.size≠b by have:=nK.out;omega);exact⟨xy hb ((World.cell?_alloc_lt _ _ _ (block_lt HV.out)).trans HV.out) hB,q.get (QU x P),q.cell.gJ HKK.out,xy hb ((World.cell?_alloc_lt _ _ _ (block_lt HU.out)).trans HU.out) hB2⟩
 clear hS hd h2 hv hkk hu;go_enter func141,ntmps141;go_wp2_with fail;go_region_held3 (fun W=>W.cell? ⟨B1,0,V⟩=U (.map (U b))/\W.cell? ⟨w.heap.size,0,V⟩=U (.string x.nm)/\(af ⟨w.heap.size,0,V⟩ 0 kk #[]).run ae W=.ok (d_ x P) W/\W.cell? ⟨B2,6,V⟩=U (.slice sp sm sc)) (first|(refine FK.out _ ?_;((repeat (first|(with_reducible exact But.refl _ _)|(with_reducible assumption)|(with_reducible apply But.alloc)|(with_reducible apply But.drewN)|(with_reducible apply But.drew)|(with_reducible refine But.trans ?_ aqF)|(with_reducible refine But.then ?_ aqF)));done))|(go_keep;done)) (first
  | (have t:=hb3;go_at_call 49;refine(oL [v,tv] _ 2 2 _ rfl bU (X (Al _ _ _ _))).mono ?_;rintro e w9 ⟨rfl,rfl⟩)
  | (have t:=hb2;go_at_call 142;refine(CT.out _ arb).mono ?_;rintro e w3 ⟨rfl,hb3⟩)
  | (go_at_call 91;refine(CD.out _ (HS.out.on bl)).mono ?_;rintro e w2 ⟨rfl,hs2,hb2⟩))
 all_goals
  have HB3:=X hb3;go_wp2_with fail;go_ret;exact⟨by rw[← AR];rfl,hs2.on bl,by((repeat (first|(with_reducible exact But.refl _ _)|(with_reducible assumption)|(with_reducible apply But.alloc)|(with_reducible apply But.drewN)|(with_reducible apply But.drew)|(with_reducible refine But.trans ?_ aqF)|(with_reducible refine But.then ?_ aqF)));done)⟩
theorem ah3 (x:Lw) (P:sO) (b B1:Nat) (acc:List ByteArray) (w:ah) (hS:iJ b acc w) (hn:acc.length<=100000) (hx:x.nm.size<=9223372036854775807) (hv:w.cell? ⟨B1,0,V⟩=U (.map (U b))) (hB:B1≠b) (B2:Nat) (d:Array Value) (hds:d.size=13) (hu:bX w B2 50 d) (hB2:B2≠b)
 (tv:Int) (CT:Hid (∀W,But b w W->ag ae 196 #[.agg d,.agg (jJ x P)] W (Gives (.int .i64 tv) W))) :
 ag ae 195 #[.agg (jJ x P),.pointer (U ⟨B1,0,V⟩),.pointer (U ⟨B2,0,V⟩)] w (Step b (dQ (jE acc x.nm) tv,jm acc x.nm) w):=by
 have HS:=X hS;have nK:=X hS.lt;have HV:=X hv;have HU:=X hu;obtain⟨k2,hk2⟩:∃n:Nat,13=n:=⟨_,rfl⟩
 have hsz2:∀w,(sizeOf 50).run ae w=.ok k2 w:=fun w=>by rw[sizeOf50,hk2]
 have CW:=X (show d.size=k2 from hds.trans hk2);obtain⟨za,h2⟩:∃a,jm acc x.nm=a:=⟨_,rfl⟩
 obtain⟨v,hd⟩:∃v,jE acc x.nm=v:=⟨_,rfl⟩
 rw[h2,hd];have CD:=X (fun W (hW:iJ b acc W)=>BD hd h2 W hW hn hx);obtain⟨kk,hkk⟩:∃n:Nat,3=n:=⟨_,rfl⟩
 have hsz:∀w,(sizeOf 233).run ae w=.ok kk w:=fun w=>by rw[sizeOf233,hkk]
 have HKK:=X hkk;have FK:Hid (∀W,But b (w.alloc (.cells (jJ x P) 233)) W->W.cell? ⟨B1,0,V⟩=U (.map (U b))/\W.cell? ⟨w.heap.size,0,V⟩=U (.string x.nm)/\(af ⟨w.heap.size,0,V⟩ 0 kk #[]).run ae W=.ok (jJ x P) W/\(af ⟨B2,0,V⟩ 0 k2 #[]).run ae W=.ok d W):=X fun W hb=>by
  have q:=bX.new.but hb (show w.heap.size≠b by have:=nK.out;omega);exact⟨xy hb ((World.cell?_alloc_lt _ _ _ (block_lt HV.out)).trans HV.out) hB,q.get (LZ x P),q.cell.gJ HKK.out,((HU.out.on (show ai w.heap.size w _ by exact bl)).but hb hB2).cell.gJ CW.out⟩
 clear hS hd h2 hv hkk hu hk2 hds;go_enter func195,ntmps195;go_wp2_with fail;go_region_held3 (fun W=>W.cell? ⟨B1,0,V⟩=U (.map (U b))/\W.cell? ⟨w.heap.size,0,V⟩=U (.string x.nm)/\(af ⟨w.heap.size,0,V⟩ 0 kk #[]).run ae W=.ok (jJ x P) W/\(af ⟨B2,0,V⟩ 0 k2 #[]).run ae W=.ok d W) (first|(refine FK.out _ ?_;((repeat (first|(with_reducible exact But.refl _ _)|(with_reducible assumption)|(with_reducible apply But.alloc)|(with_reducible apply But.drewN)|(with_reducible apply But.drew)|(with_reducible refine But.trans ?_ aqF)|(with_reducible refine But.then ?_ aqF)));done))|(go_keep;done)) (first
  | (have t:=hb3;go_at_call 49;refine(oL [v,tv] _ 2 2 _ rfl bU (X (Al _ _ _ _))).mono ?_;rintro e w9 ⟨rfl,rfl⟩)
  | (have t:=hb2;go_at_call 196;refine(CT.out _ arb).mono ?_;rintro e w3 ⟨rfl,hb3⟩)
  | (go_at_call 91;refine(CD.out _ (HS.out.on bl)).mono ?_;rintro e w2 ⟨rfl,hs2,hb2⟩))
 all_goals
  have HB3:=X hb3;go_wp2_with fail;go_ret;exact⟨by rw[← AR];rfl,hs2.on bl,by((repeat (first|(with_reducible exact But.refl _ _)|(with_reducible assumption)|(with_reducible apply But.alloc)|(with_reducible apply But.drewN)|(with_reducible apply But.drew)|(with_reducible refine But.trans ?_ aqF)|(with_reducible refine But.then ?_ aqF)));done)⟩
end Md
namespace Md
open Go.RowKit Go.Maps
open Na (bs Strs fst)
open Sm (Dt lW zD nE qJ NW Ints dQ oL)
open Ex (Lo Gives)
abbrev dv (d:Dt) (vp:Option Addr) (vm vc:Nat) (wp:Option Addr) (wm wc:Nat):Value:=.agg #[.int .i64 d.op,.int .i64 d.a,.int .i64 d.b,.int .i64 d.n,.slice vp vm vc,.slice wp wm wc]
theorem YO {G H:Nat->Prop} {w:ah} (d e:Dt) (vp:Option Addr) (vm vc:Nat) (wp:Option Addr) (wm wc:Nat) (U1:Option Addr) (vm' vc':Nat) (wp':Option Addr) (wm' wc':Nat) (h1:Ints G w d.vs vp vm) (h2:Ints G w d.ws wp wm) (h3:Ints H w e.vs U1 vm') (h4:Ints H w e.ws wp' wm'):ag ae 168 #[dv d vp vm vc wp wm wc,dv e U1 vm' vc' wp' wm' wc'] w (Gives (.bool (lW d e)) w):=by
 have h:=Di.zK d.op d.a d.b d.n vp d.vs.length vc wp d.ws.length wc _ _ e.op e.a e.b e.n U1 e.vs.length vc' wp' e.ws.length wc' _ _ w h1.row h2.row h3.row h4.row;rw[NW,h1.1,h2.1,h3.1,h4.1] at h;exact h
theorem Yh {G:Nat->Prop} {w:ah} (d:Dt) (vp:Option Addr) (vm vc:Nat) (wp:Option Addr) (wm wc:Nat) (h1:Ints G w d.vs vp vm) (h2:Ints G w d.ws wp wm):ag ae 113 #[dv d vp vm vc wp wm wc] w (Gives (.int .i64 (qJ d)) w):=by
 have h:=Di.oC d.op d.a d.b d.n vp d.vs.length vc wp d.ws.length wc _ _ w h1.row h2.row;rw[show qJ d=Di.DD d.op d.a d.b d.n d.vs.length d.ws.length (fun i=>d.vs.getD i 0) (fun i=>d.ws.getD i 0) from rfl];rw[h1.1,h2.1] at h ⊢;exact h
def jU (x:dx) (P:eO):Array Value:=#[.string x.fs,.int .i64 x.up.op,.int .i64 x.up.a,.int .i64 x.up.b,.int .i64 x.up.n,.slice P.u_ P.uZ P.yK,.slice P.vg P.ve P.yL,.int .i64 x.dn.op,.int .i64 x.dn.a,.int .i64 x.dn.b,.int .i64 x.dn.n,.slice P.uz P.uy P.xC,.slice P.uH P.uC P.xD]
theorem ajK (x:dx) (P:eO):∀r v,(jU x P)[r]?=U v->(d_ x P)[4+r]?=U v:=by
 intro r v h;have hr:r<13:=(Array.getElem?_eq_some_iff.1 h).1
 match r,hr with
 | 0,_=>exact h
 | 1,_=>exact h
 | 2,_=>exact h
 | 3,_=>exact h
 | 4,_=>exact h
 | 5,_=>exact h
 | 6,_=>exact h
 | 7,_=>exact h
 | 8,_=>exact h
 | 9,_=>exact h
 | 10,_=>exact h
 | 11,_=>exact h
 | 12,_=>exact h
theorem At.IY {w:ah} {g o:Nat} {x:dx} {P:eO} (h:At w g o (d_ x P)):At w g (o+4) (jU x P):=fun r v hv=>by
 rw[show o+4+r=o+(4+r) by omega];exact h _ _ (ajK x P r v hv)
theorem MK (x:dx) (P:eO):(jU x P)[0]?=U (.string x.fs):=rfl
theorem ZG (x:dx) (P:eO):(jU x P)[1]?=U (.int .i64 x.up.op):=rfl
theorem ZH (x:dx) (P:eO):(jU x P)[2]?=U (.int .i64 x.up.a):=rfl
theorem ZI (x:dx) (P:eO):(jU x P)[3]?=U (.int .i64 x.up.b):=rfl
theorem ZJ (x:dx) (P:eO):(jU x P)[4]?=U (.int .i64 x.up.n):=rfl
theorem ZK (x:dx) (P:eO):(jU x P)[5]?=U (.slice P.u_ P.uZ P.yK):=rfl
theorem ZL (x:dx) (P:eO):(jU x P)[6]?=U (.slice P.vg P.ve P.yL):=rfl
theorem MP (x:dx) (P:eO):(jU x P)[7]?=U (.int .i64 x.dn.op):=rfl
theorem MQ (x:dx) (P:eO):(jU x P)[8]?=U (.int .i64 x.dn.a):=rfl
theorem MR (x:dx) (P:eO):(jU x P)[9]?=U (.int .i64 x.dn.b):=rfl
theorem ML (x:dx) (P:eO):(jU x P)[10]?=U (.int .i64 x.dn.n):=rfl
theorem MM (x:dx) (P:eO):(jU x P)[11]?=U (.slice P.uz P.uy P.xC):=rfl
theorem MN (x:dx) (P:eO):(jU x P)[12]?=U (.slice P.uH P.uC P.xD):=rfl
attribute [local go_sem] MK ZG ZH ZI ZJ ZK ZL MP MQ MR ML MM MN
structure Bq (w:ah) (x:dx) (P:eO):Prop where
 uv:Ints (Lo w.heap.size) w x.up.vs P.u_ P.uZ
 uw:Ints (Lo w.heap.size) w x.up.ws P.vg P.ve
 dv:Ints (Lo w.heap.size) w x.dn.vs P.uz P.uy
 dw:Ints (Lo w.heap.size) w x.dn.ws P.uH P.uC
theorem Bq.on {w w2:ah} (hb:ai w.heap.size w w2) {x:dx} {P:eO} (h:Bq w x P):Bq w2 x P:=⟨Ints.on hb h.uv,Ints.on hb h.uw,Ints.on hb h.dv,Ints.on hb h.dw⟩
theorem nN.IY {w:ah} {x:dx} {P:eO} (h:nN (Lo w.heap.size) w x P):Bq w x P:=⟨h.upv,h.upw,h.YJ,h.YK⟩
def KT:dx:=⟨nE,0,[],0,nE,zD,zD⟩
def VP:eO:=⟨V,0,0,V,0,0,V,0,0,V,0,0,V,0,0⟩
theorem aqm (w:ah):Bq w KT VP:=⟨⟨rfl,by decide,.inl rfl⟩,⟨rfl,by decide,.inl rfl⟩,⟨rfl,by decide,.inl rfl⟩,⟨rfl,by decide,.inl rfl⟩⟩
theorem aoq (x y:dx) (P Q:eO) (w:ah) (hx:Bq w x P) (hy:Bq w y Q):ag ae 219 #[.agg (jU x P),.agg (jU y Q)] w (Gives (.bool (IZ x y)) w):=by
 have HX:=X hx;have HY:=X hy;have FX:=xE (w:=w) 192 192 (jU x P) (jU y Q);clear hx hy;obtain⟨b1,h1⟩:∃b,gP x.fs y.fs=b:=⟨_,rfl⟩
 obtain⟨b2,h2⟩:∃b,lW x.up y.up=b:=⟨_,rfl⟩
 obtain⟨b3,h3⟩:∃b,lW x.dn y.dn=b:=⟨_,rfl⟩
 have hf:IZ x y=(b1&&b2&&b3):=by unfold IZ;rw[h1,h2,h3]
 rw[hf];have u1:(x.fs.toList==y.fs.toList)=b1:=by rw[Cn];exact h1
 have C1:=X (fun W (hW:ai w.heap.size w W)=>(show ag ae 168 #[.agg #[.int .i64 x.up.op,.int .i64 x.up.a,.int .i64 x.up.b,.int .i64 x.up.n,.slice P.u_ P.uZ P.yK,.slice P.vg P.ve P.yL],.agg #[.int .i64 y.up.op,.int .i64 y.up.a,.int .i64 y.up.b,.int .i64 y.up.n,.slice Q.u_ Q.uZ Q.yK,.slice Q.vg Q.ve Q.yL]] W (Gives (.bool b2) W) by rw[← h2];exact YO x.up y.up _ _ _ _ _ _ _ _ _ _ _ _ (HX.out.on hW).uv (HX.out.on hW).uw (HY.out.on hW).uv (HY.out.on hW).uw));have C2:=X (fun W (hW:ai w.heap.size w W)=>(show ag ae 168 #[.agg #[.int .i64 x.dn.op,.int .i64 x.dn.a,.int .i64 x.dn.b,.int .i64 x.dn.n,.slice P.uz P.uy P.xC,.slice P.uH P.uC P.xD],.agg #[.int .i64 y.dn.op,.int .i64 y.dn.a,.int .i64 y.dn.b,.int .i64 y.dn.n,.slice Q.uz Q.uy Q.xC,.slice Q.uH Q.uC Q.xD]] W (Gives (.bool b3) W) by rw[← h3];exact YO x.dn y.dn _ _ _ _ _ _ _ _ _ _ _ _ (HX.out.on hW).dv (HX.out.on hW).dw (HY.out.on hW).dv (HY.out.on hW).dw));clear h1 h2 h3 hf
 cases b1 with
 | false=>
  go_enter func219,ntmps219;exact dS
 | true=>
  go_enter func219,ntmps219;go_wp2_with fail;refine(C1.out _ bl).mono ?_;rintro e w2 ⟨rfl,hb2⟩
  cases b2 with
  | false=>
   exact dS
  | true=>
   have q:=FX.out w2 bl;have p7:=q.1.get (MP x P);have p8:=q.1.get (MQ x P);have p9:=q.1.get (MR x P);have pM:=q.1.get (ML x P);have Gq:=q.1.get (MM x P);have JQ:=q.1.get (MN x P);have r7:=q.2.get (MP y Q);have r8:=q.2.get (MQ y Q);have r9:=q.2.get (MR y Q);have yo:=q.2.get (ML y Q);have Gu:=q.2.get (MM y Q);have r12:=q.2.get (MN y Q);clear q;go_wp2_with fail;refine(C2.out _ bl).mono ?_;rintro e w3 ⟨rfl,hb3⟩;go_wp2_with fail;go_ret;exact⟨by simp,bl⟩
theorem FN (s:ByteArray):s.toList.isEmpty=gP s nE:=by
 rw[Lib.toList_data]
 show(bs s).isEmpty=_
 unfold gP
 cases bs s with
 | nil=>rfl
 | cons x t=>rfl
theorem ajX (x:dx):IZ x KT=(gP x.fs nE&&lW x.up zD&&lW x.dn zD):=rfl
theorem ahv (x:dx) (P:eO) (sm:List ByteArray) (p:Option Addr) (m c:Nat) (w:ah) (hx:Bq w x P) (hs:Strs w p m sm):ag ae 189 #[.agg (jU x P),.slice p m c] w (Gives (.int .i64 (Av x sm)) w):=by
 have HX:=X hx;have HS:=X hs;have FX:=far (w:=w) 192 (jU x P);clear hx hs;obtain⟨b1,h1⟩:∃b,gP x.fs nE=b:=⟨_,rfl⟩
 obtain⟨z,hz⟩:∃b,IZ x KT=b:=⟨_,rfl⟩
 obtain⟨kk,hkk⟩:∃n:Nat,13=n:=⟨_,rfl⟩
 have hsz:∀w,(sizeOf 192).run ae w=.ok kk w:=fun w=>by rw[sizeOf192,hkk]
 have HKK:=X hkk;have ld:=fun W=>run_loadCellsFrom_new (P:=ae) W 192 (jU x P) kk hkk;have CZ:=X (fun W (hW:ai w.heap.size w W)=>(show ag ae 219 #[.agg (jU x P),.agg (jU KT VP)] W (Gives (.bool z) W) by rw[← hz];exact aoq x KT P VP W (HX.out.on hW) (aqm W)));have u1:x.fs.toList.isEmpty=b1:=by rw[FN];exact h1
 have HE:Hid (Av x sm=if z then 0 else if b1 then 1 else if fst sm x.fs<0 then 5 else dQ (qJ x.up) (qJ x.dn)):=X (by
  unfold Av;rw[← hz,ajX];have hb:(bs x.fs=[])=(b1=true):=by rw[← h1];unfold gP;rw[decide_eq_true_eq]
  simp only[hb];cases b1
  · simp[h1]
  · simp only[h1,if_true,Bool.true_and,Bool.and_eq_true])
 have HB:=X (fun W (hW:ai w.heap.size w W)=>Na.Zz p m c sm x.fs W (HS.out.on hW));have CU:=X (fun W (hW:ai w.heap.size w W)=>Yh x.up _ _ P.yK _ _ P.yL (HX.out.on hW).uv (HX.out.on hW).uw);have CN:=X (fun W (hW:ai w.heap.size w W)=>Yh x.dn _ _ P.xC _ _ P.xD (HX.out.on hW).dv (HX.out.on hW).dw);clear hkk h1 hz
 cases z with
 | true=>
  rw[show Av x sm=0 from HE.out];go_enter func189,ntmps189;go_wp2_with fail;refine(CZ.out _ bl).mono ?_;exact CJ
 | false=>
  cases b1 with
  | true=>
   rw[show Av x sm=1 from HE.out];go_enter func189,ntmps189;go_wp2_with fail;refine(CZ.out _ bl).mono ?_;rintro e w2 ⟨rfl,hb2⟩;have q:=FX.out w2 bl;have p0:=q.get (MK x P);clear q;exact dS
  | false=>
   obtain⟨k,hk⟩:∃k,fst sm x.fs=k:=⟨_,rfl⟩
   rw[hk] at HB HE;clear hk;by_cases hk0:k<0
   · rw[show Av x sm=5 by rw[HE.out];exact if_pos hk0];have d0:=decide_eq_true hk0;go_enter func189,ntmps189;go_wp2_with fail;refine(CZ.out _ bl).mono ?_;rintro e w2 ⟨rfl,hb2⟩;have q:=FX.out w2 bl;have p0:=q.get (MK x P);clear q;go_wp2_with fail;refine(HB.out _ bl).mono ?_;rintro e w3 ⟨rfl,rfl⟩;exact dS
   · rw[show Av x sm=dQ (qJ x.up) (qJ x.dn) by rw[HE.out];exact if_neg hk0];have d0:=decide_eq_false hk0;obtain⟨v1,hv1⟩:∃v,qJ x.up=v:=⟨_,rfl⟩
     obtain⟨v2,hv2⟩:∃v,qJ x.dn=v:=⟨_,rfl⟩
     rw[hv1] at CU ⊢;rw[hv2] at CN ⊢;have FY:Hid (∀W,ai (w.alloc (.cells (jU x P) 192)).heap.size (w.alloc (.cells (jU x P) 192)) W->W.cell? ⟨w.heap.size,1,V⟩=U (.int .i64 x.up.op)/\W.cell? ⟨w.heap.size,2,V⟩=U (.int .i64 x.up.a)/\W.cell? ⟨w.heap.size,3,V⟩=U (.int .i64 x.up.b)/\W.cell? ⟨w.heap.size,4,V⟩=U (.int .i64 x.up.n)/\W.cell? ⟨w.heap.size,5,V⟩=U (.slice P.u_ P.uZ P.yK)/\W.cell? ⟨w.heap.size,6,V⟩=U (.slice P.vg P.ve P.yL)/\W.cell? ⟨w.heap.size,7,V⟩=U (.int .i64 x.dn.op)/\W.cell? ⟨w.heap.size,8,V⟩=U (.int .i64 x.dn.a)/\W.cell? ⟨w.heap.size,9,V⟩=U (.int .i64 x.dn.b)/\W.cell? ⟨w.heap.size,10,V⟩=U (.int .i64 x.dn.n)/\W.cell? ⟨w.heap.size,11,V⟩=U (.slice P.uz P.uy P.xC)/\W.cell? ⟨w.heap.size,12,V⟩=U (.slice P.uH P.uC P.xD)):=X fun W hb=>by
      have q:=FX.out W hb;exact⟨q.get (ZG x P),q.get (ZH x P),q.get (ZI x P),q.get (ZJ x P),q.get (ZK x P),q.get (ZL x P),q.get (MP x P),q.get (MQ x P),q.get (MR x P),q.get (ML x P),q.get (MM x P),q.get (MN x P)⟩
     clear hv1 hv2;go_enter func189,ntmps189;go_wp2_with fail;refine(CZ.out _ bl).mono ?_;rintro e w2 ⟨rfl,hb2⟩;have q:=FX.out w2 bl;have p0:=q.get (MK x P);clear q;go_wp2_with fail;refine(HB.out _ bl).mono ?_;rintro e w3 ⟨rfl,rfl⟩;go_wp2_with fail;go_region_held3 (fun W=>W.cell? ⟨w.heap.size,1,V⟩=U (.int .i64 x.up.op)/\W.cell? ⟨w.heap.size,2,V⟩=U (.int .i64 x.up.a)/\W.cell? ⟨w.heap.size,3,V⟩=U (.int .i64 x.up.b)/\W.cell? ⟨w.heap.size,4,V⟩=U (.int .i64 x.up.n)/\W.cell? ⟨w.heap.size,5,V⟩=U (.slice P.u_ P.uZ P.yK)/\W.cell? ⟨w.heap.size,6,V⟩=U (.slice P.vg P.ve P.yL)/\W.cell? ⟨w.heap.size,7,V⟩=U (.int .i64 x.dn.op)/\W.cell? ⟨w.heap.size,8,V⟩=U (.int .i64 x.dn.a)/\W.cell? ⟨w.heap.size,9,V⟩=U (.int .i64 x.dn.b)/\W.cell? ⟨w.heap.size,10,V⟩=U (.int .i64 x.dn.n)/\W.cell? ⟨w.heap.size,11,V⟩=U (.slice P.uz P.uy P.xC)/\W.cell? ⟨w.heap.size,12,V⟩=U (.slice P.uH P.uC P.xD)) (first|(refine FY.out _ ?_;exact bl;done)|(go_keep;done)) (first
      | (have t:=hb5;go_at_call 49;refine(oL [v1,v2] _ 2 2 _ rfl bU (X (Al _ _ _ _))).mono ?_;rintro e w9 ⟨rfl,rfl⟩)
      | (have t:=hb4;go_at_call 113;refine(CN.out _ bl).mono ?_;rintro e w5 ⟨rfl,hb5⟩)
      | (go_at_call 113;refine(CU.out _ bl).mono ?_;rintro e w4 ⟨rfl,hb4⟩))
     all_goals
      have y8:=X hb5;go_wp2_with fail;go_ret;exact⟨by rw[← AR];rfl,bl⟩
end Md
namespace Md
open Go.RowKit Go.Maps
open Na (Strs)
open Sm (dQ oL)
open Ex (Lo Gives)
attribute [local go_sem] agN XD XE
theorem ahA (x:dx) (P:eO) (sm:List ByteArray) (p:Option Addr) (m c:Nat) (w:ah) (hx:nN (Lo w.heap.size) w x P) (hs:Strs w p m sm):ag ae 142 #[.agg (d_ x P),.slice p m c] w (Gives (.int .i64 (Er sm x)) w):=by
 have HX:=X hx;have HS:=X hs;have FX:=far (w:=w) 194 (d_ x P);obtain⟨u,hu⟩:∃b,Jg x.un=b:=⟨_,rfl⟩
 have CI:=X (fun W=>(show ag ae 187 #[.int .i64 x.un] W (oW (.bool u) W) by rw[← hu];exact aaJ _ W))
 cases u with
 | false=>
  rw[show Er sm x=2 by unfold Er;rw[hu];rfl];clear hx hs hu;go_enter func142,ntmps142;go_wp2_with fail;refine(CI.out _).mono ?_;rintro e w2 ⟨rfl,rfl⟩;exact dS
 | true=>
  obtain⟨v1,hv1⟩:∃v,uT x.sh x.cy=v:=⟨_,rfl⟩
  obtain⟨v2,hv2⟩:∃v,Av x sm=v:=⟨_,rfl⟩
  rw[show Er sm x=dQ v1 v2 by unfold Er;rw[hu,hv1,hv2];rfl];have CS:=X (fun W (hW:ai w.heap.size w W)=>(show ag ae 188 #[.slice P.EC P.EB P.Gx,.int .i64 x.cy] W (Gives (.int .i64 v1) W) by rw[← hv1];exact ahC _ _ _ _ _ W (HX.out.sh.on jd.map hW)));have CF:=X (fun W (hW:ai w.heap.size w W)=>(show ag ae 189 #[.agg (jU x P),.slice p m c] W (Gives (.int .i64 v2) W) by rw[← hv2];exact ahv x P sm p m c W (HX.out.IY.on hW) (HS.out.on hW)));have FK:Hid (∀W,ai (w.alloc (.cells (d_ x P) 194)).heap.size (w.alloc (.cells (d_ x P) 194)) W->W.cell? ⟨w.heap.size,2,V⟩=U (.slice P.EC P.EB P.Gx)/\W.cell? ⟨w.heap.size,3,V⟩=U (.int .i64 x.cy)/\W.cell? ⟨w.heap.size,4,V⟩=U (.string x.fs)/\W.cell? ⟨w.heap.size,5,V⟩=U (.int .i64 x.up.op)/\W.cell? ⟨w.heap.size,6,V⟩=U (.int .i64 x.up.a)/\W.cell? ⟨w.heap.size,7,V⟩=U (.int .i64 x.up.b)/\W.cell? ⟨w.heap.size,8,V⟩=U (.int .i64 x.up.n)/\W.cell? ⟨w.heap.size,9,V⟩=U (.slice P.u_ P.uZ P.yK)/\W.cell? ⟨w.heap.size,10,V⟩=U (.slice P.vg P.ve P.yL)/\W.cell? ⟨w.heap.size,11,V⟩=U (.int .i64 x.dn.op)/\W.cell? ⟨w.heap.size,12,V⟩=U (.int .i64 x.dn.a)/\W.cell? ⟨w.heap.size,13,V⟩=U (.int .i64 x.dn.b)/\W.cell? ⟨w.heap.size,14,V⟩=U (.int .i64 x.dn.n)/\W.cell? ⟨w.heap.size,15,V⟩=U (.slice P.uz P.uy P.xC)/\W.cell? ⟨w.heap.size,16,V⟩=U (.slice P.uH P.uC P.xD)):=X fun W hb=>by
   have q:=FX.out W hb;exact⟨q.get (XD x P),q.get (XE x P),q.get (agV x P),q.get (agW x P),q.get (agX x P),q.get (agY x P),q.get (agZ x P),q.get (ag0 x P),q.get (agO x P),q.get (agP x P),q.get (agQ x P),q.get (agR x P),q.get (agS x P),q.get (agT x P),q.get (agU x P)⟩
  clear hx hs hu hv1 hv2;go_enter func142,ntmps142;go_wp2_with fail;refine(CI.out _).mono ?_;rintro e w2 ⟨rfl,rfl⟩;go_wp2_with fail;go_region_held3 (fun W=>W.cell? ⟨w.heap.size,2,V⟩=U (.slice P.EC P.EB P.Gx)/\W.cell? ⟨w.heap.size,3,V⟩=U (.int .i64 x.cy)/\W.cell? ⟨w.heap.size,4,V⟩=U (.string x.fs)/\W.cell? ⟨w.heap.size,5,V⟩=U (.int .i64 x.up.op)/\W.cell? ⟨w.heap.size,6,V⟩=U (.int .i64 x.up.a)/\W.cell? ⟨w.heap.size,7,V⟩=U (.int .i64 x.up.b)/\W.cell? ⟨w.heap.size,8,V⟩=U (.int .i64 x.up.n)/\W.cell? ⟨w.heap.size,9,V⟩=U (.slice P.u_ P.uZ P.yK)/\W.cell? ⟨w.heap.size,10,V⟩=U (.slice P.vg P.ve P.yL)/\W.cell? ⟨w.heap.size,11,V⟩=U (.int .i64 x.dn.op)/\W.cell? ⟨w.heap.size,12,V⟩=U (.int .i64 x.dn.a)/\W.cell? ⟨w.heap.size,13,V⟩=U (.int .i64 x.dn.b)/\W.cell? ⟨w.heap.size,14,V⟩=U (.int .i64 x.dn.n)/\W.cell? ⟨w.heap.size,15,V⟩=U (.slice P.uz P.uy P.xC)/\W.cell? ⟨w.heap.size,16,V⟩=U (.slice P.uH P.uC P.xD)) (first|(refine FK.out _ ?_;exact bl;done)|(go_keep;done)) (first
   | (have t:=hb3;go_at_call 49;refine(oL [v1,v2] _ 2 2 _ rfl bU (X (Al _ _ _ _))).mono ?_;rintro e w9 ⟨rfl,rfl⟩)
   | (have t:=hb2;go_at_call 189;refine(CF.out _ bl).mono ?_;rintro e w3 ⟨rfl,hb3⟩)
   | (go_at_call 188;refine(CS.out _ bl).mono ?_;rintro e w2 ⟨rfl,hb2⟩))
  all_goals
   have HB3:=X hb3;go_wp2_with fail;go_ret;exact⟨by rw[← AR];rfl,bl⟩
end Md
end Go.Proofs.YthnillhnjhalmaaGreatDoor
