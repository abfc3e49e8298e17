/-
  Parts of this proof: The contracts of the reader's rules for expressi. How much is read. The contract of listed. The contracts of the reference's forms that are . The contract of the reference's negative.
-/
import Derived.Test.YthnillhnjhalmaaGreatDoorYRpF
import Derived.Test.YthnillhnjhalmaaGreatDoorYTCmp
open Go.Proofs.Tryz
open Go.Operand renaming tmp->ae
open Option renaming some->U,none->ai
open Go.Ground renaming data->af,guard->ag
open Go.Proofs.Tryz renaming prog->ah
open Go.Act renaming put->aj
open Go.Lib renaming hid->X
open Nat renaming le_refl->ak,le_trans->au
open Go renaming Calls->av
set_option linter.unusedSimpArgs false
set_option linter.unusedVariables false
set_option maxRecDepth 100000
set_option maxHeartbeats 8000000
open Go.Lib (hid)
namespace Go.Proofs.YthnillhnjhalmaaGreatDoor
namespace Ps
open Go.RowKit
open Lx (Tk)
open Ex (Ex bW)
section
variable {L:Lk} {g:Nat} {t:List Tk} {n:Nat}
theorem alU (hX:XC L g n) (w:World) (hR:Rd L g t w) (hn:t.length<=n) (hC:∀W u,Rd L g u W->u.length<=t.length->av ah 238 #[.pointer (U ⟨g,0,ai⟩)] W (PO L g VX (run (fF (n+1)) u) W)):av ah 119 #[.pointer (U ⟨g,0,ai⟩)] w (PO L g VX (run (fN (n+1)) t) w):=by
 have HX:=X hX;have HC:Hid (∀W u,Rd L g u W->u.length<=t.length->av ah 208 #[.pointer (U ⟨g,0,ai⟩)] W (PO L g VX (run (sum (fF (n+1))) u) W)):=X fun W u hW hu=>apJ (IG _) W hW fun W' u' hW' hu'=>hC W' u' hW' (au hu' hu);have HD:Hid (is DW t=true->t.tail.length<n):=X fun h=>by have h2:=hR.gd.ne;rw[List.length_tail];omega
 rw[IQ];clear hX hn hC;refine eD hR ?_;clear hR;intro r HS HR HB hg;have Z:=jR w;go_enter func119,ntmps119;go_wp2_with fail;refine ac HS HB (dH DW _ (HR.out.low qe) bS) ?_ ?_
 · clear HS HB HR;rintro w1 i1 HS b1 HR HB;have HT:=X (HD.out i1);replace Z:=bV Z w1;clear b1 i1;go_wp2_with fail;have hz1:=Z.out.lt;refine po HS HB (HX.out.xn _ _ (HR.out.low qe) HT.out) ?_;clear HS HB HR;rintro x2 u2 v2 w2-HS b2 ⟨p2,m2,c2,rfl,k2⟩ HR HB;replace Z:=bV Z w2;clear b2;have jC:=jv k2 w.heap.size;clear k2;dsimp only [b_];go_wp2_with fail;refine gi HR HB (xX _ _ _ _ _) ?_;clear HR HB;rintro w3 b3 hb3 HR HB;have hzz:=Z.out.lt;have KN:Hid (bW (fun b=>w.heap.size<b) w3 (iR 6 x2) (U ⟨w2.heap.size,0,ai⟩) 1):=X (Ex.bW.map hb3.size (fun b hb hlt=>⟨hb,hb3.block b hlt⟩) _ (DY (c:=c2) 6 jC.out hzz));replace Z:=bV Z w3;clear b3 hb3;obtain⟨y0,y1,y2,y3,fz⟩:=df Z.out;go_wp2_with fail;have bZ:=HB.out;refine bodyPost_ret (v:=.agg (b_ (iR 6 x2) (U ⟨w2.heap.size,0,ai⟩) 1 1)) ?_ rfl (PO.ok (dD HS) qe ⟨(U ⟨w2.heap.size,0,ai⟩),1,1,rfl,?_⟩ (HR.out.low qe))
   · exact sJ
   · exact afm
 clear HS HB HR;rintro w1-HS b1 HR HB;replace Z:=bV Z w1;clear b1;go_wp2_with fail;have hz2:=Z.out.lt;refine pl HS HB (aie (IG _) _ (HR.out.low qe) HC.out) ?_;clear HB HR;rintro x2 u2 v2 w2-HL2 b2 ⟨p2,m2,c2,rfl,k2⟩ HR HB;replace Z:=bV Z w2;clear b2;have jC:=jv k2 w.heap.size;clear k2;dsimp only [b_];obtain⟨y0,y1,y2,y3,fz⟩:=df Z.out;go_wp2_with fail;have bZ:=HB.out;refine bodyPost_ret (v:=.agg (b_ (x2) (p2) m2 c2)) ?_ rfl (PO.ok HL2.out qe ⟨(p2),m2,c2,rfl,?_⟩ (HR.out.low qe))
 · exact sJ
 · have KK:=jC.out;exact iQ KK qe
theorem adx (L:Lk) (g:Nat):∀n,XC L g n
 | 0=>⟨fun W u _ h=>absurd h (Nat.not_lt_zero _),fun W u _ h=>absurd h (Nat.not_lt_zero _),fun W u _ h=>absurd h (Nat.not_lt_zero _)⟩
 | n+1=>by
  have hX:=adx L g n;have hF:∀W u,Rd L g u W->u.length<=n->av ah 238 #[.pointer (U ⟨g,0,ai⟩)] W (PO L g VX (run (fF (n+1)) u) W):=fun W u hR hn=>by rw[DF];exact ajy hX (aju n) W hR hn
  have hN:∀W u,Rd L g u W->u.length<=n->av ah 119 #[.pointer (U ⟨g,0,ai⟩)] W (PO L g VX (run (fN (n+1)) u) W):=fun W u hR hn=>alU hX W hR hn fun W' u' hR' hu'=>hF W' u' hR' (au hu' hn);have hE:∀W u,Rd L g u W->u.length<=n->av ah 30 #[.pointer (U ⟨g,0,ai⟩)] W (PO L g VX (run (fE (n+1)) u) W):=fun W u hR hn=>by rw[IP];exact ajt (Ro _) W hR fun W' u' hR' hu'=>hN W' u' hR' (au hu' hn)
  exact⟨fun W u hR h=>hE W u hR bU,fun W u hR h=>hN W u hR bU,fun W u hR h=>hF W u hR bU⟩
theorem Be (w:World) (hR:Rd L g t w):av ah 30 #[.pointer (U ⟨g,0,ai⟩)] w (PO L g VX (run jO t) w):=(adx L g FU).xe w t hR (by have:=hR.small;unfold FU;omega)
end
end Ps
namespace Ps
open Ps.P (rt fl bd acc see kd kw tk exp len)
open Lx (Tk bs mt)
open Na (iP)
open Ex (Ex cnt iM pre fA IA Sz)
structure dh {α:Type} (Q:α->Nat->Prop) (m:P α):Prop where
 out:∀{t u:List Tk} {x:α},Gd t->run m t=.ok x u->Gd u/\∃d,u.length+d=t.length/\Q x d
section
variable {α β:Type} {Q:α->Nat->Prop} {Q':β->Nat->Prop} {m:P β} {k:β->P α} {A B:P α} {s:ByteArray}
theorem dh.imp {Q2:α->Nat->Prop} {m:P α} (h:dh Q m) (hi:∀x d,Q x d->Q2 x d):dh Q2 m:=⟨fun g e=>by obtain⟨h1,d,h2,h3⟩:=h.out g e;exact⟨h1,d,h2,hi _ _ h3⟩⟩
theorem dh.rt {x:α} (h:Q x 0):dh Q (rt x):=⟨fun g e=>by rw[jX] at e;cases e;exact⟨g,0,rfl,h⟩⟩
theorem dh.fl:dh Q (fl:P α):=⟨fun g e=>by rw[Gw] at e;cases e⟩
theorem dh.bd (h:dh Q' m) (hk:∀x d,Q' x d->dh (fun y c=>Q y (d+c)) (k x)):dh Q (bd m k):=by
 refine⟨fun {t u x} g e=>?_⟩
 cases hm:run m t with
 | ok y v=>
  rw[dN hm] at e;obtain⟨h1,d,h2,h3⟩:=h.out g hm;obtain⟨h4,c,h5,h6⟩:=(hk y d h3).out h1 e;exact⟨h4,d+c,by omega,h6⟩
 | no v=>rw[eU hm] at e;cases e
theorem dh.len {f:Nat->β->α} (h:dh Q' m) (hf:∀n x d,Q' x d->Q (f n x) d):dh Q (len m f):=by
 refine⟨fun {t u x} g e=>?_⟩
 cases hm:run m t with
 | ok y v=>rw[Gg hm] at e;cases e;obtain⟨h1,d,h2,h3⟩:=h.out g hm;exact⟨h1,d,h2,hf _ _ _ h3⟩
 | no v=>rw[JA hm] at e;cases e
theorem dh.acc (hs:¬bs s=[]) (hA:dh (fun y c=>Q y (1+c)) A) (hB:dh Q B):dh Q (acc s A B):=by
 refine⟨fun {t u x} g e=>?_⟩
 cases hi:is s t with
 | true=>
  rw[um hi] at e;obtain⟨h3,h4⟩:=kU g hs hi;obtain⟨h5,c,h6,h7⟩:=hA.out h3 e;exact⟨h5,1+c,by omega,h7⟩
 | false=>rw[lQ hi] at e;exact hB.out g e
theorem dh.see (hA:dh Q A) (hB:dh Q B):dh Q (see s A B):=by
 exact ae_
theorem dh.kd {j:Int} (hA:dh Q A) (hB:dh Q B):dh Q (kd j A B):=by
 exact afg
theorem dh.kw (hA:dh Q A) (hB:dh Q B):dh Q (kw A B):=by
 refine⟨fun {t u x} g e=>?_⟩
 cases hi:iP (bs (hd t).t) with
 | true=>rw[Ga hi] at e;exact hA.out g e
 | false=>rw[Jy hi] at e;exact hB.out g e
theorem dh.iff {c:Prop} [Decidable c] (hA:dh Q A) (hB:dh Q B):dh Q (if c then A else B):=by split <;> assumption
end
theorem lD {s:ByteArray} (hs:¬bs s=[]):dh (fun _ d=>d=1) (exp s):=by
 refine⟨fun {t u x} g e=>?_⟩
 cases hi:is s t with
 | true=>rw[uJ hi] at e;cases e;have:=kU g hs hi;exact⟨this.1,1,by omega,rfl⟩
 | false=>rw[BH hi] at e;cases e
theorem aqA {p:Prop} (h:p:=by omega):p:=h
theorem RI {j:Int} (hj:¬j=0):dh (fun x d=>d=1/\x.1.size<=20000/\0<=x.2/\x.2<=1000000000000) (tk j):=by
 refine⟨fun {t u x} g e=>?_⟩;by_cases hi:(hd t).k=j
 · rw[tO hi] at e;cases e;have:=g.tail aqA;exact⟨this.1,1,by omega,rfl,g.wf.2.2.2.1,g.wf.n⟩
 · rw[zO hi] at e;cases e
theorem oF:dh (fun n d=>d=1/\0<=n/\n<=1000000000000) num:=.bd (RI bS) fun x d h=>.rt ⟨by omega,h.2.2⟩
theorem lT:dh (fun s d=>d=1/\s.size<=20000) f_:=.kw .fl (.bd (RI bS) fun x d h=>.rt ⟨by omega,h.2.1⟩)
theorem rG:dh (fun _ d=>d=1) fM:=.bd (RI bS) fun x d h=>.rt aqA
theorem YX:dh (fun n d=>1<=d/\Bn n) rQ:=.acc bS (.bd oF fun n d h=>.rt ⟨by omega,by unfold Bn;omega⟩) (oF.imp fun n d h=>⟨by omega,by unfold Bn;omega⟩)
theorem RJ:dh (fun n d=>1<=d/\(n=0∨n=1)) sD:=.acc bS (.rt ⟨by omega,.inr rfl⟩) (.bd (lD bS) fun _ d h=>.rt ⟨by omega,.inl rfl⟩)
def QX (e:Ex) (d:Nat):Prop:=cnt e<=d/\∀x∈pre e,x.s.size<=20000
theorem Ca {o n:Int} {s:ByteArray} {d:Nat} (hs:s.size<=20000) (hd:1<=d):QX (.mk o s n []) d:=by
 refine⟨by simp only[cnt,iM];omega,fun x hx=>?_⟩;simp only[pre,fA,List.mem_cons,List.not_mem_nil,or_false] at hx;subst hx;exact hs
theorem T_ {o:Int} {x:Ex} {d c:Nat} (h:QX x d) (hd:d+1<=c):QX (iR o x) c:=by
 refine⟨by have:=h.1;unfold iR;simp only[cnt,iM];omega,fun y hy=>?_⟩;unfold iR at hy;simp only[pre,fA,List.mem_cons,List.append_nil] at hy;rcases hy with rfl|hy
 · exact Nat.zero_le _
 · exact h.2 y hy
theorem Cb {o:Int} {x y:Ex} {d e c:Nat} (h:QX x d) (g:QX y e) (hd:d+e+1<=c):QX (dF o x y) c:=by
 refine⟨by have:=h.1;have:=g.1;unfold dF;simp only[cnt,iM];omega,fun z hz=>?_⟩;unfold dF at hz;simp only[pre,fA,List.mem_cons,List.append_nil,List.mem_append] at hz;rcases hz with rfl|hz|hz
 · exact Nat.zero_le _
 · exact h.2 z hz
 · exact g.2 z hz
theorem QX.le {e:Ex} {d c:Nat} (h:QX e d) (hd:d<=c):QX e c:=⟨au h.1 hd,h.2⟩
theorem Y9 {α:Type} {Q:α->Nat->Prop} {A:Int->P α} {B:P α} (hB:dh Q B):∀{os:List (ByteArray×Int)},(∀q∈os,dh (fun y c=>Q y (1+c)) (A q.2))->(∀q∈os,¬bs q.1=[])->dh Q (rZ A B os)
 | [],_,_=>hB
 | q::r,hA,hs=>.acc (hs q (.head _)) (hA q (.head _)) (Y9 hB (fun p hp=>hA p (.tail _ hp)) fun p hp=>hs p (.tail _ hp))
section
variable {m:P Ex} {os:List (ByteArray×Int)}
theorem YS (h:dh QX m) (hs:∀q∈os,¬bs q.1=[]):∀n e d,QX e d->dh (fun y c=>QX y (d+c)) (gU m os n e)
 | 0,_,_,_=>.fl
 | n+1,e,d,he=>Y9 (.rt he) (fun q hq=>.bd h fun y c hy=>(YS h hs n _ (d+c+1) (Cb he hy aqA)).imp fun z b hz=>hz.le aqA) hs
theorem MB (h:dh QX m) (hs:∀q∈os,¬bs q.1=[]):dh QX (gI m os):=.bd h fun e d he=>YS h hs FU e d he
end
section
variable {E F N:P Ex}
theorem Y8 (h:dh QX E) (o:Int):dh QX (one E o):=.bd (lD bS) fun _ a ha=>.bd h fun x d hx=>.bd (lD bS) fun _ b hb=>.rt (T_ hx aqA)
theorem Zg (h:dh QX E) (o:Int):dh QX (two E o):=.bd (lD bS) fun _ a ha=>.bd h fun x d hx=>.bd (lD bS) fun _ b hb=>.bd h fun y e hy=>.bd (lD bS) fun _ c hc=>.rt (Cb hx hy aqA)
theorem RH (o:Int):dh QX (xZ o):=.bd (lD bS) fun _ a ha=>.bd lT fun s d hs=>.bd (lD bS) fun _ b hb=>.rt (Ca hs.2 aqA)
theorem anb {n:Nat} {e:Ex} {d:Nat} (h:QX e d):QX (neg n e) d:=by
 unfold neg
 split
 · exact Ca (Nat.zero_le _) (au (IA _) h.1)
 · exact h
theorem ajb (h:dh QX E):dh QX (wH E):=.len (Q':=QX) (.bd (lD bS) fun _ a ha=>.bd h fun x d hx=>.bd (lD bS) fun _ b hb=>.rt (hx.le aqA)) fun n x d hx=>anb hx
theorem nW:mt.size<=20000:=Nat.zero_le _
theorem aje (h:dh QX E):dh QX (wO E):=
 .kd (.bd oF fun n d hn=>.rt (Ca nW aqA)) <|
 .see (.bd RJ fun n d hn=>.rt (Ca nW aqA)) <|
 .see (.bd RJ fun n d hn=>.rt (Ca nW aqA)) <|
 .acc bS (.rt (Ca nW aqA)) <|
 .acc bS ((Y8 h 7).imp fun x d hx=>hx.le aqA) <|
 .acc bS ((Y8 h 8).imp fun x d hx=>hx.le aqA) <|
 .acc bS ((Zg h 20).imp fun x d hx=>hx.le aqA) <|
 .acc bS ((Zg h 21).imp fun x d hx=>hx.le aqA) <|
 .acc bS ((RH 22).imp fun x d hx=>hx.le aqA) <|
 .acc bS ((RH 23).imp fun x d hx=>hx.le aqA) <|
 .acc bS ((RH 24).imp fun x d hx=>hx.le aqA) <|
 .see (ajb h) <|
 .bd lT fun s d hs=>.rt (Ca hs.2 aqA)
theorem RF (h:dh QX E) (hF:dh QX F):dh QX (rJ E F):=.acc bS (.bd hF fun x d hx=>.rt (T_ hx aqA)) (aje h)
theorem DC (h:dh QX F):dh QX (sum F):=MB (MB h bS) bS
theorem ai9 (h:dh QX F):dh QX (cmp F):=.bd (DC h) fun x d hx=>
 .acc bS (.bd (DC h) fun y e hy=>.rt (Cb hx hy aqA)) <|
 .acc bS (.bd (DC h) fun y e hy=>.rt (Cb hx hy aqA)) <|
 .acc bS (.bd (DC h) fun y e hy=>.rt (Cb hx hy aqA)) <|
 .acc bS (.bd (DC h) fun y e hy=>.rt (Cb hx hy aqA)) <|
 .acc bS (.bd (DC h) fun y e hy=>.rt (Cb hy hx aqA)) <|
 .acc bS (.bd (DC h) fun y e hy=>.rt (Cb hy hx aqA)) <|
 .rt (hx.le aqA)
theorem Y4 (h:dh QX F) (hN:dh QX N):dh QX (qP F N):=.acc bS (.bd hN fun x d hx=>.rt (T_ hx aqA)) (ai9 h)
theorem ai_ (h:dh QX N):dh QX (FM N):=MB (MB h bS) bS
theorem Y2:∀n,dh QX (fF n)/\dh QX (fN n)/\dh QX (fE n)
 | 0=>by rw[fF,fN,fE];exact⟨.fl,.fl,.fl⟩
 | n+1=>by
  obtain⟨h1,h2,h3⟩:=Y2 n;rw[fF,fN,fE];exact⟨RF h3 h1,Y4 (RF h3 h1) h2,ai_ (Y4 (RF h3 h1) h2)⟩
end
theorem zk:dh QX jO:=(Y2 FU).2.2
theorem QX.sz {e:Ex} {d:Nat} (h:QX e d):Sz e:=fun x hx=>au (h.2 x hx) bS
theorem abK {t u:List Tk} {x:Ex} (g:Gd t) (hl:t.length<=30000) (h:run rY t=.ok x u):cnt x<=30000/\Sz x:=by
 unfold rY at h
 cases hm:run jO t with
 | no v=>rw[eU hm] at h;cases h
 | ok y v=>
  obtain⟨h1,d,h2,h3⟩:=zk.out g hm;rw[dN hm] at h;have e:x=y:=by
   cases hm2:run fM v with
   | no v2=>rw[eU hm2] at h;cases h
   | ok y2 v2=>
    rw[dN hm2] at h
    cases F4:run pz v2 with
    | no v3=>rw[eU F4] at h;cases h
    | ok y3 v3=>rw[dN F4,jX] at h;cases h;rfl
  subst e;exact⟨by have:=h3.1;omega,h3.sz⟩
theorem Y_:dh (fun _ d=>3<=d) pr:=.bd oF fun a d h=>.bd (lD bS) fun _ c h2=>.bd oF fun b e h3=>.rt aqA
theorem Za:∀n l k,l.length<=k->dh (fun x d=>x.length<=k+d) (Gr n l)
 | 0,_,_,_=>.fl
 | n+1,l,k,h=>.kd (.bd Y_ fun x d hd=>(Za n (l++[x]) (k+1) vD).imp fun y c hy=>by omega) (.rt aqA)
theorem Zb:dh (fun x d=>x.length<=d) AX:=.bd Y_ fun x d hd=>(Za FU [x] 1 cz).imp fun y c hy=>by omega
theorem ab3 {s:ByteArray} {t:List Tk} (g:Gd t) (hl:t.length<=30000) (hi:is s t=true):∀x u,run AX t.tail=.ok x u->x.length<=30000:=fun x u h=>by
 by_cases hk:(hd t).k=0
 · have h1:=g.last hk;have h2:t.tail=[]:=List.length_eq_zero_iff.1 (by rw[List.length_tail];omega);rw[h2] at h
   exact absurd h (by unfold AX pr num; rw [eU]; · intro e; cases e
                      · rfl)
 · obtain⟨h1,h2⟩:=g.tail hk;obtain⟨-,d,h3,h4⟩:=Zb.out h1 h;omega
def Ea {α:Type} (e:P α) (n:Nat):List α->P (List α)
 | []=>bd e fun x=>xQ e n [x]
 | y::r=>bd (exp vC) fun _=>bd e fun x=>xQ e n ((y::r)++[x])
theorem Nl {α:Type} (e:P α) (n:Nat) (l:List α):xQ e (n+1) l=acc iG (rt l) (Ea e n l):=by cases l <;> rfl
end Ps
namespace Ps
open Ps.P (exp)
open Go.RowKit
open Lx (Tk)
open Ex (Ex bW)
open Md (bX)
structure afS (L:Lk) (g:Nat) (r:R (List Ex)) (m:P Ex) (N:Nat) (w:World) (k:Nat) (v:Value) (wr:World):Prop where
 ex:∃l u,run (xQ m k l) u=r/\u.length<k/\u.length<=N/\l.length+u.length<=30000/\cu 26 4 fQ (fun b=>w.heap.size<=b) wr v l/\Rd L g u wr
 bt:Bt g w wr
section
variable {L:Lk} {g:Nat} {t:List Tk}
theorem alv (f:FuncId) (m:P Ex) (hm:Dn 1 m) (w:World) (hR:Rd L g t w) (hf:∀(a:Array Value) (W:World),(callFunc f a).run ah W=.ok (.enter f a) W)
 (hC:∀W u,Rd L g u W->u.length<=t.length->av ah f #[.pointer (U ⟨g,0,ai⟩)] W (PO L g VX (run m u) W)):av ah 199 #[.pointer (U ⟨g,0,ai⟩),.func (.func f) #[] #[]] w (PO L g (VL 4 fQ) (run (BQ m) t) w):=by
 have HD:Hid (∀u,run (exp fK) t=.ok () u->u.length<=t.length):=X (fun u h=>by have:=((Dn.exp bS:Dn 1 (exp fK)).out hR.gd h).2;omega);have ht:=hR.small;have HC:=X hC;have HM:=X hm;clear hC hm;refine eD hR ?_;clear hR;intro r HS HR HB hg;go_enter func199,ntmps199;go_wp2_with fail;refine po HS HB (gX _ _ (HR.out.low qe) bS) ?_;clear HS HB HR;rintro x1 u1 v1 w1 r1 HS b1 rfl HR HB;have HT:=X (HD.out _ r1);clear b1 r1 HD;go_wp2_with fail;go_loopg [5] FU (afS L g r m t.length w)
 case atStart=>
  exact Wv
 case round=>
  obtain⟨⟨l,u,hs,hk,hn,hl,ho,hR⟩,hb⟩:=hrel;clear HS HB HR HT;obtain⟨k,rfl⟩:∃k,gk=k+1:=⟨gk-1,by omega⟩
  rw[Nl] at hs;have HL:=X hl;have HK:=X hk;have HN:=X hn;have HO:=X ho;have HR:=X hR;have HB:=X hb;have HS:=X hs;have qA:=X hR.gd;clear hl hk hn ho hR hb hs;go_wp2_with fail;refine ac HS HB (dH iG _ (HR.out.low qe) bS) ?_ ?_
  · clear HS HB HR;rintro w2-HS b2 HR HB;have o2:cu 26 4 fQ (fun b=>w.heap.size<=b) w2 u5 l:=HO.out.up fQ.map (b2.mono fun k _ hk=>by have:w.heap.size<=k:=hk;omega) (ak _);obtain⟨p,c,rfl,hrw⟩:=o2.rw fQ.map Eu ou;exact Wx
  · clear HS HB HR;rintro w2-HS b2 HR HB;have o2:cu 26 4 fQ (fun b=>w.heap.size<=b) w2 u5 l:=HO.out.up fQ.map (b2.mono fun k _ hk=>by have:w.heap.size<=k:=hk;omega) (ak _);replace HO:=X o2;clear b2 o2;have hlen:∃p c,u5=.slice p l.length c:=by
     obtain⟨p,c,h,-⟩:=HO.out.rw fQ.map Eu ou;exact⟨p,c,h⟩
    obtain⟨p5,c5,rfl⟩:=hlen;have hlm:l.length<=30000:=by have:=HL.out;omega
    cases l with
    | nil=>
     dsimp only [Ea] at HS;have m_:Hid (∀x v,run m u=.ok x v->v.length+1<=u.length):=X fun x v h=>(HM.out.out qA.out h).2;go_wp2_with fail;refine po HS HB (HC.out _ _ (HR.out.low qe) HN.out) ?_;clear HS HR;rintro x3 u3 v3 w3 r3 HS b3 V3 HR B3;have oO:=X (m_.out _ _ r3);have s2:=HB.out.size;have s3:=b3.size;have o3:cu 26 4 fQ (fun b=>w.heap.size<=b) w3 (.slice p5 0 c5) []:=HO.out.up fQ.map (b3.mono fun k _ hk=>by have:w.heap.size<=k:=hk;omega) (ak _);obtain⟨p3,m3,c3,rfl,k3⟩:=V3;have HY:Hid ((∀b,(Value.slice p5 0 c5).ownBlock=U b->w.heap.size<=b)->fQ (fun b=>w.heap.size<=b/\¬(Value.slice p5 0 c5).ownBlock=U b) (w3.alloc (.cells (b_ x3 p3 m3 c3) 26)) x3 (b_ x3 p3 m3 c3)):=X fun _=>⟨p3,m3,c3,rfl,Ex.bW.map (G:=fun b=>w2.heap.size<=b) cz (fun b hb hlt=>⟨⟨by have hb':w2.heap.size<=b:=hb;omega,fun e=>by have h9:=HO.out.own e;have hb':w2.heap.size<=b:=hb;omega⟩,by show(w3.heap.push _)[b]?=_;rw[Array.getElem?_push,if_neg bU]⟩) _ k3⟩
     dsimp only [b_] at HY ⊢;replace HO:=X o3;replace HB:=B3;clear b3 r3 o3 m_;have o4:cu 26 4 fQ (fun b=>w.heap.size<=b) (w3.alloc (.cells (b_ x3 p3 m3 c3) 26)) (.slice p5 0 c5) []:=HO.out.up fQ.map qe (ak _);have c4:bX (w3.alloc (.cells (b_ x3 p3 m3 c3) 26)) w3.heap.size 26 (b_ x3 p3 m3 c3):=bX.new;obtain⟨v5,w5,hrun,o5,hg5⟩:=o4.app kEx fQ.map Eu c4.cell (x:=x3) (HY.out o4.blk) cz;have B5:Hid (Bt g w w5):=X (bT.grown qh hg5 fun b hb=>.inl (o4.blk b hb));have R5:Hid (Rd L g u3 w5):=X (HR.out.low (bT.grown qe hg5 fun b hb=>.inr CL));have O5:Hid (cu 26 4 fQ (fun b=>w.heap.size<=b) w5 v5 [x3]):=X (o5.map fQ.map (ak _) fun b hb _=>⟨by
      rcases hb with hb|hb
      · exact hb
      · have e:(w3.alloc (.cells (b_ x3 p3 m3 c3) 26)).heap.size=w3.heap.size+1:=by simp
        omega,rfl⟩)
     dsimp only [b_] at hrun;exact Wp
    | cons y l=>
     dsimp only [Ea] at HS;have vF:Hid (∀v,run (exp vC) u=.ok () v->Gd v/\v.length+1<=u.length):=X fun v h=>(Dn.exp bS:Dn 1 (exp vC)).out qA.out h;have hpos:decide ((0:Int)<(((y::l).length:Nat):Int))=true:=decide_eq_true Wj;go_wp2_with fail;refine po HS HB (gX _ _ (HR.out.low qe) bS) ?_;clear HS HR;rintro x3 u3 v3 w3 r3 HS b3 rfl HR B3;have Dc:=X (vF.out _ r3);have m_:Hid (∀x v,run m u3=.ok x v->v.length+1<=u3.length):=X fun x v h=>(HM.out.out Dc.out.1 h).2;have s2:=HB.out.size;have s3:=b3.size;have o3:cu 26 4 fQ (fun b=>w.heap.size<=b) w3 (.slice p5 (y::l).length c5) (y::l):=HO.out.up fQ.map (b3.mono fun k _ hk=>by have:w.heap.size<=k:=hk;omega) (ak _);replace HO:=X o3;replace HB:=B3;clear b3 r3 o3 vF;go_wp2_with fail;refine po HS HB (HC.out _ _ (HR.out.low qe) Wl) ?_;clear HS HB HR;rintro x4 u4 v4 w4 r4 HS b4 V4 HR HB;have oO:=X (m_.out _ _ r4);have s4:=b4.size;have xY:cu 26 4 fQ (fun b=>w.heap.size<=b) w4 (.slice p5 (y::l).length c5) (y::l):=HO.out.up fQ.map (b4.mono fun k _ hk=>by have:w.heap.size<=k:=hk;omega) (ak _);obtain⟨p4,m4,c4,rfl,k4⟩:=V4;have HY:Hid ((∀b,(Value.slice p5 (y::l).length c5).ownBlock=U b->w.heap.size<=b)->fQ (fun b=>w.heap.size<=b/\¬(Value.slice p5 (y::l).length c5).ownBlock=U b) (w4.alloc (.cells (b_ x4 p4 m4 c4) 26)) x4 (b_ x4 p4 m4 c4)):=X fun _=>⟨p4,m4,c4,rfl,Ex.bW.map (G:=fun b=>w3.heap.size<=b) cz (fun b hb hlt=>⟨⟨by have hb':w3.heap.size<=b:=hb;omega,fun e=>by have h9:=HO.out.own e;have hb':w3.heap.size<=b:=hb;omega⟩,by show(w4.heap.push _)[b]?=_;rw[Array.getElem?_push,if_neg bU]⟩) _ k4⟩
     dsimp only [b_] at HY ⊢;replace HO:=X xY;clear b4 r4 xY m_;have o4:cu 26 4 fQ (fun b=>w.heap.size<=b) (w4.alloc (.cells (b_ x4 p4 m4 c4) 26)) (.slice p5 (y::l).length c5) (y::l):=HO.out.up fQ.map qe (ak _);have Fx:bX (w4.alloc (.cells (b_ x4 p4 m4 c4) 26)) w4.heap.size 26 (b_ x4 p4 m4 c4):=bX.new;obtain⟨v5,w5,hrun,o5,hg5⟩:=o4.app kEx fQ.map Eu Fx.cell (x:=x4) (HY.out o4.blk) bU;have B5:Hid (Bt g w w5):=X (bT.grown qh hg5 fun b hb=>.inl (o4.blk b hb));have R5:Hid (Rd L g u4 w5):=X (HR.out.low (bT.grown qe hg5 fun b hb=>.inr CL));have O5:Hid (cu 26 4 fQ (fun b=>w.heap.size<=b) w5 v5 ((y::l)++[x4])):=X (o5.map fQ.map (ak _) fun b hb _=>⟨by
      rcases hb with hb|hb
      · exact hb
      · have e:(w4.alloc (.cells (b_ x4 p4 m4 c4) 26)).heap.size=w4.heap.size+1:=by simp
        omega,rfl⟩)
     dsimp only [b_] at hrun;exact Wo
end
end Ps
namespace Ps
open Ps.P (exp)
open Go.RowKit
open Lx (Tk mt)
open Ex (Ex bW)
open Md (bX)
section
variable {L:Lk} {g:Nat} {b:Bool} {t:List Tk} {n:Nat}
theorem ayN {p:Prop} (h:p:=by have hgB:¬w3.heap.size+1=g:=(by omega);exact qe):p:=h
theorem ay9 {p:Prop} (h:p:=by have h1:=AY (Dn.exp (by decide):Dn 1 (exp fK)) HG.out.1 r2 h;have h2:=HN.out;have h3:=HG.out.2;omega):p:=h
theorem ay_ {p:Prop} (h:p:=by obtain⟨h0,h1⟩:=AY (Dx n) WM.out r3 h;have h2:=HT.out h0;omega):p:=h
theorem ab4 (o:Int) (hX:XQ L g n) (w:World) (hR:Rp L g false t w) (hn:t.length<=n) (hk:¬(hd t).k=0):av ah 242 #[.pointer (U ⟨g,0,ai⟩),.int .i64 o,.int .i64 1] w (QO L g VX (one (fE n) o) false t.tail w):=by
 have hg:=hR.blk;have HR:=X hR;have HB:Hid (Bt g w w):=X (bT.refl _ _);have HS:Hid (To (one (fE n) o) false t.tail (one (fE n) o) false t.tail):=yE;have Z:=jR w;have HX:=X hX;have HK:=X hk;have HN:=X hn;have HG:=X (hR.gd.tail hk);clear hR hk hX hn;go_enter func242,ntmps242;go_wp2_with fail;refine(yg true _ (HR.out.low qe)).mono ?_;rintro e w1 ⟨rfl,q1,R1⟩;have hkd:jb true false t=false:=by unfold jb;rw[decide_eq_false HK.out];rfl
 rw[og,hkd,if_neg bS] at R1;replace Z:=bV Z w1;replace HB:=dJ HB w1;replace HR:=X R1;clear q1 R1 hkd HK;go_wp2_with fail;refine qo HS HB (qX fK _ (HR.out.low qe) bS bS) ?_;clear HS HB HR;rintro x2 b2 u2 v2 w2 r2 HS q2 rfl HR HB;have HT:Hid (b2=false->u2.length<n):=X fun h=>ay9;replace Z:=bV Z w2;clear q2 r2;have hz2:=Z.out.lt;go_wp2_with fail;refine qo HS HB (HX.out.xe _ _ _ (HR.out.low qe) HT.out) ?_;clear HS HB;rintro x3 b3 u3 v3 w3 r3 HS q3 ⟨p3,m3,c3,rfl,k3⟩ R3 HB;have WM:=X HR.out.gd;have HT3:Hid (b3=false->u3.length<n):=X fun h=>ay_;replace Z:=bV Z w3;replace HR:=R3;clear q3 r3;have K3:Hid (bW (fun b=>w.heap.size<b/\b<w3.heap.size) w3 x3 p3 m3):=X (k3.mono fun b hb hlt=>by have hb2:w2.heap.size<=b:=hb;exact⟨by omega,hlt⟩);have hz3:=Z.out.lt;clear k3;dsimp only [b_];have e1:(w3.alloc (.cells #[.int .i64 x3.o,.string x3.s,.int .i64 x3.n,.slice p3 m3 c3] 26)).heap.size=w3.heap.size+1:=by simp
 have Y0:=bX.new (w:=w3.alloc (.cells #[.int .i64 x3.o,.string x3.s,.int .i64 x3.n,.slice p3 m3 c3] 26)) (t:=26) (c:=#[.int .i64 o,.string ⟨#[]⟩,.int .i64 0,.slice (U ⟨w3.heap.size,0,ai⟩) 1 1]);rw[e1] at Y0;have Y:=X Y0;have k4:=DY (c:=c3) o (K3.out.mono (H:=fun b=>w.heap.size<b) fun b hb _=>hb.1) hz3;replace K3:Hid (bW (fun b=>w.heap.size<b) (w3.alloc (.cells #[.int .i64 x3.o,.string x3.s,.int .i64 x3.n,.slice p3 m3 c3] 26)) (iR o x3) (U ⟨w3.heap.size,0,ai⟩) 1):=X k4;clear e1 Y0 k4;go_wp2_with fail;refine qo HS HB (qX iG _ (HR.out.low qe) bS bS) ?_;clear HS HB HR;rintro x4 b4 u4 v4 w4-HS q4 rfl HR HB;replace Z:=bV Z w4;replace Y:=X (cO (w2:=w4) Y.out ayN);replace K3:=X (ja (w2:=w4) K3.out qe);clear q4;obtain⟨l0,l1,l2,l3,-⟩:=df Y.out;obtain⟨y0,y1,y2,y3,fz⟩:=df Z.out;go_wp2_with fail;have bZ:=HB.out;refine bodyPost_ret (v:=.agg (b_ (iR o x3) (U ⟨w3.heap.size,0,ai⟩) 1 1)) ?_ rfl (QO.mk (V:=VX) (x:=iR o x3) ⟨(U ⟨w3.heap.size,0,ai⟩),1,1,rfl,?_⟩ qe (HR.out.low qe) (uY HS))
 · exact sJ
 · have KK:=K3.out;exact iQ KK qe
theorem af_ {a B r:Nat} {w:World} {x y:Ex} {p:Option Addr} {m c:Nat} (o:Int) (ho:cu 26 4 fQ (fun b=>a<b/\¬b=B) w (.slice (U ⟨r,0,ai⟩) 1 1) [x]) (hy:bW (fun b=>a<b/\¬b=B/\¬b=r) w y p m) (hs:a<w.heap.size) (hB:B<w.heap.size):∃(w2:World) (p2:Option Addr) (n2:Nat),(Builtin.append_ #[24,24] 24 #[.slice (U ⟨r,0,ai⟩) 1 1,.slice (U ⟨w.heap.size,0,ai⟩) 1 1]).run ah (w.alloc (.cells (b_ y p m c) 26))=.ok (.slice p2 2 n2) w2/\bW (fun b=>a<b/\¬b=B) w2 (dF o x y) p2 2/\bT (fun k=>k<=a∨k=B) w w2:=by
 have keep:∀b,b<w.heap.size->(w.alloc (.cells (b_ y p m c) 26)).heap[b]?=w.heap[b]?:=fun b hb=>by
  show(w.heap.push _)[b]?=_
  rw[Array.getElem?_push,if_neg bU]
 have o4:cu 26 4 fQ (fun b=>a<b/\¬b=B) (w.alloc (.cells (b_ y p m c) 26)) (.slice (U ⟨r,0,ai⟩) 1 1) [x]:=ho.map fQ.map cz fun b hb hlt=>⟨hb,keep b hlt⟩
 have hy':fQ (fun b=>(a<b/\¬b=B)/\¬(Value.slice (U ⟨r,0,ai⟩) 1 1).ownBlock=U b) (w.alloc (.cells (b_ y p m c) 26)) y (b_ y p m c):=⟨p,m,c,rfl,Ex.bW.map cz (fun b hb hlt=>⟨⟨⟨hb.1,hb.2.1⟩,fun e=>hb.2.2 (by
  have h:U r=U b:=e;injection h with h;exact h.symm)⟩,keep b hlt⟩) _ hy⟩
 obtain⟨v',w2,hrun,o5,hg⟩:=o4.app kEx fQ.map Eu (bX.new (w:=w) (t:=26) (c:=b_ y p m c)).cell hy' cz;obtain⟨p2,n2,rfl,hrw⟩:=o5.rw fQ.map Eu cz;refine⟨w2,p2,n2,hrun,?_,bT.grown (bT.alloc (bT.refl _ _)) hg fun b hb=>.inr fun h=>?_⟩
 · have hk:=Nh (o:=o) (s:=mt) (n:=0).2 hrw;refine hk.mono fun b hb _=>?_;rcases hb with hb|hb
   · exact hb
   · have e:(w.alloc (.cells (b_ y p m c) 26)).heap.size=w.heap.size+1:=by simp
     rw[e] at hb;exact⟨by omega,by omega⟩
 · have h1:U r=U b:=hb;injection h1 with h1;have h2:=ho.blk r rfl;subst h1;rcases h with h|h
   · have h3:a<r:=h2.1;omega
   · exact h2.2 h
theorem ab5 (o:Int) (hX:XQ L g n) (w:World) (hR:Rp L g false t w) (hn:t.length<=n) (hk:¬(hd t).k=0):av ah 242 #[.pointer (U ⟨g,0,ai⟩),.int .i64 o,.int .i64 2] w (QO L g VX (two (fE n) o) false t.tail w):=by
 have hg:=hR.blk;have HR:=X hR;have HB:Hid (Bt g w w):=X (bT.refl _ _);have HS:Hid (To (two (fE n) o) false t.tail (two (fE n) o) false t.tail):=yE;have Z:=jR w;have HX:=X hX;have HK:=X hk;have HN:=X hn;have HG:=X (hR.gd.tail hk);clear hR hk hX hn;go_enter func242,ntmps242;go_wp2_with fail;refine(yg true _ (HR.out.low qe)).mono ?_;rintro e w1 ⟨rfl,q1,R1⟩;have hkd:jb true false t=false:=by unfold jb;rw[decide_eq_false HK.out];rfl
 rw[og,hkd,if_neg bS] at R1;replace Z:=bV Z w1;replace HB:=dJ HB w1;replace HR:=X R1;clear q1 R1 hkd HK;go_wp2_with fail;refine qo HS HB (qX fK _ (HR.out.low qe) bS bS) ?_;clear HS HB HR;rintro x2 b2 u2 v2 w2 r2 HS q2 rfl HR HB;have HT:Hid (b2=false->u2.length<n):=X fun h=>ay9;replace Z:=bV Z w2;clear q2 r2;have hz2:=Z.out.lt;go_wp2_with fail;refine qo HS HB (HX.out.xe _ _ _ (HR.out.low qe) HT.out) ?_;clear HS HB;rintro x3 b3 u3 v3 w3 r3 HS q3 ⟨p3,m3,c3,rfl,k3⟩ R3 HB;have WM:=X HR.out.gd;have HT3:Hid (b3=false->u3.length<n):=X fun h=>ay_;replace Z:=bV Z w3;replace HR:=R3;clear q3 r3;have K3:Hid (bW (fun b=>w.heap.size<b/\b<w3.heap.size) w3 x3 p3 m3):=X (k3.mono fun b hb hlt=>by have hb2:w2.heap.size<=b:=hb;exact⟨by omega,hlt⟩);have hz3:=Z.out.lt;clear k3;dsimp only [b_];have e1:(w3.alloc (.cells #[.int .i64 x3.o,.string x3.s,.int .i64 x3.n,.slice p3 m3 c3] 26)).heap.size=w3.heap.size+1:=by simp
 have Y0:=bX.new (w:=w3.alloc (.cells #[.int .i64 x3.o,.string x3.s,.int .i64 x3.n,.slice p3 m3 c3] 26)) (t:=26) (c:=#[.int .i64 o,.string ⟨#[]⟩,.int .i64 0,.slice (U ⟨w3.heap.size,0,ai⟩) 1 1]);rw[e1] at Y0;have Y:=X Y0;have o3:cu 26 4 fQ (fun b=>w.heap.size<b/\¬b=w3.heap.size+1) (w3.alloc (.cells (b_ x3 p3 m3 c3) 26)) (.slice (U ⟨w3.heap.size,0,ai⟩) 1 1) [x3]:=cu.one ⟨p3,m3,c3,rfl,K3.out.mono fun b hb _=>⟨⟨hb.1,by omega⟩,hb.2⟩⟩ fQ.map Eu ⟨hz3,by omega⟩;dsimp only [b_] at o3;have HO:Hid (cu 26 4 fQ (fun b=>w.heap.size<b/\¬b=w3.heap.size+1) ((w3.alloc (.cells #[.int .i64 x3.o,.string x3.s,.int .i64 x3.n,.slice p3 m3 c3] 26)).alloc (.cells #[.int .i64 o,.string ⟨#[]⟩,.int .i64 0,.slice (U ⟨w3.heap.size,0,ai⟩) 1 1] 26)) (.slice (U ⟨w3.heap.size,0,ai⟩) 1 1) [x3]):=X (o3.map fQ.map cz fun b hb hlt=>⟨hb,by show(Array.push _ _)[b]?=_;rw[Array.getElem?_push,if_neg bU]⟩);clear e1 Y0 o3 K3;go_wp2_with fail;refine qo HS HB (qX vC _ (HR.out.low qe) bS bS) ?_;clear HS HB;rintro x4 b4 u4 v4 w4 r4 HS q4 rfl R4 HB;have HG4:=X HR.out.gd;have P7:Hid (b4=false->u4.length<n):=X fun h=>(by obtain⟨h0,h1⟩:=AY (Dn.exp bS:Dn 1 (exp vC)) HG4.out r4 h;have h2:=HT3.out h0;omega)
 replace Z:=bV Z w4;replace Y:=X (cO (w2:=w4) Y.out ayN);replace HO:=X (HO.out.map fQ.map (w2:=w4) q4.size fun b hb hlt=>⟨hb,q4.block b hlt bU⟩);replace HR:=R4;clear q4 r4;have jh:=Y.out.lt;obtain⟨l0,l1,l2,l3,fz⟩:=df Y.out;go_wp2_with fail;go_region_law (first|(rw[if_pos (by rfl)];refine Lib.wp_append_run _ _ _ _ _ rfl _ _ rfl rfl _ _ hrun ?_)|(go_simp;go_at_call 15;refine(HX.out.xe _ _ _ (HR.out.low qe) P7.out).mono ?_;rintro e' w5 ⟨x5,b5,u5,v5,rfl,q5,⟨p5,m5,c5,rfl,k5⟩,R5,r5⟩;have s5:w4.heap.size<=w5.heap.size:=q5.size;obtain⟨w6,p6,n6,hrun,k6,q6⟩:=af_ (a:=w.heap.size) (B:=w3.heap.size+1) (r:=w3.heap.size) (w:=w5) (x:=x3) (y:=x5) (p:=p5) (m:=m5) (c:=c5) o (HO.out.map fQ.map (w2:=w5) q5.size fun b hb hlt=>⟨hb,q5.block b hlt bU⟩) (k5.mono fun b hb _=>by(have hb':w4.heap.size<=b:=hb);exact⟨by omega,by omega,by omega⟩) bU bU;have Y5:=cO (w2:=w5) Y.out ayN;have lH:World.cell? w5 ⟨w3.heap.size+1,3,ai⟩=U (.slice (U ⟨w3.heap.size,0,ai⟩) 1 1):=Y5.get rfl;have gY:World.cell? (w5.alloc (.cells (b_ x5 p5 m5 c5) 26)) ⟨w3.heap.size+1,3,ai⟩=U (.slice (U ⟨w3.heap.size,0,ai⟩) 1 1):=(cO (w2:=w5.alloc (.cells (b_ x5 p5 m5 c5) 26)) Y5 qe).get rfl;have Y6:=cO (w2:=w6) Y5 (q6.mono fun k _ hk=>.inr hk);have lm4:World.cell? w6 ⟨w3.heap.size+1,3,ai⟩=U (.slice (U ⟨w3.heap.size,0,ai⟩) 1 1):=Y6.get rfl;have f6:∀i,World.frozen? w6 ⟨w3.heap.size+1,i,ai⟩=false:=fun i=>eu (i:=i) Y6;dsimp only [b_] at hrun gY ⊢))
 all_goals
  replace HS:=Oj HS r5;have s6:w5.heap.size<=w6.heap.size:=q6.size;have Y7:=eX (i:=3) (v:=.slice p6 2 n6) Y6;have k7:bW (fun b=>w.heap.size<b) (w6.setCell ⟨w3.heap.size+1,3,ai⟩ (.slice p6 2 n6)) (dF o x3 x5) p6 2:=by
   have qS:bT (fun b=>w.heap.size<b/\¬b=w3.heap.size+1) w6 (w6.setCell ⟨w3.heap.size+1,3,ai⟩ (.slice p6 2 n6)):=bT.set (bT.refl _ _) (.inr fun h=>h.2 rfl);exact Ex.bW.map qS.size (fun b hb hlt=>⟨hb.1,qS.block b hlt hb⟩) _ k6
  have z7:bX (w6.setCell ⟨w3.heap.size+1,3,ai⟩ (.slice p6 2 n6)) w.heap.size 26 #[.int .i64 0,.string ⟨#[]⟩,.int .i64 0,.slice ai 0 0]:=by
   have z5:=cO (w2:=w5) Z.out qe;have z6:=cO (w2:=w6) z5 (q6.mono fun k _ hk=>.inl (Nat.le_of_eq hk));exact cO z6 (bT.set (bT.refl _ _) (.inr fun h=>by have h:w3.heap.size+1=w.heap.size:=h;omega))
  have q7:bT (fun k=>k<=w.heap.size) w5 (w6.setCell ⟨w3.heap.size+1,3,ai⟩ (.slice p6 2 n6)):=bT.set (q6.mono fun k _ hk=>.inl hk) (.inr fun h=>by have h:w3.heap.size+1<=w.heap.size:=h;omega);have B7:Bt g w (w6.setCell ⟨w3.heap.size+1,3,ai⟩ (.slice p6 2 n6)):=by
   have bZ:=HB.out;have hb5:Bt g w w5:=by exact qe
   exact bT.call hb5 q7 fun k hk _=>Nat.le_of_lt hk
  have R7:=R5.low (w2:=w6.setCell ⟨w3.heap.size+1,3,ai⟩ (.slice p6 2 n6)) (q7.mono fun k _ hk=>by have hk':k<=g:=hk;omega);have h37:w3.heap.size+1<(w6.setCell ⟨w3.heap.size+1,3,ai⟩ (.slice p6 2 n6)).heap.size:=Y7.lt;replace Y:Hid (bX (w6.setCell ⟨w3.heap.size+1,3,ai⟩ (.slice p6 2 n6)) (w3.heap.size+1) 26 #[.int .i64 o,.string ⟨#[]⟩,.int .i64 0,.slice p6 2 n6]):=X Y7;replace Z:=X z7;replace HB:=X B7;replace HR:=X R7;have K3:=X k7;clear Y5 Y6 Y7 k6 k7 z7 q7 B7 R7 q5 q6 R5 r5 k5 hrun lH gY lm4 f6 l0 l1 l2 l3 fz HO s5 s6;go_wp2_with fail;refine qo HS HB (qX iG _ (HR.out.low qe) bS bS) ?_;clear HS HB HR;rintro x8 b8 u8 v8 w8-HS q8 rfl HR HB;replace Z:=bV Z w8;replace Y:=X (cO (w2:=w8) Y.out ayN);replace K3:=X (ja (w2:=w8) K3.out qe);clear q8;obtain⟨l0,l1,l2,l3,-⟩:=df Y.out;obtain⟨y0,y1,y2,y3,fz⟩:=df Z.out;go_wp2_with fail;have bZ:=HB.out;refine bodyPost_ret (v:=.agg (b_ (dF o x3 x5) (p6) 2 n6)) ?_ rfl (QO.mk (V:=VX) (x:=dF o x3 x5) ⟨(p6),2,n6,rfl,?_⟩ qe (HR.out.low qe) (uY HS))
  · exact results_cell_row rfl _ _ w.heap.size 26 _ (0,0) _ rfl (mi Z.out rfl) underlying26 rfl dA
  · have KK:=K3.out;exact iQ KK qe
end
end Ps
namespace Ps
open Ps.P (len)
open Go.RowKit
open Lx (Tk)
open Ex (Gives)
theorem abY {t:List Tk} (h:t.length<=3):pat t=false:=by
 have e:t.tail.tail.tail=[]:=List.length_eq_zero_iff.1 (by rw[List.length_tail,List.length_tail,List.length_tail];omega);unfold pat;rw[e,show is iG []=false from rfl,Bool.and_false]
section
variable {L:Lk} {g:Nat} {b:Bool} {t:List Tk}
theorem ayO {p:Prop} (h:p:=by
 intro w' hS'
 try dsimp only at hS'
 exact Ho
 ):p:=h
theorem azm {p:Prop} (h:p:=by kernel_rfl):p:=h
theorem azp {p:Prop} (h:p:=by assumption):p:=h
theorem alX (w:World) (hR:Rp L g b t w) (hlong:b=false->is fK t=true->3<t.length->av ah 244 #[.pointer (U ⟨g,0,ai⟩)] w (Gives (.bool (pat t)) w)):av ah 244 #[.pointer (U ⟨g,0,ai⟩)] w (Gives (.bool (!b&&pat t)) w):=by
 have C1:=X (fun W (hW:Below w.heap.size w W)=>iF fK W (hR.low (bT.of hW)) bS bS);obtain⟨z,hz⟩:∃z,(!b&&is fK t)=z:=⟨_,rfl⟩
 rw[hz] at C1;have HR:=X hR
 cases z with
 | false=>
  have e:(!b&&pat t)=false:=by
   unfold pat
   cases b with
   | true=>rfl
   | false=>rw[show is fK t=false by simpa using hz];rfl
  rw[e];clear e hz hR;go_enter func244,ntmps244;go_wp2_with fail;refine wp_region_held_drew (S:=fun _=>True) azm trivial (fun hHeld=>?_);refine wpAnyH_take (i:=0) (oi:={ dst:=U 6,op:=Op.move (ae 0),type:=68,pos := "ref.go:275",after:=#[],guard:=ai }) (v:=?_) rfl azm azm azm (fun _ _ _ h=>h) (Or.inl ⟨by rfl,?_⟩) azp ?_;rotate_left 1
  · exact ayO
  try simp only[aj,sA,sB,sC]
  refine wpAnyH_ready (rs:=[1]) azm cz ?_;refine AllReadyH.cons (o:={ dst:=U 7,op:=Op.call { callee:=Callee.value (Operand.func 126),args:=#[ae 6,Operand.const (Value.string { data:=#[40] })],argTypes:=#[68,9] },type:=4,pos := "ref.go:275",after:=#[{ on:=0,ground:=af }],guard:=ai }) rfl (fun K hK=>?_) ?_;rotate_left 1
  · exact AllReadyH.nil
  go_simp
  refine(C1.out _ bl).mono ?_;rintro e w1 ⟨rfl,hb1⟩;clear hHeld;refine hK.out _ _ trivial (fun hHeld=>?_);clear hK K
  try simp only[aj,sA,sB,sC]
  refine wpAnyH_take (i:=2) (oi:={ dst:=U 8,op:=Op.unOp UnOp.not 4 (ae 7),type:=4,pos := "ref.go:275",after:=#[{ on:=1,ground:=af }],guard:=ai }) (v:=?_) rfl azm azm azm (fun _ _ _ h=>h) (Or.inl ⟨by rfl,?_⟩) azp ?_;rotate_left 1
  · exact ayO
  try simp only[aj,sA,sB,sC]
  refine wpAnyH_take (i:=3) (oi:={ dst:=U 9,op:=Op.move (ae 8),type:=4,pos := "ref.go:275",after:=#[{ on:=2,ground:=af },{ on:=1,ground:=Ground.chain }],guard:=ai }) (v:=?_) rfl azm azm azm (fun _ _ _ h=>h) (Or.inl ⟨by rfl,?_⟩) azp ?_;rotate_left 1
  · exact ayO
  try simp only[aj,sA,sB,sC]
  refine wpAnyH_take (i:=4) (oi:={ dst:=U 10,op:=Op.move (ae 0),type:=68,pos := "ref.go:275",after:=#[{ on:=3,ground:=ag }],guard:=U (3,false) }) (v:=undef) rfl azm azm azm (fun _ _ _ h=>h) (Or.inr ⟨by kernel_rfl,rfl⟩) azp ?_
  try simp only[aj,sA,sB,sC]
  refine wpAnyH_take (i:=5) (oi:={ dst:=U 11,op:=Op.nilCheck (ae 10),type:=0,pos := "ref.go:275",after:=#[{ on:=4,ground:=af },{ on:=3,ground:=ag }],guard:=U (3,false) }) (v:=undef) rfl azm azm azm (fun _ _ _ h=>h) (Or.inr ⟨by kernel_rfl,rfl⟩) azp ?_
  try simp only[aj,sA,sB,sC]
  refine wpAnyH_take (i:=6) (oi:={ dst:=U 12,op:=Op.fieldAddr 70 (ae 11) 1,type:=0,pos := "ref.go:275",after:=#[{ on:=5,ground:=af },{ on:=3,ground:=ag }],guard:=U (3,false) }) (v:=undef) rfl azm azm azm (fun _ _ _ h=>h) (Or.inr ⟨by kernel_rfl,rfl⟩) azp ?_
  try simp only[aj,sA,sB,sC]
  refine wpAnyH_take (i:=7) (oi:={ dst:=U 13,op:=Op.load 3 (ae 12),type:=3,pos := "ref.go:275",after:=#[{ on:=6,ground:=af },{ on:=3,ground:=ag }],guard:=U (3,false) }) (v:=undef) rfl azm azm azm (fun _ _ _ h=>h) (Or.inr ⟨by kernel_rfl,rfl⟩) azp ?_
  try simp only[aj,sA,sB,sC]
  refine wpAnyH_take (i:=8) (oi:={ dst:=U 14,op:=Op.binOp BinOp.add 3 (ae 13) (Operand.const (Value.int IntKind.i64 3)) 3,type:=3,pos := "ref.go:275",after:=#[{ on:=7,ground:=af },{ on:=3,ground:=ag }],guard:=U (3,false) }) (v:=undef) rfl azm azm azm (fun _ _ _ h=>h) (Or.inr ⟨by kernel_rfl,rfl⟩) azp ?_
  try simp only[aj,sA,sB,sC]
  refine wpAnyH_take (i:=9) (oi:={ dst:=U 15,op:=Op.move (ae 0),type:=68,pos := "ref.go:275",after:=#[{ on:=3,ground:=ag }],guard:=U (3,false) }) (v:=undef) rfl azm azm azm (fun _ _ _ h=>h) (Or.inr ⟨by kernel_rfl,rfl⟩) azp ?_
  try simp only[aj,sA,sB,sC]
  refine wpAnyH_take (i:=10) (oi:={ dst:=U 16,op:=Op.nilCheck (ae 15),type:=0,pos := "ref.go:275",after:=#[{ on:=9,ground:=af },{ on:=3,ground:=ag }],guard:=U (3,false) }) (v:=undef) rfl azm azm azm (fun _ _ _ h=>h) (Or.inr ⟨by kernel_rfl,rfl⟩) azp ?_
  try simp only[aj,sA,sB,sC]
  refine wpAnyH_take (i:=11) (oi:={ dst:=U 17,op:=Op.fieldAddr 70 (ae 16) 0,type:=0,pos := "ref.go:275",after:=#[{ on:=10,ground:=af },{ on:=3,ground:=ag }],guard:=U (3,false) }) (v:=undef) rfl azm azm azm (fun _ _ _ h=>h) (Or.inr ⟨by kernel_rfl,rfl⟩) azp ?_
  try simp only[aj,sA,sB,sC]
  refine wpAnyH_take (i:=12) (oi:={ dst:=U 18,op:=Op.load 65 (ae 17),type:=65,pos := "ref.go:275",after:=#[{ on:=11,ground:=af },{ on:=3,ground:=ag }],guard:=U (3,false) }) (v:=undef) rfl azm azm azm (fun _ _ _ h=>h) (Or.inr ⟨by kernel_rfl,rfl⟩) azp ?_
  try simp only[aj,sA,sB,sC]
  refine wpAnyH_take (i:=13) (oi:={ dst:=U 19,op:=Op.call { callee:=Callee.builtin Builtin.len,args:=#[ae 18],argTypes:=#[65] },type:=3,pos := "ref.go:275",after:=#[{ on:=12,ground:=af },{ on:=3,ground:=ag }],guard:=U (3,false) }) (v:=undef) rfl azm azm azm (fun _ _ _ h=>h) (Or.inr ⟨by kernel_rfl,rfl⟩) azp ?_
  try simp only[aj,sA,sB,sC]
  refine wpAnyH_take (i:=14) (oi:={ dst:=U 20,op:=Op.binOp BinOp.geq 3 (ae 14) (ae 19) 3,type:=4,pos := "ref.go:275",after:=#[{ on:=8,ground:=af },{ on:=13,ground:=af },{ on:=3,ground:=ag }],guard:=U (3,false) }) (v:=undef) rfl azm azm azm (fun _ _ _ h=>h) (Or.inr ⟨by kernel_rfl,rfl⟩) azp ?_
  try simp only[aj,sA,sB,sC]
  refine wpAnyH_take (i:=15) (oi:={ dst:=U 21,op:=Op.pick (ae 9) (Operand.const (Value.bool true)) (ae 20),type:=4,pos := "ref.go:275",after:=#[{ on:=3,ground:=af },{ on:=14,ground:=af }],guard:=ai }) (v:=?_) rfl azm azm azm (fun _ _ _ h=>h) (Or.inl ⟨by rfl,?_⟩) azp ?_;rotate_left 1
  · exact ayO
  try simp only[aj,sA,sB,sC]
  refine wpAnyH_done azm ?_ _;clear hHeld;exact dS
 | true=>
  obtain⟨rfl,hi⟩:b=false/\is fK t=true:=by simpa using hz
  obtain⟨l1,l2,l3⟩:=hR.len;have l4:=hR.few;obtain⟨j,hj⟩:∃j,L.at t=j:=⟨_,rfl⟩
  have c0:=hR.c0;have c1:=hR.c1;rw[hj] at c1 l1 l3;have hw1:IntKind.i64.wrap ((j:Int)+1)=(j:Int)+1:=by rw[IntKind.wrap_i64];omega
  have hw2:IntKind.i64.wrap ((j:Int)+2)=(j:Int)+2:=by rw[IntKind.wrap_i64];omega
  have hw3:IntKind.i64.wrap ((j:Int)+3)=(j:Int)+3:=by rw[IntKind.wrap_i64];omega
  by_cases h4:t.length<=3
  · rw[abY h4];have e3:decide (((L.m:Nat):Int)<=(j:Int)+3)=true:=decide_eq_true bU;have HJ:=X hj;clear hz hR hi l1 l2 l3 l4 h4 hj
    show av _ _ _ _ (Gives (.bool false) w)
    have F:=X (fun W (hW:Below w.heap.size w W)=>And.intro ((HR.out.low (w2:=W) (bT.of hW)).c0) (show W.cell? ⟨g,1,ai⟩=U (.int .i64 ((j:Nat):Int)) by have h:=(HR.out.low (w2:=W) (bT.of hW)).c1;rw[HJ.out] at h;exact h));go_enter func244,ntmps244;go_wp2_with fail;go_region_with (refine(C1.out _ bl).mono ?_;rintro e w1 ⟨rfl,hb1⟩;have d0:=(F.out w1 bl).1;have d1:=(F.out w1 bl).2)
    all_goals
     go_wp2_with fail;go_ret;exact⟨rfl,bl⟩
  · exact hlong rfl hi bU
end
end Ps
end Go.Proofs.YthnillhnjhalmaaGreatDoor
