/-
  Parts of this proof: How much is read of statements. The first wrong token exists. The contracts of endLine and scan. The contract of scan. The contract of Tokens. The contract of the reference's Check. What is read from a text is a valid list of toke. The tokens of a text, as a list that a reader re. The contract of the reference's Tokens. Lines.
-/
import Derived.Test.YtbgodajefaahdaaGreatDoorYTSum
import Derived.WalkMore
open List renaming length_cons->ae,length_append->ag
open Nat renaming le_refl->af,le_trans->ah
open Go renaming World->ai
open Go.RowKit.Below renaming refl->aj
set_option linter.unusedVariables false
open Go.Lib (hid)
namespace Go.Proofs.YtbgodajefaahdaaGreatDoor
namespace Ps
open Ps.P (rt fl bd acc see kd)
open Lx (Tk bs)
open Ex (Ex Js)
open Sm (St Dt zE cn eZ ord fw Ar zI Jr GU D6 lY)
def ZS (d:Nat) (x:St):Prop:=x.nm.size<=20000/\x.f.size<=20000/\QX x.e d/\QX x.g d/\∀y∈x.ar,QX y d
theorem ZS.le {x:St} {d c:Nat} (h:ZS d x) (hd:d<=c):ZS c x:=⟨h.1,h.2.1,h.2.2.1.le hd,h.2.2.2.1.le hd,fun y hy=>(h.2.2.2.2 y hy).le hd⟩
theorem ZS.szS {x:St} {d:Nat} (h:ZS d x) (hd:d<=1000000):D6 x:=⟨ah h.1 (by decide),ah h.2.1 (by decide),⟨h.2.2.1.sz,ah h.2.2.1.1 hd⟩,⟨h.2.2.2.1.sz,ah h.2.2.2.1.1 hd⟩,fun y hy=>⟨(h.2.2.2.2 y hy).sz,ah (h.2.2.2.2 y hy).1 hd⟩⟩
def QS (x:St) (d:Nat):Prop:=cn x<=d/\∀y∈ord x,ZS d y
def oM (l:List St) (d:Nat):Prop:=eZ l<=d/\∀y∈fw l,ZS d y
theorem QS.le {x:St} {d c:Nat} (h:QS x d) (hd:d<=c):QS x c:=⟨ah h.1 hd,fun y hy=>(h.2 y hy).le hd⟩
theorem oM.le {l:List St} {d c:Nat} (h:oM l d) (hd:d<=c):oM l c:=⟨ah h.1 hd,fun y hy=>(h.2 y hy).le hd⟩
theorem oM.nil {d:Nat}:oM [] d:=⟨Nat.zero_le _,fun y hy=>by rw[fw] at hy;cases hy⟩
theorem eu {p:Prop} (h:p:=by omega):p:=h
theorem oM.snoc {l:List St} {x:St} {d c k:Nat} (h:oM l d) (g:QS x c) (hk:d+c<=k):oM (l++[x]) k:=by
 refine⟨?_,fun y hy=>?_⟩
 · have h1:=h.1;have h2:=g.1;rw[Jr];simp only[eZ];omega
 · rw[GU,List.mem_append] at hy;rcases hy with hy|hy
   · exact(h.2 y hy).le eu
   · simp only[fw,List.append_nil] at hy;exact(g.2 y hy).le eu
theorem oM.Dw {l:List St} {d:Nat} (h:oM l d) (hd:d<=1000000):lY l:=fun x hx=>(h.2 x hx).szS hd
theorem G5 {o:Int} {nm f:ByteArray} {e g:Ex} {ar:List Ex} {di:Dt} {fl:Bool} {bo el:List St} {d a b:Nat} (h1:nm.size<=20000) (h2:f.size<=20000) (h3:QX e d) (h4:QX g d) (h5:∀y∈ar,QX y d) (h6:oM bo a) (h7:oM el b) (h8:a+b+1<=d):QS (.mk o nm f e g ar di fl bo el) d:=by
 refine⟨?_,fun y hy=>?_⟩
 · have e1:=h6.1;have e2:=h7.1;rw[Ar]
   show eZ bo+eZ el+1<=d
   omega
 · rw[zI,List.mem_cons,List.mem_append] at hy;rcases hy with rfl|hy|hy
   · exact⟨h1,h2,h3,h4,h5⟩
   · exact(h6.2 y hy).le eu
   · exact(h7.2 y hy).le eu
theorem zJ {d:Nat} (h:1<=d):QX zE d:=Dj (Nat.zero_le _) h
theorem Dh {o:Int} {nm f:ByteArray} {e:Ex} {d:Nat} (h1:nm.size<=20000) (h2:f.size<=20000) (h3:QX e d) (h:1<=d):QS (dD o nm f e) d:=G5 (a:=0) (b:=0) h1 h2 h3 (zJ h) (fun y hy=>by cases hy) .nil .nil eu
theorem JB {s:ByteArray} (hs:¬bs s=[]):cO (fun x d=>d=2/\x.size<=20000) (vL s):=.bd (mf hs) fun _ a ha=>mK.imp fun x d h=>⟨by omega,h.2⟩
theorem JA (o:Int):cO QS (qZ o):=.bd mK fun s a ha=>.bd zl fun e d he=>.rt (Dh ha.2 o8 (he.le eu) eu)
theorem Tn {α:Type} {Q:α->Nat->Prop} {e:P α} (hm:∀x a b,Q x a->a<=b->Q x b) (hp:∀x d,Q x d->1<=d) (h:cO Q e):∀n l k,(∀y∈l,Q y k)->l.length<=k->cO (fun x d=>(∀y∈x,Q y (k+d))/\x.length<=k+d) (xq e n l)
 | 0,_,_,_,_=>.fl
 | n+1,l,k,hl,hk=>by
  rw[OZ];refine .acc (by decide) (.rt ⟨fun y hy=>hm _ _ _ (hl y hy) eu,by omega⟩) ?_
  cases l with
  | nil=>
   exact .bd h fun x d hx=>(Tn hm hp h n [x] (k+d) (fun y hy=>by rw[List.mem_singleton] at hy;subst hy;exact hm _ _ _ hx eu) (by have:=hp _ _ hx;simp;omega)).imp fun z c hz=>⟨fun y hy=>hm _ _ _ (hz.1 y hy) eu,by omega⟩
  | cons y r=>
   exact .bd (mf (by decide)) fun _ a ha=>.bd h fun x d hx=>(Tn hm hp h n ((y::r)++[x]) (k+d) (fun z hz=>by
    rcases List.mem_append.1 hz with hz|hz
    · exact hm _ _ _ (hl z hz) eu
    · rw[List.mem_singleton] at hz;subst hz;exact hm _ _ _ hx eu) (by have:=hp _ _ hx;simp at hk ⊢; omega)).imp fun z c hz=>⟨fun y hy=>hm _ _ _ (hz.1 y hy) eu,by omega⟩
theorem aaR {α:Type} {Q:α->Nat->Prop} {e:P α} (hm:∀x a b,Q x a->a<=b->Q x b) (hp:∀x d,Q x d->1<=d) (h:cO Q e):cO (fun x d=>(∀y∈x,Q y d)/\x.length<=d) (xu e):=
 .bd (mf (by decide)) fun _ a ha=>(Tn hm hp h FU [] 0 (fun y hy=>by cases hy) (af _)).imp fun x d hx=>⟨fun y hy=>hm _ _ _ (hx.1 y hy) eu,by omega⟩
theorem aaJ (o:Int) {f:ByteArray} (hf:f.size<=20000):cO QS (y8 o f):=
 .bd mK fun s a ha=>.bd (aaR (Q:=QX) (fun x a b h hb=>h.le hb) (fun x d h=>ah (Js x) h.1) zl) fun l b hl=>.bd (mf (by decide)) fun _ c hc=>.bd zl fun e d he=>
  .rt (G5 (a:=0) (b:=0) ha.2 hf (he.le eu) (zJ eu) (fun y hy=>(hl.1 y hy).le eu) .nil .nil eu)
theorem aaL:cO QX cnd:=.bd zl fun e d he=>.bd rZ fun _ a ha=>.rt (he.le eu)
theorem alC:cO (fun _ d=>1<=d) dst:=
 .acc (by decide) (.bd pR fun _ a ha=>.rt eu) <|
 .acc (by decide) (.bd pR fun _ a ha=>.bd pR fun _ b hb=>.rt eu) <|
 .acc (by decide) (.bd aaZ fun _ a ha=>.rt eu) <|
 .acc (by decide) (.bd pR fun _ a ha=>.bd pR fun _ b hb=>.bd pR fun _ c hc=>.rt eu) <|
 .acc (by decide) (.bd pR fun _ a ha=>.bd pR fun _ b hb=>.rt eu) .fl
theorem QS.up {x:St} {d:Nat} (h:QS x d):QS x (1+d):=h.le eu
theorem alM {B:P (List St)} (h:cO oM B):cO QS (stt B):=
 .acc (by decide) (.bd mK fun s a ha=>.bd (mf (by decide)) fun _ b hb=>.bd zl fun e d he=>.rt (Dh ha.2 o8 (he.le eu) eu)) <|
 .acc (by decide) (.bd mK fun s a ha=>.bd (JB (by decide)) fun f b hb=>.bd alC fun d c hc=>.rt (G5 (a:=0) (b:=0) ha.2 hb.2 (zJ eu) (zJ eu) (fun y hy=>by cases hy) .nil .nil eu)) <|
 .acc (by decide) (.bd aaL fun e a ha=>.bd h fun b c hb=>.bd (.acc (Q:=oM) (by decide) (.bd rZ fun _ u hu=>h.imp fun x d hx=>hx.le eu) (.rt .nil)) fun l d hl=>.bd (mf (by decide)) fun _ k hk=>.rt (G5 (a:=c) (b:=d) o8 o8 (ha.le eu) (zJ eu) (fun y hy=>by cases hy) hb hl eu)) <|
 .acc (by decide) (.bd aaL fun e a ha=>.bd h fun b c hb=>.bd (mf (by decide)) fun _ k hk=>.rt (G5 (a:=c) (b:=0) o8 o8 (ha.le eu) (zJ eu) (fun y hy=>by cases hy) hb .nil eu)) <|
 .acc (by decide) (.bd zl fun e d he=>.rt (Dh o8 o8 (he.le eu) eu)) <|
 .acc (by decide) (.bd mK fun s a ha=>.bd zl fun e d he=>.bd (mf (by decide)) fun _ b hb=>.bd zl fun g c hc=>.bd (.acc (Q:=fun(_:Bool) _=>True) (by decide) (.rt trivial) (.rt trivial)) fun z k hz=>.rt (G5 (a:=0) (b:=0) ha.2 o8 (he.le eu) (hc.le eu) (fun y hy=>by cases hy) .nil .nil eu)) <|
 .acc (by decide) ((JA 7).imp fun x d hx=>hx.up) <|
 .acc (by decide) (.bd zl fun e d he=>.bd (JB (by decide)) fun s a ha=>.rt (Dh ha.2 o8 (he.le eu) eu)) <|
 .acc (by decide) (.bd mK fun f a ha=>.bd (JB (by decide)) fun s b hb=>.rt (Dh hb.2 ha.2 (zJ eu) eu)) <|
 .acc (by decide) (.bd mK fun s a ha=>.rt (Dh ha.2 o8 (zJ eu) eu)) <|
 .acc (by decide) (.bd mK fun s a ha=>.rt (Dh ha.2 o8 (zJ eu) eu)) <|
 .acc (by decide) ((JA 12).imp fun x d hx=>hx.up) <|
 .acc (by decide) (.bd mK fun f a ha=>.bd (mf (by decide)) fun _ b hb=>(aaJ 13 ha.2).imp fun x d hx=>hx.le eu) <|
 .acc (by decide) ((aaJ 14 o8).imp fun x d hx=>hx.up) <|
 .acc (by decide) ((JA 15).imp fun x d hx=>hx.up) <|
 .acc (by decide) ((JA 16).imp fun x d hx=>hx.up) <|
 .acc (by decide) ((JA 17).imp fun x d hx=>hx.up) <|
 .acc (by decide) (.rt (Dh o8 o8 (zJ eu) eu)) <|
 .fl
theorem aa2 {S:P St} (h:cO QS S):∀n l k,oM l k->cO (fun x d=>oM x (k+d)) (xC S n l)
 | 0,_,_,_=>.fl
 | n+1,l,k,hl=>.see (.rt hl) <| .see (.rt hl) <| .kd (.rt hl) <| .bd h fun x d hx=>.bd rZ fun _ a ha=>(aa2 h n _ (k+d) (hl.snoc hx (af _))).imp fun y c hy=>hy.le eu
theorem aaN:∀n,cO oM (fS n)
 | 0=>.fl
 | n+1=>by
  rw[fS];exact(aa2 (alM (aaN n)) FU [] 0 .nil).imp fun x d hx=>hx.le eu
theorem aa3:cO oM Bu:=aaN FU
theorem ao1 {t u:List Tk} {l:List St} (g:Gd t) (hl:t.length<=30000) (h:run vM t=.ok l u):eZ l<=30000/\lY l:=by
 unfold vM at h
 cases hm:run Bu t with
 | no v=>rw[fQ hm] at h;cases h
 | ok y v=>
  obtain⟨h1,d,h2,h3⟩:=aa3.out g hm;rw[fD hm] at h;have e:l=y:=by
   cases ym:run q_ v with
   | no v3=>rw[fQ ym] at h;cases h
   | ok y3 v3=>rw[fD ym,zL] at h;cases h;rfl
  subst e;exact⟨by have:=h3.1;omega,h3.Dw eu⟩
end Ps
namespace Ps
open Ps.P (rt fl bd acc see kd kw tk exp len)
open Lx (Tk bs mt)
open Ex (Ex)
open Sm (St)
open Md (b_ dx)
def nz:{α:Type}->P α->Prop
 | _,.rt _=>True
 | _,.fl=>True
 | _,.bd m k=>nz m/\∀x,nz (k x)
 | _,.acc s A B=>(¬bs s=[])/\nz A/\nz B
 | _,.see _ A B=>nz A/\nz B
 | _,.kd _ A B=>nz A/\nz B
 | _,.kw A B=>nz A/\nz B
 | _,.tk k=>¬k=0
 | _,.exp s=>¬bs s=[]
 | _,.len m _=>nz m
theorem XU {p:Prop} (h:p:=by
 intro hn t g;rw[nz] at hn;rw[run]
 split
 · exact ih1 hn.1 t g
 · exact ih2 hn.2 t g
 ):p:=h
theorem aed {α:Type} (m:P α):nz m->∀t,Gd t->(∀x u,run m t=.ok x u->Gd u)/\(∀u,run m t=.no u->Gd u):=by
 induction m with
 | rt x=>exact fun _ t g=>⟨fun y u h=>(by rw[run] at h;cases h;exact g),fun u h=>(by rw[run] at h;cases h)⟩
 | fl=>exact fun _ t g=>⟨fun y u h=>(by rw[run] at h;cases h),fun u h=>(by rw[run] at h;cases h;exact g)⟩
 | bd m k ih1 ih2=>
  intro hn t g;rw[nz] at hn
  cases hm:run m t with
  | ok y v=>
   have hv:=(ih1 hn.1 t g).1 y v hm;exact⟨fun x u h=>(by rw[run,hm] at h;exact(ih2 y (hn.2 y) v hv).1 x u h),fun u h=>(by rw[run,hm] at h;exact(ih2 y (hn.2 y) v hv).2 u h)⟩
  | no v=>exact⟨fun x u h=>(by rw[run,hm] at h;cases h),fun u h=>(by rw[run,hm] at h;cases h;exact(ih1 hn.1 t g).2 _ hm)⟩
 | acc s A B ih1 ih2=>
  intro hn t g;rw[nz] at hn;rw[run];by_cases h:is s t=true
  · rw[if_pos h];exact ih1 hn.2.1 _ (Cw g hn.1 h).1
  · rw[if_neg h];exact ih2 hn.2.2 t g
 | see s A B ih1 ih2=>
  exact XU
 | kd k A B ih1 ih2=>
  exact XU
 | kw A B ih1 ih2=>
  exact XU
 | tk k=>
  intro hn t g;rw[nz] at hn;rw[run]
  split
  · rename_i h
    exact⟨fun x u e=>(by cases e;exact(g.tail (by rw[h];exact hn)).1),fun u e=>(by cases e)⟩
  · exact⟨fun x u e=>(by cases e),fun u e=>(by cases e;exact g)⟩
 | exp s=>
  intro hn t g;rw[nz] at hn;rw[run]
  split
  · rename_i h
    exact⟨fun x u e=>(by cases e;exact(Cw g hn h).1),fun u e=>(by cases e)⟩
  · exact⟨fun x u e=>(by cases e),fun u e=>(by cases e;exact g)⟩
 | len m f ih=>
  intro hn t g;rw[nz] at hn
  cases hm:run m t with
  | ok y v=>exact⟨fun x u h=>(by rw[run,hm] at h;cases h;exact(ih hn t g).1 _ _ hm),fun u h=>(by rw[run,hm] at h;cases h)⟩
  | no v=>exact⟨fun x u h=>(by rw[run,hm] at h;cases h),fun u h=>(by rw[run,hm] at h;cases h;exact(ih hn t g).2 _ hm)⟩
section
variable {α β:Type}
theorem eU {x:α}:nz (rt x):=by rw[nz];trivial
theorem fH:nz (fl:P α):=by rw[nz];trivial
theorem dU {m:P β} {k:β->P α} (h:nz m) (hk:∀x,nz (k x)):nz (bd m k):=by rw[nz];exact⟨h,hk⟩
theorem gy {s:ByteArray} {A B:P α} (hs:¬bs s=[]) (hA:nz A) (hB:nz B):nz (acc s A B):=by rw[nz];exact⟨hs,hA,hB⟩
theorem iq {s:ByteArray} {A B:P α} (hA:nz A) (hB:nz B):nz (see s A B):=by rw[nz];exact⟨hA,hB⟩
theorem iE {k:Int} {A B:P α} (hA:nz A) (hB:nz B):nz (kd k A B):=by rw[nz];exact⟨hA,hB⟩
theorem iQ {A B:P α} (hA:nz A) (hB:nz B):nz (kw A B):=by rw[nz];exact⟨hA,hB⟩
theorem Yn {k:Int} (h:¬k=0):nz (tk k):=by rw[nz];exact h
theorem gP {s:ByteArray} (h:¬bs s=[]):nz (exp s):=by rw[nz];exact h
theorem je {m:P β} {f:Nat->β->α} (h:nz m):nz (len m f):=by rw[nz];exact h
theorem jd {c:Prop} [Decidable c] {A B:P α} (hA:nz A) (hB:nz B):nz (if c then A else B):=by split <;> assumption
end
theorem iR:nz num:=dU (Yn (by decide)) fun _=>eU
theorem il:nz fP:=iQ fH (dU (Yn (by decide)) fun _=>eU)
theorem gG:nz fU:=dU (Yn (by decide)) fun _=>eU
theorem Yi:nz vz:=by unfold vz;repeat' (first|exact eU|exact fH|exact iR|exact il|exact gG|assumption|(with_reducible apply dU)|(with_reducible apply gy)|(with_reducible apply iq)|(with_reducible apply iE)|(with_reducible apply iQ)|(with_reducible apply gP)|(with_reducible apply je)|(with_reducible apply jd)|decide|intro _)
theorem Yo:nz vW:=by unfold vW;repeat' (first|exact eU|exact fH|exact iR|exact il|exact gG|assumption|(with_reducible apply dU)|(with_reducible apply gy)|(with_reducible apply iq)|(with_reducible apply iE)|(with_reducible apply iQ)|(with_reducible apply gP)|(with_reducible apply je)|(with_reducible apply jd)|decide|intro _)
theorem Yl {s:ByteArray} (h:¬bs s=[]):nz (vL s):=dU (gP h) fun _=>il
theorem ahe:nz ui:=by unfold ui;repeat' (first|exact eU|exact fH|exact iR|exact il|exact gG|assumption|(with_reducible apply dU)|(with_reducible apply gy)|(with_reducible apply iq)|(with_reducible apply iE)|(with_reducible apply iQ)|(with_reducible apply gP)|(with_reducible apply je)|(with_reducible apply jd)|decide|intro _)
theorem ahh:nz pr:=by unfold pr;repeat' (first|exact eU|exact fH|exact iR|exact il|exact gG|assumption|(with_reducible apply dU)|(with_reducible apply gy)|(with_reducible apply iq)|(with_reducible apply iE)|(with_reducible apply iQ)|(with_reducible apply gP)|(with_reducible apply je)|(with_reducible apply jd)|decide|intro _)
theorem ahi:∀n l,nz (ER n l)
 | 0,_=>fH
 | n+1,l=>iE (dU ahh fun x=>ahi n _) eU
theorem ahj:nz yD:=dU ahh fun x=>ahi FU _
theorem Yj {α:Type} {e:P α} (h:nz e):∀n l,nz (xq e n l)
 | 0,_=>fH
 | n+1,[]=>gy (by decide) eU (dU h fun x=>Yj h n _)
 | n+1,y::r=>gy (by decide) eU (dU (gP (by decide)) fun _=>dU h fun x=>Yj h n _)
theorem Yk {α:Type} {e:P α} (h:nz e):nz (xu e):=dU (gP (by decide)) fun _=>Yj h FU _
theorem ag7:nz dst:=by have h:=ahj;unfold dst;repeat' (first|exact eU|exact fH|exact iR|exact il|exact gG|assumption|(with_reducible apply dU)|(with_reducible apply gy)|(with_reducible apply iq)|(with_reducible apply iE)|(with_reducible apply iQ)|(with_reducible apply gP)|(with_reducible apply je)|(with_reducible apply jd)|decide|intro _)
theorem ahg {α:Type} {A:Int->P α} {B:P α} (hA:∀o,nz (A o)) (hB:nz B):∀{os:List (ByteArray×Int)},(∀q∈os,¬bs q.1=[])->nz (zG A B os)
 | [],_=>hB
 | q::r,hs=>gy (hs q (.head _)) (hA _) (ahg hA hB fun p hp=>hs p (.tail _ hp))
theorem ag6 {m:P Ex} {os:List (ByteArray×Int)} (h:nz m) (hs:∀q∈os,¬bs q.1=[]):∀n e,nz (wI m os n e)
 | 0,_=>fH
 | n+1,e=>ahg (fun o=>dU h fun y=>ag6 h hs n _) eU hs
theorem Q_ {m:P Ex} {os:List (ByteArray×Int)} (h:nz m) (hs:∀q∈os,¬bs q.1=[]):nz (zi m os):=dU h fun e=>ag6 h hs FU e
section
variable {E F N:P Ex}
theorem ahf (h:nz E) (o:Int):nz (one E o):=by unfold one;repeat' (first|exact eU|exact fH|exact iR|exact il|exact gG|assumption|(with_reducible apply dU)|(with_reducible apply gy)|(with_reducible apply iq)|(with_reducible apply iE)|(with_reducible apply iQ)|(with_reducible apply gP)|(with_reducible apply je)|(with_reducible apply jd)|decide|intro _)
theorem aho (h:nz E) (o:Int):nz (two E o):=by unfold two;repeat' (first|exact eU|exact fH|exact iR|exact il|exact gG|assumption|(with_reducible apply dU)|(with_reducible apply gy)|(with_reducible apply iq)|(with_reducible apply iE)|(with_reducible apply iQ)|(with_reducible apply gP)|(with_reducible apply je)|(with_reducible apply jd)|decide|intro _)
theorem Ym (o:Int):nz (zF o):=by unfold zF;repeat' (first|exact eU|exact fH|exact iR|exact il|exact gG|assumption|(with_reducible apply dU)|(with_reducible apply gy)|(with_reducible apply iq)|(with_reducible apply iE)|(with_reducible apply iQ)|(with_reducible apply gP)|(with_reducible apply je)|(with_reducible apply jd)|decide|intro _)
theorem as6 (h:nz E):nz (AB E):=by unfold AB;repeat' (first|exact eU|exact fH|exact iR|exact il|exact gG|assumption|(with_reducible apply dU)|(with_reducible apply gy)|(with_reducible apply iq)|(with_reducible apply iE)|(with_reducible apply iQ)|(with_reducible apply gP)|(with_reducible apply je)|(with_reducible apply jd)|decide|intro _)
theorem af8 {p:Prop} (h:p:=by
 repeat' (first|exact eU|exact fH|exact iR|exact il|exact gG|assumption|(with_reducible apply dU)|(with_reducible apply gy)|(with_reducible apply iq)|(with_reducible apply iE)|(with_reducible apply iQ)|(with_reducible apply gP)|(with_reducible apply je)|(with_reducible apply jd)|decide|intro _)
 ):p:=h
theorem as_ (h:nz E):nz (De E):=by
 have h1:=Yo;have h2:=ahf h 7;have h3:=ahf h 8;have h4:=aho h 20;have h5:=aho h 21;have h6:=Ym 22;have h7:=Ym 23;have h8:=Ym 24;have h9:=as6 h;unfold De;exact af8
theorem Yh (h:nz E) (hF:nz F):nz (x_ E F):=by have h1:=as_ h;unfold x_;repeat' (first|exact eU|exact fH|exact iR|exact il|exact gG|assumption|(with_reducible apply dU)|(with_reducible apply gy)|(with_reducible apply iq)|(with_reducible apply iE)|(with_reducible apply iQ)|(with_reducible apply gP)|(with_reducible apply je)|(with_reducible apply jd)|decide|intro _)
theorem atj (h:nz F):nz (sum F):=Q_ (Q_ h (by decide)) (by decide)
theorem as0 (h:nz F):nz (cmp F):=by have h1:=atj h;unfold cmp;repeat' (first|exact eU|exact fH|exact iR|exact il|exact gG|assumption|(with_reducible apply dU)|(with_reducible apply gy)|(with_reducible apply iq)|(with_reducible apply iE)|(with_reducible apply iQ)|(with_reducible apply gP)|(with_reducible apply je)|(with_reducible apply jd)|decide|intro _)
theorem ahd (h:nz F) (hN:nz N):nz (Ba F N):=by have h1:=as0 h;unfold Ba;repeat' (first|exact eU|exact fH|exact iR|exact il|exact gG|assumption|(with_reducible apply dU)|(with_reducible apply gy)|(with_reducible apply iq)|(with_reducible apply iE)|(with_reducible apply iQ)|(with_reducible apply gP)|(with_reducible apply je)|(with_reducible apply jd)|decide|intro _)
theorem as3 (h:nz N):nz (Ck N):=Q_ (Q_ h (by decide)) (by decide)
theorem aha:∀n,nz (fF n)/\nz (fN n)/\nz (fE n)
 | 0=>by rw[fF,fN,fE];exact⟨fH,fH,fH⟩
 | n+1=>by
  obtain⟨h1,h2,h3⟩:=aha n;rw[fF,fN,fE];exact⟨Yh h3 h1,ahd (Yh h3 h1) h2,as3 (ahd (Yh h3 h1) h2)⟩
end
theorem Mf:nz kF:=(aha FU).2.2
theorem Me (o:Int):nz (qZ o):=by have h:=Mf;unfold qZ;repeat' (first|exact eU|exact fH|exact iR|exact il|exact gG|assumption|(with_reducible apply dU)|(with_reducible apply gy)|(with_reducible apply iq)|(with_reducible apply iE)|(with_reducible apply iQ)|(with_reducible apply gP)|(with_reducible apply je)|(with_reducible apply jd)|decide|intro _)
theorem ag5 (o:Int) (f:ByteArray):nz (y8 o f):=by have h:=Mf;have h2:=Yk Mf;unfold y8;repeat' (first|exact eU|exact fH|exact iR|exact il|exact gG|assumption|(with_reducible apply dU)|(with_reducible apply gy)|(with_reducible apply iq)|(with_reducible apply iE)|(with_reducible apply iQ)|(with_reducible apply gP)|(with_reducible apply je)|(with_reducible apply jd)|decide|intro _)
theorem as1:nz cnd:=by have h:=Mf;unfold cnd;repeat' (first|exact eU|exact fH|exact iR|exact il|exact gG|assumption|(with_reducible apply dU)|(with_reducible apply gy)|(with_reducible apply iq)|(with_reducible apply iE)|(with_reducible apply iQ)|(with_reducible apply gP)|(with_reducible apply je)|(with_reducible apply jd)|decide|intro _)
theorem ati {B:P (List St)} (h:nz B):nz (stt B):=by
 have h1:=Mf;have h2:=as1;have h3:=ag7;have c7:=Me 7;have c12:=Me 12;have c15:=Me 15;have c16:=Me 16;have c17:=Me 17;have b13:=ag5 13;have b14:=ag5 14 mt;have n1:=Yl (s:=Uw) (by decide);have n2:=Yl (s:=adg) (by decide);unfold stt
 repeat' (first|exact b13 _|exact eU|exact fH|exact iR|exact il|exact gG|assumption|(with_reducible apply dU)|(with_reducible apply gy)|(with_reducible apply gP)|decide|intro _)
theorem ahl {S:P St} (h:nz S):∀n l,nz (xC S n l)
 | 0,_=>fH
 | n+1,l=>iq eU (iq eU (iE eU (dU h fun x=>dU gG fun _=>ahl h n _)))
theorem ag8:∀n,nz (fS n)
 | 0=>fH
 | n+1=>ahl (ati (ag8 n)) FU []
theorem ahm:nz Bu:=ag8 FU
theorem ahp:nz typ:=by unfold typ;repeat' (first|exact eU|exact fH|exact iR|exact il|exact gG|assumption|(with_reducible apply dU)|(with_reducible apply gy)|(with_reducible apply iq)|(with_reducible apply iE)|(with_reducible apply iQ)|(with_reducible apply gP)|(with_reducible apply je)|(with_reducible apply jd)|decide|intro _)
theorem ahq:nz val:=by have h1:=ahp;have h2:=Yo;have h3:=Yi;unfold val;repeat' (first|exact eU|exact fH|exact iR|exact il|exact gG|assumption|(with_reducible apply dU)|(with_reducible apply gy)|(with_reducible apply iq)|(with_reducible apply iE)|(with_reducible apply iQ)|(with_reducible apply gP)|(with_reducible apply je)|(with_reducible apply jd)|decide|intro _)
theorem ag9:nz zm:=by have h1:=ahp;unfold zm;repeat' (first|exact eU|exact fH|exact iR|exact il|exact gG|assumption|(with_reducible apply dU)|(with_reducible apply gy)|(with_reducible apply iq)|(with_reducible apply iE)|(with_reducible apply iQ)|(with_reducible apply gP)|(with_reducible apply je)|(with_reducible apply jd)|decide|intro _)
theorem ate:nz Qd:=by have h1:=ahj;unfold Qd;repeat' (first|exact eU|exact fH|exact iR|exact il|exact gG|assumption|(with_reducible apply dU)|(with_reducible apply gy)|(with_reducible apply iq)|(with_reducible apply iE)|(with_reducible apply iQ)|(with_reducible apply gP)|(with_reducible apply je)|(with_reducible apply jd)|decide|intro _)
theorem as5:nz Ay:=by have h1:=ag7;unfold Ay;repeat' (first|exact eU|exact fH|exact iR|exact il|exact gG|assumption|(with_reducible apply dU)|(with_reducible apply gy)|(with_reducible apply iq)|(with_reducible apply iE)|(with_reducible apply iQ)|(with_reducible apply gP)|(with_reducible apply je)|(with_reducible apply jd)|decide|intro _)
theorem atc:nz gq:=by have h1:=ate;have h2:=as5;unfold gq;repeat' (first|exact eU|exact fH|exact iR|exact il|exact gG|assumption|(with_reducible apply dU)|(with_reducible apply gy)|(with_reducible apply iq)|(with_reducible apply iE)|(with_reducible apply iQ)|(with_reducible apply gP)|(with_reducible apply je)|(with_reducible apply jd)|decide|intro _)
theorem as9:nz GV:=by unfold GV;repeat' (first|exact eU|exact fH|exact iR|exact il|exact gG|assumption|(with_reducible apply dU)|(with_reducible apply gy)|(with_reducible apply iq)|(with_reducible apply iE)|(with_reducible apply iQ)|(with_reducible apply gP)|(with_reducible apply je)|(with_reducible apply jd)|decide|intro _)
theorem ath:nz Fu:=by have h1:=as9;unfold Fu;repeat' (first|exact eU|exact fH|exact iR|exact il|exact gG|assumption|(with_reducible apply dU)|(with_reducible apply gy)|(with_reducible apply iq)|(with_reducible apply iE)|(with_reducible apply iQ)|(with_reducible apply gP)|(with_reducible apply je)|(with_reducible apply jd)|decide|intro _)
theorem asZ:nz blt:=by unfold blt;repeat' (first|exact eU|exact fH|exact iR|exact il|exact gG|assumption|(with_reducible apply dU)|(with_reducible apply gy)|(with_reducible apply iq)|(with_reducible apply iE)|(with_reducible apply iQ)|(with_reducible apply gP)|(with_reducible apply je)|(with_reducible apply jd)|decide|intro _)
theorem ag_:∀n l,nz (Cz n l)
 | 0,_=>fH
 | n+1,l=>gy (by decide) (dU ag9 fun x=>dU gG fun _=>ag_ n _) eU
theorem atb:nz E_:=by have h1:=Yk ag9;have h2:=ag_ FU [];have h3:=ahm;unfold E_;repeat' (first|exact eU|exact fH|exact iR|exact il|exact gG|assumption|(with_reducible apply dU)|(with_reducible apply gy)|(with_reducible apply iq)|(with_reducible apply iE)|(with_reducible apply iQ)|(with_reducible apply gP)|(with_reducible apply je)|(with_reducible apply jd)|decide|intro _)
theorem asY:nz arg:=by have h1:=Yo;have h2:=Yi;unfold arg;repeat' (first|exact eU|exact fH|exact iR|exact il|exact gG|assumption|(with_reducible apply dU)|(with_reducible apply gy)|(with_reducible apply iq)|(with_reducible apply iE)|(with_reducible apply iQ)|(with_reducible apply gP)|(with_reducible apply je)|(with_reducible apply jd)|decide|intro _)
theorem as4:nz Od:=by unfold Od;repeat' (first|exact eU|exact fH|exact iR|exact il|exact gG|assumption|(with_reducible apply dU)|(with_reducible apply gy)|(with_reducible apply iq)|(with_reducible apply iE)|(with_reducible apply iQ)|(with_reducible apply gP)|(with_reducible apply je)|(with_reducible apply jd)|decide|intro _)
theorem atg:nz Fq:=by have h1:=Yk asY;have h2:=as4;unfold Fq;repeat' (first|exact eU|exact fH|exact iR|exact il|exact gG|assumption|(with_reducible apply dU)|(with_reducible apply gy)|(with_reducible apply iq)|(with_reducible apply iE)|(with_reducible apply iQ)|(with_reducible apply gP)|(with_reducible apply je)|(with_reducible apply jd)|decide|intro _)
theorem ahn:nz xE:=by unfold xE;repeat' (first|exact eU|exact fH|exact iR|exact il|exact gG|assumption|(with_reducible apply dU)|(with_reducible apply gy)|(with_reducible apply iq)|(with_reducible apply iE)|(with_reducible apply iQ)|(with_reducible apply gP)|(with_reducible apply je)|(with_reducible apply jd)|decide|intro _)
theorem atd:nz Dp:=by have h1:=ahn;unfold Dp;repeat' (first|exact eU|exact fH|exact iR|exact il|exact gG|assumption|(with_reducible apply dU)|(with_reducible apply gy)|(with_reducible apply iq)|(with_reducible apply iE)|(with_reducible apply iQ)|(with_reducible apply gP)|(with_reducible apply je)|(with_reducible apply jd)|decide|intro _)
theorem ahb:∀n l,nz (CV n l)
 | 0,_=>fH
 | n+1,l=>gy (by decide) eU (dU atd fun x=>ahb n _)
theorem as7:nz law:=dU il fun s=>dU (gP (by decide)) fun _=>dU (iq eU (dU ahn fun x=>eU)) fun l=>dU (ahb FU l) fun ts=>dU Yi fun n=>dU gG fun _=>eU
theorem as2 (x:b_):nz (Au x):=by
 have h1:=ahq;have h2:=atc;have h3:=ath;have h4:=asZ;have h5:=ahe;have h6:=atb;have h7:=atg;have h8:=as7;unfold Au;exact af8
theorem ahk:∀n x,nz (yF n x)
 | 0,_=>fH
 | n+1,x=>gy (by decide) eU (dU (as2 x) fun y=>ahk n y)
theorem atf:nz sit:=dU ahe fun s=>dU (ahk FU _) fun x=>dU gG fun _=>eU
theorem as8:nz Km:=by unfold Km;repeat' (first|exact eU|exact fH|exact iR|exact il|exact gG|assumption|(with_reducible apply dU)|(with_reducible apply gy)|(with_reducible apply iq)|(with_reducible apply iE)|(with_reducible apply iQ)|(with_reducible apply gP)|(with_reducible apply je)|(with_reducible apply jd)|decide|intro _)
theorem ata (m:dx):nz (prt m):=by have h1:=ahq;have h2:=as8;have h3:=atf;unfold prt;repeat' (first|exact eU|exact fH|exact iR|exact il|exact gG|assumption|(with_reducible apply dU)|(with_reducible apply gy)|(with_reducible apply iq)|(with_reducible apply iE)|(with_reducible apply iQ)|(with_reducible apply gP)|(with_reducible apply je)|(with_reducible apply jd)|decide|intro _)
theorem ahc:∀n m,nz (AZ n m)
 | 0,_=>fH
 | n+1,m=>gy (by decide) eU (dU (ata m) fun y=>ahc n y)
theorem ad_ {α:Type} {m:P α} (hm:nz m) {t u:List Tk} (g:Gd t) (h:run (bd m fun x=>bd q_ fun _=>rt x) t=.no u):Gd u:=by
 cases h1:run m t with
 | no v=>rw[fQ h1] at h;cases h;exact(aed m hm t g).2 _ h1
 | ok x v=>
  have g1:=(aed m hm t g).1 _ _ h1;rw[fD h1] at h;unfold q_ at h;by_cases h2:(hd v).k=0
  · rw[fD (fD (Bv h2))] at h;cases h
  · rw[fQ (fQ (Dx h2))] at h
    cases h;exact g1
theorem U1 {t u:List Tk} (g:Gd t) (h:run vM t=.no u):Gd u:=ad_ ahm g h
theorem Nc {α β γ:Type} {m:P α} {k:α->P β} {K:β->P γ} (t:List Tk):run (bd (bd m k) K) t=run (bd m fun x=>bd (k x) K) t:=by
 cases h1:run m t with
 | no v=>rw[fQ h1,fQ (fQ h1)]
 | ok x v=>
  rw[fD h1]
  cases h2:run (k x) v with
  | no u=>rw[fQ h2,fQ ((fD h1).trans h2)]
  | ok y u=>rw[fD h2,fD ((fD h1).trans h2)]
theorem Nf {α β:Type} {m:P α} {k K:α->P β} (t:List Tk) (h:∀x u,run (k x) u=run (K x) u):run (bd m k) t=run (bd m K) t:=by
 cases h1:run m t with
 | no v=>rw[fQ h1,fQ h1]
 | ok x v=>rw[fD h1,fD h1,h]
theorem aqx {α β:Type} {x:α} {K:α->P β} (t:List Tk):run (bd (rt x) K) t=run (K x) t:=fD zL
theorem UO {t u:List Tk} (g:Gd t) (h:run vK t=.no u):Gd u:=by
 refine ad_ (m:=bd (vL GD) fun s=>bd fU fun _=>bd (AZ FU ⟨s,[],[],[]⟩) fun m=>bd fU fun _=>rt m) (dU (Yl (by decide)) fun s=>dU gG fun _=>dU (ahc FU _) fun m=>dU gG fun _=>eU) g (Eq.trans ?_ h);rw[Nc];refine Nf _ fun x v=>?_;rw[Nc];refine Nf _ fun x2 v2=>?_;rw[Nc];refine Nf _ fun x3 v3=>?_;rw[Nc];exact Nf _ fun y z=>by rw[aqx]
end Ps
namespace Lx
open Nu
open Go.RowKit
set_option maxHeartbeats 2000000
theorem U3 (m:List Tk) (x:Tk):opn (m++[x])=decide (x.k≠4):=by unfold opn;rw[List.getLast?_concat]
theorem alO (m:List Tk) (x:Tk) (n:Nat) (h:x.k=4):fK (m++[x]) n=m++[x]:=by unfold fK;rw[U3,if_neg (by simp[h])]
theorem alQ (m:List Tk) (x:Tk) (n:Nat) (h:¬x.k=4):fK (m++[x]) n=m++[x]++[⟨4,mt,0,(n:Int)⟩]:=by unfold fK;rw[U3,if_pos (by simp[h])]
theorem JC (a:List Tk) (n:Nat):(fK a n).length<=a.length+1:=by
 unfold fK
 split
 · simp
 · omega
def DU (lo:Nat) (v:Value) (l:List Tk) (w:ai) (e:Ending) (w':ai):Prop:=∃v',e=.returned v'/\Own lo w' v' l/\w.grownBy w' v.ownBlock
theorem DU.same {lo:Nat} {v:Value} {l:List Tk} {w:ai} (h:Own lo w v l):DU lo v l w (.returned v) w:=⟨v,rfl,h,⟨rfl,rfl,rfl,af _,fun _ _ _=>rfl⟩⟩
theorem OA {w w':ai} {o:Obj} {row:Option Nat} (h:(w.alloc o).grownBy w' row):w.grownBy w' row:=((World.grownBy_alloc w o none).but row).trans h
set_option maxRecDepth 100000 in
theorem aa9 {lo:Nat} {v:Value} {l:List Tk} (n:Nat) (w:ai) (ho:Own lo w v l) (hlo:lo<=w.heap.size) (hl:l.length<=1000000):Calls Tryz.prog 56 #[v,.int .i64 (n:Int)] w (DU lo v (fK l n) w):=by
 obtain⟨p,c,rfl,hT,hc,hp⟩:=EN ho;rcases List.eq_nil_or_concat l with rfl|⟨m,x,rfl⟩
 · have HG:=hid (DU.same ho);clear hT hp ho;go_enter Tryz.func56,Tryz.ntmps56;go_wp2_with fail;go_ret;exact HG.out
 · rw[List.concat_eq_append] at *
   obtain⟨-,-,h0|⟨b,o,rfl,hb,hcell⟩⟩:=hT
   · rw[ag] at h0;simp at h0
   · have hx:=hcell.out m.length (by simp);rw[List.getElem_concat_length rfl] at hx;have e1:=hx.1;obtain⟨N,hN⟩:∃N,(m++[x]).length=N:=⟨_,rfl⟩
     have hN1:m.length+1=N:=by rw[← hN,ag];rfl
     have ho':=ho;have hl':=hl;rw[hN] at hc hl;obtain⟨M,hM⟩:∃M,m.length=M:=⟨_,rfl⟩
     rw[hM] at e1 hN1;have c0:((N:Int)==0)=false:=by rw[beq_eq_false_iff_ne];omega
     have c1:(N:Int)-1=(M:Int):=by omega
     have c2:(0:Int)<=(M:Int):=by omega
     have c3:(M:Int)<(N:Int):=by omega
     by_cases hk:x.k=4
     · rw[hk] at e1;have HG:Hid (DU lo _ (fK (m++[x]) n) w _ w):=hid (by rw[alO m x n hk];exact DU.same ho);rw[hN] at HG;rw[hN];clear ho ho' hx hcell hN hM hp hk;go_enter Tryz.func56,Tryz.ntmps56;go_wp2_with fail;go_ret;exact HG.out
     · have q1:(x.k==4)=false:=beq_eq_false_iff_ne.2 hk;have hB:Below w.heap.size w (w.alloc (.cells #[.int .i64 4,.string ⟨#[]⟩,.int .i64 0,.int .i64 (n:Int)] 135)):=ji (aj _ _);obtain⟨v2,w2,hrun,ho2,hg2⟩:=RZ (own_below ho hB) (by simp) (A_ (w:=w) (x:=⟨4,mt,0,(n:Int)⟩) (t:=135)) hl' (by have:=hB.size;omega);have HG:Hid (DU lo _ (fK (m++[x]) n) w (.returned v2) w2):=hid (by rw[alQ m x n hk];exact⟨v2,rfl,ho2,OA hg2⟩);rw[hN] at HG hrun;rw[hN];clear ho ho' hx hcell hN hM hp hk ho2 hg2 hB;go_enter Tryz.func56,Tryz.ntmps56;go_wp2_with (at_builtin;refine Lib.wpList_append_run _ rfl _ _ _ _ rfl _ _ rfl rfl _ _ hrun ?_)
       go_ret;exact HG.out
end Lx
namespace Lx
open Nu
open Go.RowKit
set_option maxHeartbeats 4000000
theorem akQ {c:UInt8} (h:kK c=true):c.toNat<128:=by have:=SX h;omega
theorem asV {c:UInt8} (h:nW c=true):c.toNat<128:=by
 unfold nW DN mO nk at h;simp only[Bool.or_eq_true,Bool.and_eq_true,decide_eq_true_eq] at h;omega
theorem ae8 {l:List UInt8} (h:iA l=true):∀c∈l,c.toNat<128:=by
 unfold iA Fh at h;simp only[List.contains_eq_mem,List.mem_cons,List.not_mem_nil,or_false,decide_eq_true_eq] at h;rcases h with rfl|rfl|rfl|rfl|rfl|rfl|rfl|rfl|rfl|rfl|rfl|rfl|rfl|rfl|rfl|rfl <;> decide
theorem ani {c:UInt8} (h:f_ c=false):c.toNat=10:=by
 unfold f_ EC at h;by_cases h7:((c.toNat:Nat):Int)=10
 · omega
 · rw[decide_eq_false h7] at h;cases h
theorem amv {l:List UInt8} {x:Tk} {k:Nat} (h:fT l=some (x,k)):∀c∈l.take k,c.toNat<128:=by
 unfold fT at h;by_cases h1:dz ko l=0
 · rw[if_pos h1] at h;by_cases h2:dz kK l=0
   · rw[if_pos h2] at h;by_cases h3:2<=l.length/\iA (l.take 2)=true
     · rw[if_pos h3] at h;cases h;exact ae8 h3.2
     · rw[if_neg h3] at h;by_cases h4:iA (l.take 1)=true
       · rw[if_pos h4] at h;cases h;exact ae8 h4
       · rw[if_neg h4] at h;cases h
   · rw[if_neg h2] at h
     split at h
     · cases h;exact fun c hc=>akQ (afh c hc)
     · cases h
 · rw[if_neg h1] at h;cases h
   exact fun c hc=>asV (afh c hc)
def RJ (s:ByteArray) (pos bh:Nat):Prop:=∀p,pos<=p->p<bh->p<s.size->p+(Utf8.decode s p).2<=bh
theorem arj {s:ByteArray} {pos bh:Nat} (h:∀p,pos<=p->p<bh->(g:p<s.size)->(s[p]'g).toNat<128):RJ s pos bh:=by
 intro p h1 h2 g;rw[decode_ascii s p g (h p h1 h2 g)];exact h2
theorem nZ {p:Prop} (h:p:=by omega):p:=h
theorem ark {s:ByteArray} {pos bh:Nat} (hb:bh<=s.size) (h:(g:bh<s.size)->(s[bh]'g).toNat<128):RJ s pos bh:=by
 intro p h1 h2 g;obtain⟨m1,m2,m3⟩:=Ch s p g;rcases Nat.lt_or_ge bh (p+(Utf8.decode s p).2) with h3|h3
 · exfalso
   have hlt:bh<s.size:=by omega
   obtain⟨j,rfl⟩:∃j,bh=p+j:=⟨bh-p,by omega⟩
   have:=m3 j nZ nZ hlt;have:=h hlt;omega
 · exact h3
structure qY (s:ByteArray) (R:dm) (pos bh q n:Nat) (a:List Tk):Prop where
 hpos:pos<=s.size
 JP:bh<=s.size
 hq:(bh<=pos/\q=pos)∨(pos<bh/\q=bh)
 skip:RJ s pos bh
 rest:cz ((bs s).drop q) a n=R
 len:a.length<=q
 line:n<=q+1
theorem aqT (s:ByteArray):qY s (cz (bs s) [] 1) 0 0 0 1 []:=⟨Nat.zero_le _,Nat.zero_le _,.inl ⟨af _,rfl⟩,fun p _ h=>absurd h (Nat.not_lt_zero _),by rw[List.drop_zero],af _,af _⟩
theorem qY.apM {s:ByteArray} {R:dm} {pos bh q n:Nat} {a:List Tk} (h:qY s R pos bh q n a):q<=s.size:=by have:=h.hq;have:=h.hpos;have:=h.JP;omega
theorem aqP {s:ByteArray} {R:dm} {pos bh q n:Nat} {a:List Tk} (h:qY s R pos bh q n a) (hp:¬pos<s.size):R=⟨a,n,false⟩:=by
 have h1:=h.hq;have h2:=h.JP;have hq:s.size<=q:=by omega
 rw[← h.rest,List.drop_eq_nil_of_le (by rw[eG];exact hq)];rfl
theorem aqS {s:ByteArray} {R:dm} {pos bh q n:Nat} {a:List Tk} (h:qY s R pos bh q n a) (hp:pos<s.size) (hb:pos<bh):qY s R (pos+(Utf8.decode s pos).2) bh q n a:=by
 obtain⟨m1,m2,-⟩:=Ch s pos hp;have hs:=h.skip pos (af _) hb hp;have hq:=h.hq;exact⟨m2,h.JP,by omega,fun p h1 h2=>h.skip p nZ h2,h.rest,h.len,h.line⟩
theorem drop_at {s:ByteArray} {pos:Nat} (hp:pos<s.size):(bs s).drop pos=s[pos]::(bs s).drop (pos+1):=by
 rw[List.drop_eq_getElem_cons (by rw[eG];exact hp)];rfl
theorem Vv {s:ByteArray} {pos r:Nat} (hp:pos<s.size) (hr:(Utf8.decode s pos).1=r) (h:r<128):s[pos].toNat=r/\(Utf8.decode s pos).2=1:=by
 by_cases ha:(s[pos]'hp).toNat<128
 · rw[decode_ascii s pos hp ha] at hr ⊢; exact⟨hr,rfl⟩
 · have:=(decode_high s pos hp nZ).1;omega
theorem Qj {c:UInt8} {n:Nat} (h:c.toNat=n) (hn:n<256):c=UInt8.ofNat n:=by
 apply UInt8.toNat_inj.1
 rw[UInt8.toNat_ofNat',h];omega
theorem aqO {s:ByteArray} {R:dm} {pos bh q n:Nat} {a:List Tk} (h:qY s R pos bh q n a) (hp:pos<s.size) (hb:¬pos<bh) {r:Nat} (hr:(Utf8.decode s pos).1=r) (h2:r=32∨r=9):qY s R (pos+(Utf8.decode s pos).2) bh (pos+1) n a:=by
 obtain⟨e1,e2⟩:=Vv hp hr nZ;have hq:=h.hq;obtain rfl:q=pos:=by omega
 rw[e2];refine⟨by omega,h.JP,.inl ⟨by omega,rfl⟩,fun p g1 g2=>by omega,?_,by have:=h.len;omega,by have:=h.line;omega⟩;rw[← h.rest,drop_at hp,OX];rcases h2 with rfl|rfl
 · exact .inl (Qj e1 (by decide))
 · exact .inr (Qj e1 (by decide))
theorem aqR {s:ByteArray} {R:dm} {pos bh q n:Nat} {a:List Tk} (h:qY s R pos bh q n a) (hp:pos<s.size) (hb:¬pos<bh) (hr:(Utf8.decode s pos).1=35):qY s R (pos+(Utf8.decode s pos).2) (pos+dz f_ ((bs s).drop pos)) (pos+dz f_ ((bs s).drop pos)) n a:=by
 obtain⟨e1,e2⟩:=Vv hp hr nZ;have hq:=h.hq;obtain rfl:q=pos:=by omega
 have ec:s[q]=35:=Qj e1 (by decide);have hd:=drop_at hp;rw[ec] at hd;have h1:=yG (p:=f_) (t:=(bs s).drop (q+1)) Cv;rw[← hd] at h1;have h3:=zS f_ ((bs s).drop q);rw[List.length_drop,eG] at h3;rw[e2];refine⟨by omega,by omega,?_,?_,?_,by have:=h.len;omega,by have:=h.line;omega⟩
 · by_cases g:dz f_ ((bs s).drop q)=1
   · rw[g];exact .inl ⟨af _,rfl⟩
   · exact .inr ⟨by omega,rfl⟩
 · refine ark nZ fun g=>?_;have h4:=afb (p:=f_) (l:=(bs s).drop q) (by rw[List.length_drop,eG];omega);rw[List.getElem_drop] at h4;have h5:f_ (s[q+dz f_ ((bs s).drop q)]'g)=false:=h4;have h6:=ani h5;omega
 · rw[← h.rest];have h5:cz ((bs s).drop q) a n=cz (((bs s).drop q).drop (dz f_ ((bs s).drop q))) a n:=by rw[hd];exact OY
   rw[h5,List.drop_drop]
theorem aqQ {s:ByteArray} {R:dm} {pos bh q n:Nat} {a:List Tk} (h:qY s R pos bh q n a) (hp:pos<s.size) (hb:¬pos<bh) (hr:(Utf8.decode s pos).1=10):qY s R (pos+(Utf8.decode s pos).2) bh (pos+1) (n+1) (fK a n):=by
 obtain⟨e1,e2⟩:=Vv hp hr nZ;have hq:=h.hq;obtain rfl:q=pos:=by omega
 have ec:s[q]=10:=Qj e1 (by decide);rw[e2];refine⟨by omega,h.JP,.inl ⟨by omega,rfl⟩,fun p g1 g2=>by omega,?_,by have:=h.len;have:=JC a n;omega,by have:=h.line;omega⟩;rw[← h.rest,drop_at hp,ec,CJ]
theorem asb {s:ByteArray} {pos r:Nat} (hp:pos<s.size) (hr:(Utf8.decode s pos).1=r) (h1:¬r=32) (h2:¬r=9) (h3:¬r=35) (h4:¬r=10):Lj s[pos]:=by
 have key:∀m:Nat,m<128->s[pos]=UInt8.ofNat m->r=m:=by
  intro m hm e;have e1:s[pos].toNat=m:=by rw[e,UInt8.toNat_ofNat'];omega
  rw[decode_ascii s pos hp nZ] at hr;rw[← hr];exact e1
 exact⟨fun g=>g.elim (fun e=>h1 (key 32 nZ e)) (fun e=>h2 (key 9 nZ e)),fun e=>h3 (key 35 nZ e),fun e=>h4 (key 10 nZ e)⟩
theorem aqU {s:ByteArray} {R:dm} {pos bh q n:Nat} {a:List Tk} (h:qY s R pos bh q n a) (hp:pos<s.size) (hb:¬pos<bh) (ht:Lj s[pos]) {x:Tk} {k:Nat} (e:fT ((bs s).drop pos)=some (x,k)):pos+k<=s.size/\qY s R (pos+(Utf8.decode s pos).2) (pos+k) (pos+k) n (a++[mP x n]):=by
 have hq:=h.hq;obtain rfl:q=pos:=by omega
 obtain⟨k1,k2⟩:=su e;have hlow:=amv e;rw[List.length_drop,eG] at k2;have hl2:∀p,q<=p->p<q+k->(g:p<s.size)->(s[p]'g).toNat<128:=by
  intro p g1 g2 g;refine hlow _ ?_;have:(s[p]'g)=((bs s).drop q)[p-q]'(by rw[List.length_drop,eG];omega):=by
   rw[List.getElem_drop];have e3:q+(p-q)=p:=by omega
   simp only[e3];rfl
  rw[this];rw[List.mem_take_iff_getElem];exact⟨p-q,by rw[List.length_drop,eG];omega,rfl⟩
 have hd:=drop_at hp;have e2:(Utf8.decode s q).2=1:=by rw[decode_ascii s q hp (hl2 q (af _) nZ hp)]
 rw[e2];refine⟨by omega,by omega,by omega,?_,arj fun p g1 g2 g=>hl2 p nZ g2 g,?_,by rw[ag];have:=h.len;simp;omega,by have:=h.line;omega⟩
 · by_cases g:k=1
   · subst g;exact .inl ⟨af _,rfl⟩
   · exact .inr ⟨by omega,rfl⟩
 · rw[← h.rest];rw[hd] at e ⊢;rw[an1 ht e,← hd,List.drop_drop]
theorem aqN {s:ByteArray} {R:dm} {pos bh q n:Nat} {a:List Tk} (h:qY s R pos bh q n a) (hp:pos<s.size) (hb:¬pos<bh) (ht:Lj s[pos]) (e:fT ((bs s).drop pos)=none):R=⟨a,n,true⟩:=by
 have hq:=h.hq;obtain rfl:q=pos:=by omega
 rw[← h.rest];rw[drop_at hp] at e ⊢;exact anY ht e
theorem apq {lo:Nat} {w:ai} {v:Value} {l:List Tk} {k:Nat} {s:ByteArray} {pos:Nat} (ho:Own lo w v l) (hk:w.heap[k]?=some (.stringIter s pos)) (pos':Nat):Own lo (w.iterAt k s pos') v l:=by
 refine World.ownsRow.kept ho (row:=some k) ⟨rfl,rfl,rfl,by rw[Lib.iterAt_size];exact af _,fun j _ hj=>Lib.iterAt_other w k j s pos' (fun e=>hj (by rw[e]))⟩ ?_;rcases ho.2 with⟨rfl,h0⟩|⟨g,cap,cur,rfl,hgg,Gw,-⟩
 · exact .inl rfl
 · refine .inr fun e=>?_;simp[Value.ownBlock] at e
   subst e;rw[hk] at Gw;cases Gw
def Y9 (w:ai) (R:dm) (e:Ending) (w':ai):Prop:=∃v,e=.returned (.tuple #[v,.int .i64 (R.n:Int),.bool R.bad])/\Own w.heap.size w' v R.a/\Below w.heap.size w w'
theorem ae7 {w w':ai} {R:dm} {a:List Tk} {n:Nat} {b:Bool} {v:Value} {e:Ending} (h:R=⟨a,n,b⟩) (he:e=.returned (.tuple #[v,.int .i64 (n:Int),.bool b])) (ho:Own w.heap.size w' v a) (hb:Below w.heap.size w w'):Y9 w R e w':=by
 subst h;exact⟨v,he,ho,hb⟩
structure uV (w:ai) (s:ByteArray) (pos:Nat) (v:Value) (a:List Tk) (wr:ai):Prop where
 own:Own w.heap.size wr v a
 iter:wr.heap[w.heap.size]?=some (.stringIter s pos)
 below:Below w.heap.size w wr
theorem uV.next {w wr:ai} {s:ByteArray} {pos:Nat} {v:Value} {a:List Tk} (h:uV w s pos v a wr) (pos':Nat):uV w s pos' v a (wr.iterAt w.heap.size s pos'):=
 ⟨apq h.own h.iter pos',Lib.iterAt_heap wr _ s pos pos' h.iter,Lib.below_iterAt h.below (af _) s pos'⟩
theorem uV.call {w wr w2:ai} {s:ByteArray} {pos:Nat} {v:Value} {a:List Tk} (h:uV w s pos v a wr) (hb:Below wr.heap.size wr w2):uV w s pos v a w2:=
 ⟨own_below h.own hb,(hb.block _ (Array.getElem?_eq_some_iff.1 h.iter).1).trans h.iter,tT h.below hb⟩
theorem uV.grew {w wr w2:ai} {s:ByteArray} {pos:Nat} {v v2:Value} {a a2:List Tk} (h:uV w s pos v a wr) (ho:Own w.heap.size w2 v2 a2) (hg:wr.grownBy w2 v.ownBlock):uV w s pos v2 a2 w2:=
 ⟨ho,anG h.own hg h.iter,below_grown h.below h.below.size h.own hg⟩
theorem uV.start (w:ai) (s:ByteArray):uV w s 0 (.slice none 0 0) [] (w.iter s 0):=⟨World.ownsRow_nil _ _ _ _,World.iter_heap w s 0,ji (aj _ _)⟩
theorem aga {p:Prop} (h:p:=by
 go_wp2_with fail;go_roundw
 case rel=>exact⟨pos+m,b,pos+1,n,a,rfl,rfl,rfl,Ah,HX.out⟩
 case measure=>
  have h5:w2.iterPos w.heap.size=pos+m:=by simp[World.iterPos,HX.out.iter]
  rw[h5,hpi];omega
 ):p:=h
set_option maxRecDepth 100000 in
theorem aqM (s:ByteArray) (w:ai) (hs:s.size<=20000) (hE:Env w):Calls Tryz.prog 55 #[.string s] w (Y9 w (cz (bs s) [] 1)):=by
 have hs':(s.size:Int)<=20000:=by omega
 have YI:=hid (aqT s);obtain⟨R,hR⟩:∃R,cz (bs s) [] 1=R:=⟨_,rfl⟩
 rw[hR] at YI;rw[hR];clear hR;have jr:Hid (Env w):=hid hE;clear hE;go_enter Tryz.func55,Tryz.ntmps55;go_wp2_with fail
 go_step3
 go_wp2_with fail
 go_step3
 go_wp2_with fail;go_loopw [5,6,7,8] (fun v ln wg bh wr=>∃pos b q n:Nat,∃a:List Tk,ln=.int .i64 (n:Nat)/\wg=.bool false/\bh=.int .i64 (b:Nat)/\Hid (qY s R pos b q n a)/\uV w s pos v a wr) (fun v ln wg bh wr=>s.size-wr.iterPos w.heap.size)
 case atStart=>exact⟨0,0,0,1,[],rfl,rfl,rfl,YI,uV.start w s⟩
 case round=>
  obtain⟨pos,b,q,n,a,rfl,rfl,rfl,HS,HW⟩:=hrel;have uU:=hid HW;have hit:=HW.iter;clear HW;by_cases hp:pos<s.size
  · have hnx:=fun ty=>Lib.run_next_any_at (P:=Tryz.prog) wr w.heap.size s pos ty hit hp;have HW2:=uU.out.next (pos+(Utf8.decode s pos).2)
    obtain⟨r,hr⟩:∃r,(Utf8.decode s pos).1=r:=⟨_,rfl⟩
    obtain⟨m,hm⟩:∃m,(Utf8.decode s pos).2=m:=⟨_,rfl⟩
    obtain⟨m1,m2,-⟩:=Ch s pos hp;rw[hm] at m1 m2 HW2;simp only[hr,hm] at hnx;obtain⟨w2,hw2⟩:∃w2,wr.iterAt w.heap.size s (pos+m)=w2:=⟨_,rfl⟩
    rw[hw2] at HW2;simp only[hw2] at hnx;have HX:=hid HW2;have hpi:wr.iterPos w.heap.size=pos:=by simp[World.iterPos,hit]
    clear HW2 hw2;by_cases hb:pos<b
    · have c1:decide ((pos:Int)<(b:Int))=true:=decide_eq_true nZ;have c2:(pos:Int)<(b:Int):=by omega
      have HS2:=aqS HS.out hp hb;rw[hm] at HS2;have Ah:=hid HS2;clear HS2 HS hr hm uU hit;go_wp2_with fail;go_roundw
      case rel=>exact⟨pos+m,b,q,n,a,rfl,rfl,rfl,Ah,HX.out⟩
      case measure=>
       have h5:w2.iterPos w.heap.size=pos+m:=by simp[World.iterPos,HX.out.iter]
       rw[h5,hpi];omega
    · have c1:decide ((pos:Int)<(b:Int))=false:=decide_eq_false nZ;have p0:(0:Int)<=(pos:Int):=by omega
      have p1:(pos:Int)<=(s.size:Int):=by omega
      have hTs:(s.extract pos s.size).size<=20000:=by rw[ByteArray.size_extract];omega
      have Eu:bs (s.extract pos s.size)=(bs s).drop pos:=by rw[ar4,pM]
      have p2:(pos:Int)<=20000:=by omega
      by_cases r1:r=32∨r=9
      · have HS2:=aqO HS.out hp hb hr r1;rw[hm] at HS2;have Ah:=hid HS2;have q32:((r:Int)==32)=true∨(((r:Int)==32)=false/\((r:Int)==9)=true):=by
         rcases r1 with rfl|rfl
         · exact .inl (by decide)
         · exact .inr ⟨by decide,by decide⟩
        clear HS2 HS hr hm uU hit hTs Eu r1;rcases q32 with q32|⟨q32,q9⟩
        · exact aga
        · exact aga
      have q32:((r:Int)==32)=false:=by rw[beq_eq_false_iff_ne];omega
      have q9:((r:Int)==9)=false:=by rw[beq_eq_false_iff_ne];omega
      by_cases r2:r=35
      · have HS2:=aqR HS.out hp hb (hr.trans r2);rw[hm,← Eu] at HS2;have q35:((r:Int)==35)=true:=by rw[r2];decide
        have I1:=aro (s.extract pos s.size) w2 nZ;have hK:=zS f_ (bs (s.extract pos s.size));rw[eG] at hK;obtain⟨K,eK⟩:∃K,dz f_ (bs (s.extract pos s.size))=K:=⟨_,rfl⟩
        rw[eK] at I1 HS2 hK;have k0:(0:Int)<=(K:Int):=by omega
        have k1:(K:Int)<=20000:=by omega
        have Ah:=hid HS2;clear HS2 HS hr hm uU hit hTs Eu r1 r2 eK hK;go_wp2_with fail;refine I1.mono ?_;rintro e w3 ⟨rfl,hb3⟩;have dV:=hid (HX.out.call hb3);go_wp2_with fail;go_roundw
        case rel=>exact⟨pos+m,pos+K,pos+K,n,a,rfl,rfl,by go_num,Ah,dV.out⟩
        case measure=>
         have h5:w3.iterPos w.heap.size=pos+m:=by simp[World.iterPos,dV.out.iter]
         rw[h5,hpi];omega
      have q35:((r:Int)==35)=false:=by rw[beq_eq_false_iff_ne];omega
      have hal:a.length<=20000/\n<=20001:=by have:=HS.out.len;have:=HS.out.line;have:=HS.out.apM;omega
      have n0:(0:Int)<=(n:Int):=by omega
      have n1:(n:Int)<=20001:=by omega
      by_cases r3:r=10
      · have HS2:=aqQ HS.out hp hb (hr.trans r3);rw[hm] at HS2;have xy:((r:Int)==10)=true:=by rw[r3];decide
        have Ah:=hid HS2;have I1:=aa9 n w2 HX.out.own HX.out.below.size nZ;clear HS2 HS hr hm uU hit hTs Eu r1 r2 r3;go_wp2_with fail;refine I1.mono ?_;rintro e w3 ⟨v3,rfl,ho3,hg3⟩;have dV:=hid (HX.out.grew ho3 hg3);clear ho3 hg3;go_wp2_with fail;go_roundw
        case rel=>exact⟨pos+m,b,pos+1,n+1,fK a n,by go_num,rfl,rfl,Ah,dV.out⟩
        case measure=>
         have h5:w3.iterPos w.heap.size=pos+m:=by simp[World.iterPos,dV.out.iter]
         rw[h5,hpi];omega
      have xy:((r:Int)==10)=false:=by rw[beq_eq_false_iff_ne];omega
      have ht:=asb hp hr (fun e=>r1 (.inl e)) (fun e=>r1 (.inr e)) r2 r3;have I1:=ame (s.extract pos s.size) w2 nZ (jr.out.below HX.out.below);rw[Eu] at I1
      cases hf:fT ((bs s).drop pos) with
      | none=>
       have HR:=hid (aqN HS.out hp hb ht hf);rw[hf] at I1;clear HS hr hm uU hit hTs Eu r1 r2 r3 ht hf hal;go_wp2_with fail;refine I1.mono ?_;rintro e w3 ⟨x,k,rfl,hb3,⟨h1,h2⟩|⟨-,rfl⟩⟩
       · cases h1
       have dV:=hid (HX.out.call hb3);go_wp2_with fail;go_ret3
       exact ae7 HR.out rfl (own_below dV.out.own (by(repeat (first|(with_reducible exact aj _ _)|(with_reducible assumption)|(with_reducible apply ji)|(with_reducible apply wF)|(with_reducible apply qB)|(with_reducible refine y_ ?_ (by first|(simp;done)|(simp;omega)) _)|(with_reducible refine tT ?_ (by assumption)))))) (by have:=dV.out.below;(repeat (first|(with_reducible exact aj _ _)|(with_reducible assumption)|(with_reducible apply ji)|(with_reducible apply wF)|(with_reducible apply qB)|(with_reducible refine y_ ?_ (by first|(simp;done)|(simp;omega)) _)|(with_reducible refine tT ?_ (by assumption)))))
      | some y=>
       obtain⟨x,k⟩:=y;obtain⟨hk2,HS2⟩:=aqU HS.out hp hb ht hf;rw[hm] at HS2;have Ah:=hid HS2;rw[hf] at I1;obtain⟨hk1,-⟩:=su hf;clear HS2 HS hr hm uU hit hTs Eu r1 r2 r3 ht hf;go_wp2_with fail;refine I1.mono ?_;rintro e w3 ⟨x',k',rfl,hb3,⟨h1,h2⟩|⟨h1,-⟩⟩
       · simp only[Option.some.injEq,Prod.mk.injEq] at h1;obtain⟨rfl,rfl⟩:=h1;have kz:((k:Int)==0)=false:=by rw[beq_eq_false_iff_ne];omega
         have k0:(0:Int)<=(k:Int):=by omega
         have k1:(pos:Int)+(k:Int)<=20000:=by omega
         have dV:=hid (HX.out.call hb3);have hB:Below w3.heap.size w3 ((w3.alloc (.cells #[.int .i64 x.k,.string x.t,.int .i64 x.n,.int .i64 (n:Int)] 135)).alloc (.cells #[.int .i64 x.k,.string x.t,.int .i64 x.n,.int .i64 (n:Int)] 135)):=ji (ji (aj _ _));have ny:=A_ (w:=w3.alloc (.cells #[.int .i64 x.k,.string x.t,.int .i64 x.n,.int .i64 (n:Int)] 135)) (x:=mP x n) (t:=135);rw[show(w3.alloc (.cells #[.int .i64 x.k,.string x.t,.int .i64 x.n,.int .i64 (n:Int)] 135)).heap.size=w3.heap.size+1 by simp] at ny;obtain⟨v4,w4,hrun,ho4,hg4⟩:=RZ (own_below dV.out.own hB) (by simp) ny nZ (by have:=hB.size;have:=dV.out.below.size;omega);have BR:=hid (dV.out.grew ho4 (OA (OA hg4)));clear hB ny ho4 hg4;go_wp2_with (at_builtin;refine Lib.wpList_append_run _ rfl _ _ _ _ rfl _ _ rfl rfl _ _ hrun ?_)
         go_roundw
         case rel=>exact⟨pos+m,pos+k,pos+k,n,a++[mP x n],rfl,rfl,by go_num,Ah,BR.out⟩
         case measure=>
          have h5:w4.iterPos w.heap.size=pos+m:=by simp[World.iterPos,BR.out.iter]
          rw[h5,hpi];omega
       · cases h1
  · have hnx:=fun ty=>Lib.run_next_end_at (P:=Tryz.prog) wr w.heap.size s pos ty hit hp;have HR:=hid (aqP HS.out hp);clear hit HS;go_wp2_with fail;go_ret3
    exact ae7 HR.out rfl uU.out.own uU.out.below
end Lx
namespace Lx
open Nu
open Go.RowKit
set_option maxHeartbeats 2000000
def fin (R:dm):List Tk:=fK R.a R.n++[⟨0,mt,0,(R.n:Int)⟩]
def eP (l:List UInt8):List Tk:=if 20000<l.length then [] else if (cz l [] 1).bad=true then [] else fin (cz l [] 1)
def mW (l:List UInt8):Nat:=if 20000<l.length then 0 else if (cz l [] 1).bad=true then (cz l [] 1).n else 0
def fI (l:List UInt8):Int:=if 20000<l.length then 6 else if (cz l [] 1).bad=true then 8 else 0
theorem Dy {l:List UInt8} (h:20000<l.length):eP l=[]/\mW l=0/\fI l=6:=by unfold eP mW fI;rw[if_pos h,if_pos h,if_pos h];exact⟨rfl,rfl,rfl⟩
theorem vV {l:List UInt8} (h:¬20000<l.length) (g:(cz l [] 1).bad=true):eP l=[]/\mW l=(cz l [] 1).n/\fI l=8:=by unfold eP mW fI;rw[if_neg h,if_neg h,if_neg h,if_pos g,if_pos g,if_pos g];exact⟨rfl,rfl,rfl⟩
theorem uJ {l:List UInt8} (h:¬20000<l.length) (g:(cz l [] 1).bad=false):eP l=fin (cz l [] 1)/\mW l=0/\fI l=0:=by unfold eP mW fI;rw[if_neg h,if_neg h,if_neg h,if_neg (by simp[g]),if_neg (by simp[g]),if_neg (by simp[g])];exact⟨rfl,rfl,rfl⟩
def BX (w:ai) (l:List Tk) (n:Nat) (x:Int) (e:Ending) (w':ai):Prop:=∃v,e=.returned (.tuple #[v,.int .i64 (n:Int),.int .i64 x])/\Own w.heap.size w' v l/\Below w.heap.size w w'
theorem WN {w w':ai} {l l2:List Tk} {n n2:Nat} {x x2:Int} {e:Ending} {v:Value} (h:l=l2/\n=n2/\x=x2) (he:e=.returned (.tuple #[v,.int .i64 (n2:Int),.int .i64 x2])) (ho:Own w.heap.size w' v l2) (hb:Below w.heap.size w w'):BX w l n x e w':=by
 obtain⟨rfl,rfl,rfl⟩:=h;exact⟨v,he,ho,hb⟩
theorem EH:∀(k:Nat) (l:List UInt8) (a:List Tk) (n:Nat),l.length<=k->(cz l a n).a.length<=a.length+l.length/\(cz l a n).n<=n+l.length
 | 0,l,a,n,h=>by
  have:l=[]:=List.length_eq_zero_iff.1 (by omega);subst this;rw[mM];exact⟨af _,af _⟩
 | k+1,[],a,n,h=>by rw[mM];exact⟨by simp,by simp⟩
 | k+1,c::t,a,n,h=>by
  have ht:t.length<=k:=by simpa using h
  rw[pX,ae]
  split
  · have:=EH k t a n ht;omega
  · split
    · rename_i h2
      have h3:=yG (p:=f_) (c:=c) (t:=t) (by rw[h2];exact Cv);have h4:=EH k ((c::t).drop (dz f_ (c::t))) a n (by rw[List.length_drop,ae];omega);rw[List.length_drop,ae] at h4;omega
    · split
      · have:=EH k t (fK a n) (n+1) ht;have:=JC a n;omega
      · cases h4:fT (c::t) with
        | none=>exact⟨by show a.length<=_;omega,by show n<=_;omega⟩
        | some y=>
         obtain⟨x,m⟩:=y;have h5:=su h4;rw[ae] at h5;have h6:=EH k ((c::t).drop m) (a++[mP x n]) n (by rw[List.length_drop,ae];omega);rw[List.length_drop,ae,ag] at h6;simp only[ae,List.length_nil] at h6;exact⟨by show(cz ((c::t).drop m) _ _).a.length<=_;omega,by show(cz ((c::t).drop m) _ _).n<=_;omega⟩
set_option maxRecDepth 100000 in
theorem He (s:ByteArray) (w:ai) (hs:s.size<=9223372036854775807) (hE:Env w):Calls Tryz.prog 27 #[.string s] w (BX w (eP (bs s)) (mW (bs s)) (fI (bs s))):=by
 by_cases h:20000<s.size
 · have HV:=hid (Dy (l:=bs s) (by rw[eG];exact h));have c1:decide ((20000:Int)<(s.size:Int))=true:=decide_eq_true (by omega);clear hE;go_enter Tryz.func27,Tryz.ntmps27;go_wp2_with fail;go_ret3
   exact WN HV.out rfl (World.ownsRow_nil _ _ _ _) (aj _ _)
 · have c1:decide ((20000:Int)<(s.size:Int))=false:=decide_eq_false (by omega);have I1:=aqM s w (by omega) hE;have hlen:=EH _ (bs s) [] 1 (af _);rw[eG] at hlen
   cases hb:(cz (bs s) [] 1).bad with
   | true=>
    have HV:=hid (vV (l:=bs s) (by rw[eG];exact h) hb)
    generalize cz (bs s) [] 1=R at *
    clear hE;go_enter Tryz.func27,Tryz.ntmps27;go_wp2_with fail;refine I1.mono ?_;rintro e w1 ⟨v,rfl,ho,hb1⟩;rw[hb];clear ho;go_wp2_with fail;go_ret3
    exact WN HV.out rfl (World.ownsRow_nil _ _ _ _) hb1
   | false=>
    have HV:=uJ (l:=bs s) (by rw[eG];exact h) hb
    generalize cz (bs s) [] 1=R at *
    obtain⟨A,n,bad⟩:=R;have hb:bad=false:=hb;subst hb;have hn:n<=20001:=by have:n<=_:=hlen.2;omega
    have hA:A.length<=20000:=by have:A.length<=_:=hlen.1;simp at this;omega
    have HV':=hid HV;have HA:=hid hA;have HN:=hid hn;clear HV hlen hE hA hn;go_enter Tryz.func27,Tryz.ntmps27;go_wp2_with fail;refine I1.mono ?_;rintro e w1 ⟨v,rfl,ho,hb1⟩;have I2:=aa9 n w1 ho hb1.size (by have:A.length<=20000:=HA.out;show A.length<=1000000;omega);go_wp2_with fail;refine I2.mono ?_;rintro e w2 ⟨v2,rfl,ho2,hg2⟩;have hb2:=below_grown hb1 hb1.size ho hg2;have hB:Below w2.heap.size w2 (w2.alloc (.cells #[.int .i64 0,.string ⟨#[]⟩,.int .i64 0,.int .i64 (n:Int)] 135)):=ji (aj _ _);obtain⟨v3,w3,hrun,ho3,hg3⟩:=RZ (own_below ho2 hB) (by simp) (A_ (w:=w2) (x:=⟨0,mt,0,(n:Int)⟩) (t:=135)) (by have:=HA.out;have:=JC A n;omega) (by have:=hB.size;have:=hb2.size;omega);have hb3:=below_grown hb2 hb2.size ho2 (OA hg3);have HO:Hid (Own w.heap.size w3 v3 (fin ⟨A,n,false⟩)/\Below w.heap.size w w3):=hid ⟨ho3,hb3⟩;clear ho ho2 ho3 hg2 hg3 hb2 hb3 hB hb1;go_wp2_with (at_builtin;refine Lib.wpList_append_run _ rfl _ _ _ _ rfl _ _ rfl rfl _ _ hrun ?_)
    go_ret3
    exact WN HV'.out rfl HO.out.1 HO.out.2
end Lx
namespace Lx
open Nu
open Go.RowKit
set_option maxHeartbeats 8000000
def bx (w':ai) (g:Nat) (x:Tk):Prop:=w'.cell? ⟨g,0,none⟩=some (.int .i64 x.k)/\w'.cell? ⟨g,1,none⟩=some (.string x.t)/\w'.cell? ⟨g,2,none⟩=some (.int .i64 x.n)/\w'.cell? ⟨g,3,none⟩=some (.int .i64 x.l)/\(∀o,w'.frozen? ⟨g,o,none⟩=false)/\g<w'.heap.size
theorem bx.new {w:ai} {x:Tk}:bx (w.alloc (.cells #[.int .i64 x.k,.string x.t,.int .i64 x.n,.int .i64 x.l] 135)) w.heap.size x:=by
 have h:=A_ (w:=w) (x:=x) (t:=135);exact⟨h.1,h.2.1,h.2.2.1,h.2.2.2,fun o=>frozen_of_row _ _ o _ _ (heap_alloc_new w _),by simp⟩
theorem bx.on {w w2:ai} {g:Nat} {x:Tk} (hb:Below w.heap.size w w2) (h:bx w g x):bx w2 g x:=by
 obtain⟨h0,h1,h2,h3,h4,h5⟩:=h;exact⟨(hb.cell (p:=⟨g,0,none⟩) h5).trans h0,(hb.cell (p:=⟨g,1,none⟩) h5).trans h1,(hb.cell (p:=⟨g,2,none⟩) h5).trans h2,(hb.cell (p:=⟨g,3,none⟩) h5).trans h3,fun o=>(hb.frozen (p:=⟨g,o,none⟩) h5).trans (h4 o),Nat.lt_of_lt_of_le h5 hb.size⟩
end Lx
namespace Lx
open Nu
set_option maxHeartbeats 1000000
structure DY (M:Nat) (a:List Tk) (n:Nat):Prop where
 pos:1<=n
 opn:¬(j5 a a.length).k=4->(j5 a a.length).l=n/\0<a.length
 shut:(j5 a a.length).k=4->(j5 a a.length).l<n
 each:∀k,k<a.length->zh (decide (k=0)) (j5 a k) (a.getD k ⟨4,mt,0,0⟩) false=0
 size:∀x∈a,x.t.size<=M
theorem Sn {a:List Tk} {x:Tk} {k:Nat} (h:k<=a.length):j5 (a++[x]) k=j5 a k:=by
 unfold j5;by_cases e:k=0
 · rw[if_pos e,if_pos e]
 · rw[if_neg e,if_neg e];simp only[List.getD];rw[List.getElem?_append_left (by omega)]
theorem Ea {a:List Tk} {x:Tk}:j5 (a++[x]) (a++[x]).length=x:=by
 rw[ag,ae,List.length_nil,Ng (by simp)];simp
theorem TP {a:List Tk} {x:Tk} {k:Nat} (h:k<a.length):(a++[x]).getD k ⟨4,mt,0,0⟩=a.getD k ⟨4,mt,0,0⟩:=by
 simp only[List.getD];rw[List.getElem?_append_left h]
theorem TN {a:List Tk} {x:Tk}:(a++[x]).getD a.length ⟨4,mt,0,0⟩=x:=by simp[List.getD]
theorem Pe {a:List Tk}:opn a=decide (¬(j5 a a.length).k=4):=by
 rcases List.eq_nil_or_concat a with rfl|⟨m,x,rfl⟩
 · rfl
 · rw[List.concat_eq_append,U3,Ea]
theorem akb {x b:Tk} {first:Bool} (h1:1<=x.k) (h3:x.k<=3) (hf:ow x=true) (hl:vN first b.k b.l x.k x.l=true):zh first b x false=0:=by
 have hp:xx b.k x.k false=true:=by
  unfold xx;rw[if_neg (by omega),if_neg (by omega)]
 unfold zh;rw[if_neg (by omega),hf,hl,hp];rfl
theorem ao3 {M:Nat} {a:List Tk} {n:Nat} {x:Tk} (h:DY M a n) (h1:1<=x.k) (h3:x.k<=3) (hf:ow x=true) (hl:x.l=n) (hs:x.t.size<=M):DY M (a++[x]) n:=by
 refine⟨h.pos,fun _=>?_,fun g=>?_,fun k hk=>?_,fun y hy=>?_⟩
 · rw[Ea];exact⟨hl,by simp⟩
 · rw[Ea] at g;omega
 · rw[ag,ae,List.length_nil] at hk;rw[Sn (by omega)];rcases Nat.lt_or_ge k a.length with g|g
   · rw[TP g];exact h.each k g
   · obtain rfl:k=a.length:=by omega
     rw[TN];refine akb h1 h3 hf ?_;have hp:=h.pos;unfold vN;by_cases e:a.length=0
     · rw[decide_eq_true e,if_pos rfl,hl];exact decide_eq_true (by omega)
     · rw[decide_eq_false e,if_neg (by decide)];by_cases e4:(j5 a a.length).k=4
       · rw[if_neg (by simp[e4]),if_neg (by omega),hl];exact decide_eq_true (h.shut e4)
       · rw[if_pos e4,hl];exact decide_eq_true (h.opn e4).1.symm
 · rcases List.mem_append.1 hy with hy|hy
   · exact h.size y hy
   · rw[List.mem_singleton] at hy;rw[hy];exact hs
theorem aeg {M:Nat} {a:List Tk} {n:Nat} (h:DY M a n):DY M (fK a n) (n+1):=by
 have hp:=h.pos;by_cases e4:(j5 a a.length).k=4
 · have e:fK a n=a:=by unfold fK;rw[Pe,if_neg (by simp[e4])]
   rw[e];refine⟨by omega,fun g=>absurd e4 g,fun g=>?_,h.each,h.size⟩;have:=h.shut g;omega
 · have e:fK a n=a++[⟨4,mt,0,(n:Int)⟩]:=by unfold fK;rw[Pe,if_pos (by simp[e4])]
   rw[e];have h0:=h.opn e4;refine⟨by omega,fun g=>?_,fun g=>?_,fun k hk=>?_,fun y hy=>?_⟩
   · rw[Ea] at g;exact absurd rfl g
   · rw[Ea];show(n:Int)<_;omega
   · rw[ag,ae,List.length_nil] at hk;rw[Sn (by omega)];rcases Nat.lt_or_ge k a.length with g|g
     · rw[TP g];exact h.each k g
     · obtain rfl:k=a.length:=by omega
       rw[TN,decide_eq_false (by omega)];have e1:ow ⟨4,mt,0,(n:Int)⟩=true:=by unfold ow;simp[mt];rfl
       have e2:xx (j5 a a.length).k 4 false=true:=by unfold xx;simp[e4]
       have e3:vN false (j5 a a.length).k (j5 a a.length).l 4 (n:Int)=true:=by
        unfold vN;rw[if_neg (by decide),if_pos e4];exact decide_eq_true h0.1.symm
       unfold zh;rw[e1,e2,e3,if_neg (show ¬((4:Int)<0∨(4:Int)<4) by decide)];rfl
   · rcases List.mem_append.1 hy with hy|hy
     · exact h.size y hy
     · rw[List.mem_singleton] at hy;rw[hy];show(0:Nat)<=M;omega
theorem amu {l:List UInt8} {x:Tk} {k:Nat} (h:fT l=some (x,k)):1<=x.k/\x.k<=3/\ow x=true/\x.t.size<=l.length:=by
 unfold fT at h;by_cases h1:dz ko l=0
 · rw[if_pos h1] at h;by_cases h2:dz kK l=0
   · rw[if_pos h2] at h;by_cases h3:2<=l.length/\iA (l.take 2)=true
     · rw[if_pos h3] at h;cases h;refine⟨by show(1:Int)<=3;decide,by show(3:Int)<=3;decide,?_,?_⟩
       · unfold ow;rw[if_neg (show ¬(3:Int)=1 by decide),if_neg (show ¬(3:Int)=2 by decide),if_pos rfl]
         show(iA (bs (mkS (l.take 2)))&&_)=true
         rw[pM,h3.2];rfl
       · show(mkS (l.take 2)).size<=_
         rw[← eG,pM,List.length_take];omega
     · rw[if_neg h3] at h;by_cases h4:iA (l.take 1)=true
       · rw[if_pos h4] at h;cases h;refine⟨by show(1:Int)<=3;decide,by show(3:Int)<=3;decide,?_,?_⟩
         · unfold ow;rw[if_neg (show ¬(3:Int)=1 by decide),if_neg (show ¬(3:Int)=2 by decide),if_pos rfl]
           show(iA (bs (mkS (l.take 1)))&&_)=true
           rw[pM,h4];rfl
         · show(mkS (l.take 1)).size<=_
           rw[← eG,pM,List.length_take];omega
       · rw[if_neg h4] at h;cases h
   · rw[if_neg h2] at h
     split at h
     · rename_i v hv
       cases h
       have:=Pb.1 hv;refine⟨by show(1:Int)<=2;decide,by show(2:Int)<=3;decide,?_,by show(0:Nat)<=_;omega⟩;unfold ow;rw[if_neg (show ¬(2:Int)=1 by decide),if_pos rfl]
       show(decide ((0:Nat)=0)&&(decide (0<=v)&&decide (v<=1000000000000)))=true
       rw[decide_eq_true this.1,decide_eq_true this.2.1];rfl
     · cases h
 · rw[if_neg h1] at h;cases h
   have hw:dz nW l<=l.length:=zS _ _;refine⟨by show(1:Int)<=1;decide,by show(1:Int)<=3;decide,?_,?_⟩
   · unfold ow;rw[if_pos rfl]
     show(AJ (bs (mkS (l.take (dz nW l))))&&_)=true
     rw[pM,asR.2 ⟨?_,?_⟩]
     · rfl
     · rw[Wq];obtain⟨c,t,rfl,hc⟩:=Ws h1;have:=yG (p:=nW) (c:=c) (t:=t) (Xq hc);omega
     · rw[Wq,List.length_take];omega
   · show(mkS (l.take (dz nW l))).size<=_
     rw[← eG,pM,List.length_take];omega
theorem QH {p:Prop} (h:p:=by rw[List.length_drop,ae];omega):p:=h
theorem Kv {M:Nat}:∀(k:Nat) (l:List UInt8) (a:List Tk) (n:Nat),l.length<=k->l.length<=M->DY M a n->DY M (cz l a n).a (cz l a n).n
 | 0,l,a,n,h,_,ho=>by
  have:l=[]:=List.length_eq_zero_iff.1 (by omega);subst this;rw[mM];exact ho
 | k+1,[],a,n,h,_,ho=>by rw[mM];exact ho
 | k+1,c::t,a,n,h,hM,ho=>by
  have ht:t.length<=k:=by simpa using h
  rw[ae] at hM;rw[pX]
  split
  · exact Kv k t a n ht (by omega) ho
  · split
    · rename_i h2
      have h3:=yG (p:=f_) (c:=c) (t:=t) (by rw[h2];exact Cv);exact Kv k _ a n QH QH ho
    · split
      · exact Kv k t _ _ ht (by omega) (aeg ho)
      · cases h4:fT (c::t) with
        | none=>exact ho
        | some y=>
         obtain⟨x,m⟩:=y;have h5:=su h4;obtain⟨f1,f2,f3,f4⟩:=amu h4;rw[ae] at h5 f4;exact Kv k _ _ n QH QH (ao3 ho f1 f2 (by unfold mP;exact f3) rfl (by show x.t.size<=M;omega))
theorem ao2 {M:Nat} {R:dm} (h:DY M R.a R.n):iY (fin R)=0/\∀x∈fin R,x.t.size<=M:=by
 have hE:=aeg h;unfold fin;obtain⟨b,hb⟩:∃b,fK R.a R.n=b:=⟨_,rfl⟩
 have e4:(j5 b b.length).k=4:=by
  rw[← hb];by_cases e:(j5 R.a R.a.length).k=4
  · have e2:fK R.a R.n=R.a:=by unfold fK;rw[Pe,if_neg (by simp[e])]
    rw[e2];exact e
  · have e2:fK R.a R.n=R.a++[⟨4,mt,0,(R.n:Int)⟩]:=by unfold fK;rw[Pe,if_pos (by simp[e])]
    rw[e2,Ea]
 rw[hb] at hE ⊢;have hsh:=hE.shut e4;have hp:=h.pos;refine⟨?_,fun x hx=>?_⟩
 · have hall:zH (Em (b++[(⟨0,mt,0,(R.n:Int)⟩:Tk)])) (b++[(⟨0,mt,0,(R.n:Int)⟩:Tk)]).length=0:=by
    rw[U4];intro k hk;rw[ag,ae,List.length_nil] at hk;unfold Em;rw[Sn (by omega),ag,ae,List.length_nil];rcases Nat.lt_or_ge k b.length with g|g
    · rw[TP g,decide_eq_false (by omega:¬k+1=b.length+(0+1))];exact hE.each k g
    · obtain rfl:k=b.length:=by omega
      rw[TN,decide_eq_true (by omega:b.length+1=b.length+(0+1))];have e1:ow ⟨0,mt,0,(R.n:Int)⟩=true:=by unfold ow;simp[mt];rfl
      have e2:xx (j5 b b.length).k 0 true=true:=by unfold xx;rw[e4];rfl
      have e3:vN (decide (b.length=0)) (j5 b b.length).k (j5 b b.length).l 0 (R.n:Int)=true:=by
       unfold vN;by_cases e:b.length=0
       · rw[decide_eq_true e,if_pos rfl];exact decide_eq_true (by omega)
       · rw[decide_eq_false e,if_neg (by decide),if_neg (by simp[e4]),if_pos rfl];exact decide_eq_true (by omega)
      unfold zh;rw[e1,e2,e3,if_neg (show ¬((0:Int)<0∨(4:Int)<0) by decide)];rfl
   unfold iY;rw[if_pos hall,Ea,if_pos rfl]
 · rcases List.mem_append.1 hx with hx|hx
   · exact hE.size x hx
   · rw[List.mem_singleton] at hx;rw[hx];show(0:Nat)<=M;omega
theorem aft {l:List UInt8} (h:fI l=0):iY (eP l)=0/\∀x∈eP l,x.t.size<=l.length:=by
 have hl:¬20000<l.length:=fun g=>by rw[(Dy g).2.2] at h;cases h
 have hb:(cz l [] 1).bad=false:=by
  cases e:(cz l [] 1).bad with
  | false=>rfl
  | true=>rw[(vV hl e).2.2] at h;cases h
 rw[(uJ hl hb).1];exact ao2 (Kv l.length l [] 1 (af _) (af _) ⟨af _,fun g=>absurd rfl g,fun _=>by show(0:Int)<_;decide,fun k hk=>absurd hk (Nat.not_lt_zero _),fun x hx=>by cases hx⟩)
end Lx
namespace Ps
open Lx (Tk eP fI aft uJ Dy vV iY Em zh zH U4 getD_at j5 Ng xx vN fin cz fK EH ow)
theorem Gd.cons {x:Tk} {t:List Tk} (h:Wf x) (hk:¬x.k=0) (hg:Gd t):Gd (x::t):=by
 cases t with
 | nil=>exact hg.elim
 | cons y r=>exact⟨h,hk,hg⟩
theorem NN {f:Bool} {b x:Tk} {last:Bool} (h:zh f b x last=0):0<=x.k/\x.k<=4/\ow x=true/\xx b.k x.k last=true/\vN f b.k b.l x.k x.l=true:=by
 unfold zh at h
 split at h
 · cases h
 · rename_i h1
   split at h
   · cases h
   · rename_i h2
     split at h
     · cases h
     · rename_i h3
       have h2:(ow x&&xx b.k x.k last)=true:=by cases e:(ow x&&xx b.k x.k last) with|true=>rfl|false=>exact absurd e h2
       rw[Bool.and_eq_true] at h2;have h3:vN f b.k b.l x.k x.l=true:=by cases e:vN f b.k b.l x.k x.l with|true=>rfl|false=>exact absurd e h3
       exact⟨by omega,by omega,h2.1,h2.2,h3⟩
theorem abN {l:List Tk} {m:Int} (hs:∀i,(h:i<l.length)->Wf l[i]) (h0:∀i,(h:i<l.length)->(l[i].k=0↔i+1=l.length)):∀k,k<l.length->Gd (l.drop (l.length-1-k))
 | 0,h=>by
  have hi:l.length-1-0<l.length:=by omega
  rw[List.drop_eq_getElem_cons hi,List.drop_of_length_le (by omega)];exact⟨hs _ hi,(h0 _ hi).2 (by omega)⟩
 | k+1,h=>by
  have hi:l.length-1-(k+1)<l.length:=by omega
  rw[List.drop_eq_getElem_cons hi];refine Gd.cons (hs _ hi) (fun e=>by have:=(h0 _ hi).1 e;omega) ?_;have:=abN (m:=m) hs h0 k (by omega);rwa [show l.length-1-(k+1)+1=l.length-1-k by omega]
theorem JC (a:List Tk) (n:Nat):(fK a n).length<=a.length+1:=by
 unfold fK
 split <;> simp
theorem Az {s:List UInt8} (h:fI s=0):Gd (eP s)/\(eP s).length<=30000:=by
 have hl:¬20000<s.length:=fun g=>by rw[(Dy g).2.2] at h;cases h
 have hb:(cz s [] 1).bad=false:=by
  cases e:(cz s [] 1).bad with
  | false=>rfl
  | true=>rw[(vV hl e).2.2] at h;cases h
 obtain⟨hv,hz⟩:=aft h;have hL:=EH s.length s [] 1 (af _);have hfin:=(uJ hl hb).1;obtain⟨l,hll⟩:∃l,eP s=l:=⟨_,rfl⟩
 rw[hll] at hv hz hfin ⊢;have hlen:l.length<=20002:=by
  rw[hfin];unfold fin;have:=JC (cz s [] 1).a (cz s [] 1).n;simp only[ag,ae,List.length_nil] at hL ⊢;omega
 have hne:0<l.length:=by rw[hfin];unfold fin;simp
 have hlast:(l[l.length-1]'(by omega)).l=((cz s [] 1).n:Int):=by
  simp only[hfin,fin];simp
 have h1:zH (Em l) l.length=0:=by
  unfold iY at hv
  split at hv
  · assumption
  · rename_i g;exact absurd hv g
 have hk:∀i,(h:i<l.length)->zh (decide (i=0)) (j5 l i) l[i] (decide (i+1=l.length))=0:=fun i hi=>by
  have:=U4.1 h1 i hi;unfold Em at this;rwa [getD_at hi] at this
 have hl0:(j5 l l.length).k=0:=by
  unfold iY at hv;rw[if_pos h1] at hv
  split at hv
  · assumption
  · cases hv
 have hk0:(l[l.length-1]'(by omega)).k=0:=by
  have:=Ng (l:=l) (j:=l.length-1) (by omega);rw[show l.length-1+1=l.length by omega] at this;rw[← this];exact hl0
 have hmono:∀i,(h:i+1<l.length)->l[i].l<=l[i+1].l:=fun i hi=>by
  obtain⟨-,-,-,-,ho⟩:=NN (hk (i+1) hi);rw[Ng (by omega)] at ho;unfold vN at ho;rw[decide_eq_false (by omega),if_neg (by decide)] at ho
  split at ho
  · rw[decide_eq_true_eq] at ho;omega
  · split at ho <;> (rw[decide_eq_true_eq] at ho;omega)
 have hup:∀j,(h:j<l.length)->(l[l.length-1-j]'(by omega)).l<=((cz s [] 1).n:Int):=by
  intro j
  induction j with
  | zero=>intro h;simp only[Nat.sub_zero];rw[hlast];exact Int.le_refl _
  | succ j ih=>
   intro h;have h2:=ih (by omega);have h3:=hmono (l.length-1-(j+1)) (by omega);simp only[show l.length-1-(j+1)+1=l.length-1-j by omega] at h3;omega
 have hlo:∀i,(h:i<l.length)->1<=l[i].l:=by
  intro i
  induction i with
  | zero=>
   intro h;obtain⟨-,-,-,-,ho⟩:=NN (hk 0 h);unfold vN at ho;rw[decide_eq_true rfl,if_pos rfl,decide_eq_true_eq] at ho;exact ho
  | succ i ih=>intro h;have h2:=ih (by omega);have h3:=hmono i h;omega
 refine⟨?_,by omega⟩;have hg:=abN (l:=l) (m:=0) (fun i hi=>?_) (fun i hi=>?_) (l.length-1) (by omega)
 · rwa [show l.length-1-(l.length-1)=0 by omega,List.drop_zero] at hg
 · obtain⟨h2,h3,h4,-,-⟩:=NN (hk i hi);have h5:=hup (l.length-1-i) (by omega);simp only[show l.length-1-(l.length-1-i)=i by omega] at h5;have h6:=hlo i hi;have h7:=hz l[i] (List.getElem_mem hi);exact⟨h4,h2,h3,by omega,by omega,by omega⟩
 · constructor
   · intro e;obtain⟨-,-,-,hp,-⟩:=NN (hk i hi);unfold xx at hp;rw[e,if_neg (by decide),if_pos rfl,Bool.and_eq_true,decide_eq_true_eq,decide_eq_true_eq] at hp;exact hp.2
   · intro e;simp only[show i=l.length-1 by omega];exact hk0
end Ps
namespace Lx
open Nu
open Go.RowKit
set_option maxHeartbeats 4000000
inductive Ahead (l:List UInt8) (N:Nat):Prop where
 | word (h0:0<N) (hw:AJ (l.take N)=true) (hd:JW (l.take N)=false) (hf:fT l=some (⟨1,mkS (l.take N),0,0⟩,N))
 | num (v:Int) (h0:0<N) (hw:AJ (l.take N)=false) (hd:JW (l.take N)=true) (hn:xw (l.take N)=some v) (hf:fT l=some (⟨2,mt,v,0⟩,N))
 | bad (h0:0<N) (hw:AJ (l.take N)=false) (hd:JW (l.take N)=true) (hn:xw (l.take N)=none) (hf:fT l=none)
 | sign (h0:0<N) (hw:AJ (l.take N)=false) (hd:JW (l.take N)=false) (hf:fT l=some (⟨3,mkS (l.take N),0,0⟩,N))
 | none (h0:N=0) (hw:AJ (l.take N)=false) (hd:JW (l.take N)=false) (hf:fT l=none)
structure RAt (s:ByteArray) (R:dm) (q n:Nat) (a:List Tk):Prop where
 hq:q<=s.size
 rest:cz ((bs s).drop q) a n=R
 len:a.length<=q
 line:n<=q+1
structure RW (w:ai) (v:Value) (a:List Tk) (wr:ai):Prop where
 own:Own w.heap.size wr v a
 below:Below w.heap.size w wr
end Lx
namespace Ps
open Lx (Tk mt cz mM pX fK mP fT su dz f_ Cv yG fin eP mW fI uJ vV Dy)
set_option maxHeartbeats 1000000
theorem O_ {c:UInt8} {t:List UInt8} (h:c=35):1<=dz f_ (c::t):=yG (p:=f_) (c:=c) (t:=t) (by rw[h];exact Cv)
theorem GJ:∀(k:Nat) (l:List UInt8) (a:List Tk) (n:Nat),l.length<=k->n<=(cz l a n).n/\∃T,(cz l a n).a=a++T/\∀x∈T,(n:Int)<=x.l
 | 0,l,a,n,h=>by
  have:l=[]:=List.length_eq_zero_iff.1 (by omega);subst this;rw[mM];exact⟨af _,[],by simp,fun x hx=>by cases hx⟩
 | k+1,[],a,n,h=>by rw[mM];exact⟨af _,[],by simp,fun x hx=>by cases hx⟩
 | k+1,c::t,a,n,h=>by
  have ht:t.length<=k:=by simpa using h
  rw[pX c t];by_cases g1:c=32∨c=9
  · rw[if_pos g1];exact GJ k t a n ht
  rw[if_neg g1];by_cases g2:c=35
  · rw[if_pos g2];have:=O_ (t:=t) g2;exact GJ k _ a n (by rw[List.length_drop,ae];omega)
  rw[if_neg g2];by_cases g3:c=10
  · rw[if_pos g3];obtain⟨h1,T,h2,h3⟩:=GJ k t (fK a n) (n+1) ht;refine⟨by omega,?_⟩;unfold fK at h2 ⊢
    split at h2
    · rename_i ho
      rw[if_pos ho];exact⟨⟨4,mt,0,(n:Int)⟩::T,by rw[h2];simp,fun x hx=>by
       rcases List.mem_cons.1 hx with rfl|hx
       · exact Int.le_refl _
       · have:=h3 x hx;omega⟩
    · rename_i ho
      rw[if_neg ho];exact⟨T,h2,fun x hx=>by have:=h3 x hx;omega⟩
  rw[if_neg g3]
  cases g4:fT (c::t) with
  | none=>exact⟨af _,[],by simp,fun x hx=>by cases hx⟩
  | some y=>
   obtain⟨x,m⟩:=y;have:=su g4;obtain⟨h1,T,h2,h3⟩:=GJ k ((c::t).drop m) (a++[mP x n]) n (by rw[List.length_drop,ae];omega);refine⟨h1,mP x n::T,?_,fun z hz=>?_⟩
   · show(cz ((c::t).drop m) (a++[mP x n]) n).a=_
     rw[h2];simp
   · rcases List.mem_cons.1 hz with rfl|hz
     · exact Int.le_refl _
     · exact h3 z hz
theorem alP (a:List Tk) (n:Nat):∃T,fK a n=a++T/\∀x∈T,(n:Int)<=x.l:=by
 unfold fK
 split
 · exact⟨_,rfl,fun x hx=>by rw[List.mem_singleton] at hx;subst hx;exact Int.le_refl _⟩
 · exact⟨[],by simp,fun x hx=>by cases hx⟩
theorem abl (l:List UInt8) (a:List Tk) (n:Nat):∃T,fin (cz l a n)=a++T/\∀x∈T,(n:Int)<=x.l:=by
 obtain⟨h1,T,h2,h3⟩:=GJ l.length l a n (af _);obtain⟨U,h4,h5⟩:=alP (cz l a n).a (cz l a n).n;refine⟨T++U++[⟨0,mt,0,((cz l a n).n:Int)⟩],?_,fun x hx=>?_⟩
 · unfold fin;rw[h4,h2];simp
 · simp only[List.mem_append,List.mem_singleton] at hx;rcases hx with(hx|hx)|rfl
   · exact h3 x hx
   · have:=h5 x hx;omega
   · show(n:Int)<=((cz l a n).n:Int);omega
theorem afs {s:List UInt8} (h:fI s=0):∀x∈eP s,1<=x.l:=by
 have hl:¬20000<s.length:=fun g=>by rw[(Dy g).2.2] at h;cases h
 have hb:(cz s [] 1).bad=false:=by
  cases e:(cz s [] 1).bad with
  | false=>rfl
  | true=>rw[(vV hl e).2.2] at h;cases h
 rw[(uJ hl hb).1];obtain⟨T,h1,h2⟩:=abl s [] 1;rw[h1];exact fun x hx=>h2 x (by simpa using hx)
def jS {α:Type} (z:α) (m:P α) (c:α->Int) (s:List UInt8):α×Int×Int:=
 if fI s=0 then (match run m (eP s) with
  | .ok x _=>if c x=0 then (x,0,0) else (z,0,c x)
  | .no u=>(z,(hd u).l,9))
 else (z,mW s,fI s)
section
variable {α:Type} {z:α} {m:P α} {c:α->Int} {s:List UInt8}
theorem G7 (h:¬fI s=0):jS z m c s=(z,(mW s:Int),fI s):=by unfold jS;rw[if_neg h]
theorem Dm {u:List Tk} (h:fI s=0) (hr:run m (eP s)=.no u):jS z m c s=(z,(hd u).l,9):=by unfold jS;rw[if_pos h,hr]
theorem G6 {x:α} {u:List Tk} (h:fI s=0) (hr:run m (eP s)=.ok x u) (hc:¬c x=0):jS z m c s=(z,0,c x):=by unfold jS;rw[if_pos h,hr];simp only[if_neg hc]
theorem G8 {x:α} {u:List Tk} (h:fI s=0) (hr:run m (eP s)=.ok x u) (hc:c x=0):jS z m c s=(x,0,0):=by unfold jS;rw[if_pos h,hr];simp only[if_pos hc]
end
theorem ach {u:List Tk} (h:Gd u):∃r,u=hd u::r:=by
 cases u with
 | nil=>exact h.elim
 | cons x r=>exact⟨r,rfl⟩
end Ps
end Go.Proofs.YtbgodajefaahdaaGreatDoor
