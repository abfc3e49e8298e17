/-
  Parts of this proof: How much is read.
-/
import Derived.Test.YtbgodajefaahdaaGreatDoorZTEat
set_option linter.unusedVariables false
namespace Go.Proofs.YtbgodajefaahdaaGreatDoor.Ps
open Go.Proofs.YtbgodajefaahdaaGreatDoor.Ps.P (rt fl bd acc see kd kw tk exp len)
open Go.Proofs.YtbgodajefaahdaaGreatDoor.Lx (Tk bs mt)
open Go.Proofs.YtbgodajefaahdaaGreatDoor.Na (isKw)
open Go.Proofs.YtbgodajefaahdaaGreatDoor.Ex (Ex cnt cntL pre preL cnt_pos Sz)
structure Eat {α:Type} (Q:α->Nat->Prop) (m:P α):Prop where
 out:∀{t u:List Tk} {x:α},Gd t->run m t=.ok x u->Gd u/\∃d,u.length+d=t.length/\Q x d
section
variable {α β:Type} {Q:α->Nat->Prop} {Q':β->Nat->Prop} {m:P β} {k:β->P α} {A B:P α} {s:ByteArray}
theorem Eat.imp {Q2:α->Nat->Prop} {m:P α} (h:Eat Q m) (hi:∀x d,Q x d->Q2 x d):Eat Q2 m:=⟨fun g e=>by obtain⟨h1,d,h2,h3⟩:=h.out g e;exact⟨h1,d,h2,hi _ _ h3⟩⟩
theorem Eat.rt {x:α} (h:Q x 0):Eat Q (rt x):=⟨fun g e=>by rw[run_rt] at e;cases e;exact⟨g,0,rfl,h⟩⟩
theorem Eat.fl:Eat Q (fl:P α):=⟨fun g e=>by rw[run_fl] at e;cases e⟩
theorem Eat.bd (h:Eat Q' m) (hk:∀x d,Q' x d->Eat (fun y c=>Q y (d+c)) (k x)):Eat Q (bd m k):=by
 refine⟨fun {t u x} g e=>?_⟩
 cases hm:run m t with
 | ok y v=>
  rw[bd_ok hm] at e;obtain⟨h1,d,h2,h3⟩:=h.out g hm;obtain⟨h4,c,h5,h6⟩:=(hk y d h3).out h1 e;exact⟨h4,d+c,by omega,h6⟩
 | no v=>rw[bd_no hm] at e;cases e
theorem Eat.len {f:Nat->β->α} (h:Eat Q' m) (hf:∀n x d,Q' x d->Q (f n x) d):Eat Q (len m f):=by
 refine⟨fun {t u x} g e=>?_⟩
 cases hm:run m t with
 | ok y v=>rw[len_ok hm] at e;cases e;obtain⟨h1,d,h2,h3⟩:=h.out g hm;exact⟨h1,d,h2,hf _ _ _ h3⟩
 | no v=>rw[len_no hm] at e;cases e
theorem Eat.acc (hs:¬bs s=[]) (hA:Eat (fun y c=>Q y (1+c)) A) (hB:Eat Q B):Eat Q (acc s A B):=by
 refine⟨fun {t u x} g e=>?_⟩
 cases hi:is s t with
 | true=>
  rw[acc_yes hi] at e;obtain⟨h3,h4⟩:=is_tail g hs hi;obtain⟨h5,c,h6,h7⟩:=hA.out h3 e;exact⟨h5,1+c,by omega,h7⟩
 | false=>rw[acc_no hi] at e;exact hB.out g e
theorem Eat.see (hA:Eat Q A) (hB:Eat Q B):Eat Q (see s A B):=by
 refine⟨fun {t u x} g e=>?_⟩
 cases hi:is s t with
 | true=>rw[see_yes hi] at e;exact hA.out g e
 | false=>rw[see_no hi] at e;exact hB.out g e
theorem Eat.kd {j:Int} (hA:Eat Q A) (hB:Eat Q B):Eat Q (kd j A B):=by
 refine⟨fun {t u x} g e=>?_⟩;by_cases hi:(hd t).k=j
 · rw[kd_yes hi] at e;exact hA.out g e
 · rw[kd_no hi] at e;exact hB.out g e
theorem Eat.kw (hA:Eat Q A) (hB:Eat Q B):Eat Q (kw A B):=by
 refine⟨fun {t u x} g e=>?_⟩
 cases hi:isKw (bs (hd t).t) with
 | true=>rw[kw_yes hi] at e;exact hA.out g e
 | false=>rw[kw_no hi] at e;exact hB.out g e
theorem Eat.iff {c:Prop} [Decidable c] (hA:Eat Q A) (hB:Eat Q B):Eat Q (if c then A else B):=by split <;> assumption
end
theorem eat_exp {s:ByteArray} (hs:¬bs s=[]):Eat (fun _ d=>d=1) (exp s):=by
 refine⟨fun {t u x} g e=>?_⟩
 cases hi:is s t with
 | true=>rw[exp_yes hi] at e;cases e;have:=is_tail g hs hi;exact⟨this.1,1,by omega,rfl⟩
 | false=>rw[exp_no hi] at e;cases e
theorem zCJ_0 {p:Prop} (h:p:=by omega):p:=h
theorem eat_tk {j:Int} (hj:¬j=0):Eat (fun x d=>d=1/\x.1.size<=20000/\0<=x.2/\x.2<=1000000000000) (tk j):=by
 refine⟨fun {t u x} g e=>?_⟩;by_cases hi:(hd t).k=j
 · rw[tk_yes hi] at e;cases e;have:=g.tail zCJ_0;exact⟨this.1,1,by omega,rfl,g.wf.2.2.2.1,g.wf.n⟩
 · rw[tk_no hi] at e;cases e
theorem eat_num:Eat (fun n d=>d=1/\0<=n/\n<=1000000000000) num:=.bd (eat_tk (by decide)) fun x d h=>.rt ⟨by omega,h.2.2⟩
theorem eat_nam:Eat (fun s d=>d=1/\s.size<=20000) nam:=.kw .fl (.bd (eat_tk (by decide)) fun x d h=>.rt ⟨by omega,h.2.1⟩)
theorem eat_eol:Eat (fun _ d=>d=1) eol:=.bd (eat_tk (by decide)) fun x d h=>.rt zCJ_0
theorem eat_itg:Eat (fun n d=>1<=d/\Bn n) itg:=.acc (by decide) (.bd eat_num fun n d h=>.rt ⟨by omega,by unfold Bn;omega⟩) (eat_num.imp fun n d h=>⟨by omega,by unfold Bn;omega⟩)
theorem eat_tru:Eat (fun n d=>1<=d/\(n=0∨n=1)) tru:=.acc (by decide) (.rt ⟨by omega,.inr rfl⟩) (.bd (eat_exp (by decide)) fun _ d h=>.rt ⟨by omega,.inl rfl⟩)
def QX (e:Ex) (d:Nat):Prop:=cnt e<=d/\∀x∈pre e,x.s.size<=20000
theorem qx_leaf {o n:Int} {s:ByteArray} {d:Nat} (hs:s.size<=20000) (hd:1<=d):QX (.mk o s n []) d:=by
 refine⟨by simp only[cnt,cntL];omega,fun x hx=>?_⟩;simp only[pre,preL,List.mem_cons,List.not_mem_nil,or_false] at hx;subst hx;exact hs
theorem qx_nd1 {o:Int} {x:Ex} {d c:Nat} (h:QX x d) (hd:d+1<=c):QX (nd1 o x) c:=by
 refine⟨by have:=h.1;unfold nd1;simp only[cnt,cntL];omega,fun y hy=>?_⟩;unfold nd1 at hy;simp only[pre,preL,List.mem_cons,List.append_nil] at hy;rcases hy with rfl|hy
 · exact Nat.zero_le _
 · exact h.2 y hy
theorem qx_nd2 {o:Int} {x y:Ex} {d e c:Nat} (h:QX x d) (g:QX y e) (hd:d+e+1<=c):QX (nd2 o x y) c:=by
 refine⟨by have:=h.1;have:=g.1;unfold nd2;simp only[cnt,cntL];omega,fun z hz=>?_⟩;unfold nd2 at hz;simp only[pre,preL,List.mem_cons,List.append_nil,List.mem_append] at hz;rcases hz with rfl|hz|hz
 · exact Nat.zero_le _
 · exact h.2 z hz
 · exact g.2 z hz
theorem QX.le {e:Ex} {d c:Nat} (h:QX e d) (hd:d<=c):QX e c:=⟨Nat.le_trans h.1 hd,h.2⟩
theorem eat_opr {α:Type} {Q:α->Nat->Prop} {A:Int->P α} {B:P α} (hB:Eat Q B):∀{os:List (ByteArray×Int)},(∀q∈os,Eat (fun y c=>Q y (1+c)) (A q.2))->(∀q∈os,¬bs q.1=[])->Eat Q (opr A B os)
 | [],_,_=>hB
 | q::r,hA,hs=>.acc (hs q (.head _)) (hA q (.head _)) (eat_opr hB (fun p hp=>hA p (.tail _ hp)) fun p hp=>hs p (.tail _ hp))
section
variable {m:P Ex} {os:List (ByteArray×Int)}
theorem eat_chL (h:Eat QX m) (hs:∀q∈os,¬bs q.1=[]):∀n e d,QX e d->Eat (fun y c=>QX y (d+c)) (chL m os n e)
 | 0,_,_,_=>.fl
 | n+1,e,d,he=>eat_opr (.rt he) (fun q hq=>.bd h fun y c hy=>(eat_chL h hs n _ (d+c+1) (qx_nd2 he hy zCJ_0)).imp fun z b hz=>hz.le zCJ_0) hs
theorem eat_chn (h:Eat QX m) (hs:∀q∈os,¬bs q.1=[]):Eat QX (chn m os):=.bd h fun e d he=>eat_chL h hs FU e d he
end
section
variable {E F N:P Ex}
theorem eat_one (h:Eat QX E) (o:Int):Eat QX (one E o):=.bd (eat_exp (by decide)) fun _ a ha=>.bd h fun x d hx=>.bd (eat_exp (by decide)) fun _ b hb=>.rt (qx_nd1 hx zCJ_0)
theorem eat_two (h:Eat QX E) (o:Int):Eat QX (two E o):=.bd (eat_exp (by decide)) fun _ a ha=>.bd h fun x d hx=>.bd (eat_exp (by decide)) fun _ b hb=>.bd h fun y e hy=>.bd (eat_exp (by decide)) fun _ c hc=>.rt (qx_nd2 hx hy zCJ_0)
theorem eat_onm (o:Int):Eat QX (onm o):=.bd (eat_exp (by decide)) fun _ a ha=>.bd eat_nam fun s d hs=>.bd (eat_exp (by decide)) fun _ b hb=>.rt (qx_leaf hs.2 zCJ_0)
theorem qx_neg {n:Nat} {e:Ex} {d:Nat} (h:QX e d):QX (neg n e) d:=by
 unfold neg
 split
 · exact qx_leaf (Nat.zero_le _) (Nat.le_trans (cnt_pos _) h.1)
 · exact h
theorem eat_grp (h:Eat QX E):Eat QX (grp E):=.len (Q':=QX) (.bd (eat_exp (by decide)) fun _ a ha=>.bd h fun x d hx=>.bd (eat_exp (by decide)) fun _ b hb=>.rt (hx.le zCJ_0)) fun n x d hx=>qx_neg hx
theorem mt0:mt.size<=20000:=Nat.zero_le _
theorem eat_prm (h:Eat QX E):Eat QX (prm E):=
 .kd (.bd eat_num fun n d hn=>.rt (qx_leaf mt0 zCJ_0)) <|
 .see (.bd eat_tru fun n d hn=>.rt (qx_leaf mt0 zCJ_0)) <|
 .see (.bd eat_tru fun n d hn=>.rt (qx_leaf mt0 zCJ_0)) <|
 .acc (by decide) (.rt (qx_leaf mt0 zCJ_0)) <|
 .acc (by decide) ((eat_one h 7).imp fun x d hx=>hx.le zCJ_0) <|
 .acc (by decide) ((eat_one h 8).imp fun x d hx=>hx.le zCJ_0) <|
 .acc (by decide) ((eat_two h 20).imp fun x d hx=>hx.le zCJ_0) <|
 .acc (by decide) ((eat_two h 21).imp fun x d hx=>hx.le zCJ_0) <|
 .acc (by decide) ((eat_onm 22).imp fun x d hx=>hx.le zCJ_0) <|
 .acc (by decide) ((eat_onm 23).imp fun x d hx=>hx.le zCJ_0) <|
 .acc (by decide) ((eat_onm 24).imp fun x d hx=>hx.le zCJ_0) <|
 .see (eat_grp h) <|
 .bd eat_nam fun s d hs=>.rt (qx_leaf hs.2 zCJ_0)
theorem eat_fac (h:Eat QX E) (hF:Eat QX F):Eat QX (fac E F):=.acc (by decide) (.bd hF fun x d hx=>.rt (qx_nd1 hx zCJ_0)) (eat_prm h)
theorem eat_sum (h:Eat QX F):Eat QX (sum F):=eat_chn (eat_chn h (by decide)) (by decide)
theorem eat_cmp (h:Eat QX F):Eat QX (cmp F):=.bd (eat_sum h) fun x d hx=>
 .acc (by decide) (.bd (eat_sum h) fun y e hy=>.rt (qx_nd2 hx hy zCJ_0)) <|
 .acc (by decide) (.bd (eat_sum h) fun y e hy=>.rt (qx_nd2 hx hy zCJ_0)) <|
 .acc (by decide) (.bd (eat_sum h) fun y e hy=>.rt (qx_nd2 hx hy zCJ_0)) <|
 .acc (by decide) (.bd (eat_sum h) fun y e hy=>.rt (qx_nd2 hx hy zCJ_0)) <|
 .acc (by decide) (.bd (eat_sum h) fun y e hy=>.rt (qx_nd2 hy hx zCJ_0)) <|
 .acc (by decide) (.bd (eat_sum h) fun y e hy=>.rt (qx_nd2 hy hx zCJ_0)) <|
 .rt (hx.le zCJ_0)
theorem eat_ngt (h:Eat QX F) (hN:Eat QX N):Eat QX (ngt F N):=.acc (by decide) (.bd hN fun x d hx=>.rt (qx_nd1 hx zCJ_0)) (eat_cmp h)
theorem eat_dsj (h:Eat QX N):Eat QX (dsj N):=eat_chn (eat_chn h (by decide)) (by decide)
theorem eat_lv:∀n,Eat QX (fF n)/\Eat QX (fN n)/\Eat QX (fE n)
 | 0=>by rw[fF,fN,fE];exact⟨.fl,.fl,.fl⟩
 | n+1=>by
  obtain⟨h1,h2,h3⟩:=eat_lv n;rw[fF,fN,fE];exact⟨eat_fac h3 h1,eat_ngt (eat_fac h3 h1) h2,eat_dsj (eat_ngt (eat_fac h3 h1) h2)⟩
end
theorem eat_xpr:Eat QX xpr:=(eat_lv FU).2.2
theorem QX.sz {e:Ex} {d:Nat} (h:QX e d):Sz e:=fun x hx=>Nat.le_trans (h.2 x hx) (by decide)
theorem oEx_size {t u:List Tk} {x:Ex} (g:Gd t) (hl:t.length<=30000) (h:run oEx t=.ok x u):cnt x<=30000/\Sz x:=by
 unfold oEx at h
 cases hm:run xpr t with
 | no v=>rw[bd_no hm] at h;cases h
 | ok y v=>
  obtain⟨h1,d,h2,h3⟩:=eat_xpr.out g hm;rw[bd_ok hm] at h;have e:x=y:=by
   cases hm2:run eol v with
   | no v2=>rw[bd_no hm2] at h;cases h
   | ok y2 v2=>
    rw[bd_ok hm2] at h
    cases hm3:run eot v2 with
    | no v3=>rw[bd_no hm3] at h;cases h
    | ok y3 v3=>rw[bd_ok hm3,run_rt] at h;cases h;rfl
  subst e;exact⟨by have:=h3.1;omega,h3.sz⟩
theorem eat_pr:Eat (fun _ d=>3<=d) pr:=.bd eat_num fun a d h=>.bd (eat_exp (by decide)) fun _ c h2=>.bd eat_num fun b e h3=>.rt zCJ_0
theorem eat_prL:∀n l k,l.length<=k->Eat (fun x d=>x.length<=k+d) (prL n l)
 | 0,_,_,_=>.fl
 | n+1,l,k,h=>.kd (.bd eat_pr fun x d hd=>(eat_prL n (l++[x]) (k+1) (by simp;omega)).imp fun y c hy=>by omega) (.rt zCJ_0)
theorem eat_prs:Eat (fun x d=>x.length<=d) prs:=.bd eat_pr fun x d hd=>(eat_prL FU [x] 1 (by simp)).imp fun y c hy=>by omega
theorem prs_few {s:ByteArray} {t:List Tk} (g:Gd t) (hl:t.length<=30000) (hi:is s t=true):∀x u,run prs t.tail=.ok x u->x.length<=30000:=fun x u h=>by
 by_cases hk:(hd t).k=0
 · have h1:=g.last hk;have h2:t.tail=[]:=List.length_eq_zero_iff.1 (by rw[List.length_tail];omega);rw[h2] at h
   exact absurd h (by unfold prs pr num; rw [bd_no]; · intro e; cases e
                      · rfl)
 · obtain⟨h1,h2⟩:=g.tail hk;obtain⟨-,d,h3,h4⟩:=eat_prs.out h1 h;omega
def lsN {α:Type} (e:P α) (n:Nat):List α->P (List α)
 | []=>bd e fun x=>lsL e n [x]
 | y::r=>bd (exp zComma) fun _=>bd e fun x=>lsL e n ((y::r)++[x])
theorem lsL_succ {α:Type} (e:P α) (n:Nat) (l:List α):lsL e (n+1) l=acc zRpar (rt l) (lsN e n l):=by cases l <;> rfl
end Go.Proofs.YtbgodajefaahdaaGreatDoor.Ps
