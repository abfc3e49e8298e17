/-
  Parts of this proof: How much is read of statements. The first wrong token exists.
-/
import Derived.Test.YtbgodajefaahdaaGreatDoorZPBase
import Derived.Test.YtbgodajefaahdaaGreatDoorZTSz
set_option linter.unusedVariables false
namespace Go.Proofs.YtbgodajefaahdaaGreatDoor.Ps
open Go.Proofs.YtbgodajefaahdaaGreatDoor.Ps.P (rt fl bd acc see kd)
open Go.Proofs.YtbgodajefaahdaaGreatDoor.Lx (Tk bs)
open Go.Proofs.YtbgodajefaahdaaGreatDoor.Ex (Ex cnt_pos)
open Go.Proofs.YtbgodajefaahdaaGreatDoor.Sm (St Dt zE cn cnL ord ordL cn_one ord_one cnL_app ordL_app SzS SzL)
def ZS (d:Nat) (x:St):Prop:=x.nm.size<=20000/\x.f.size<=20000/\QX x.e d/\QX x.g d/\∀y∈x.ar,QX y d
theorem ZS.le {x:St} {d c:Nat} (h:ZS d x) (hd:d<=c):ZS c x:=⟨h.1,h.2.1,h.2.2.1.le hd,h.2.2.2.1.le hd,fun y hy=>(h.2.2.2.2 y hy).le hd⟩
theorem ZS.szS {x:St} {d:Nat} (h:ZS d x) (hd:d<=1000000):SzS x:=⟨Nat.le_trans h.1 (by decide),Nat.le_trans h.2.1 (by decide),⟨h.2.2.1.sz,Nat.le_trans h.2.2.1.1 hd⟩,⟨h.2.2.2.1.sz,Nat.le_trans h.2.2.2.1.1 hd⟩,fun y hy=>⟨(h.2.2.2.2 y hy).sz,Nat.le_trans (h.2.2.2.2 y hy).1 hd⟩⟩
def QS (x:St) (d:Nat):Prop:=cn x<=d/\∀y∈ord x,ZS d y
def QSL (l:List St) (d:Nat):Prop:=cnL l<=d/\∀y∈ordL l,ZS d y
theorem QS.le {x:St} {d c:Nat} (h:QS x d) (hd:d<=c):QS x c:=⟨Nat.le_trans h.1 hd,fun y hy=>(h.2 y hy).le hd⟩
theorem QSL.le {l:List St} {d c:Nat} (h:QSL l d) (hd:d<=c):QSL l c:=⟨Nat.le_trans h.1 hd,fun y hy=>(h.2 y hy).le hd⟩
theorem QSL.nil {d:Nat}:QSL [] d:=⟨Nat.zero_le _,fun y hy=>by rw[ordL] at hy;cases hy⟩
theorem zCW_0 {p:Prop} (h:p:=by omega):p:=h
theorem QSL.snoc {l:List St} {x:St} {d c k:Nat} (h:QSL l d) (g:QS x c) (hk:d+c<=k):QSL (l++[x]) k:=by
 refine⟨?_,fun y hy=>?_⟩
 · have h1:=h.1;have h2:=g.1;rw[cnL_app];simp only[cnL];omega
 · rw[ordL_app,List.mem_append] at hy;rcases hy with hy|hy
   · exact(h.2 y hy).le zCW_0
   · simp only[ordL,List.append_nil] at hy;exact(g.2 y hy).le zCW_0
theorem QSL.szL {l:List St} {d:Nat} (h:QSL l d) (hd:d<=1000000):SzL l:=fun x hx=>(h.2 x hx).szS hd
theorem qs_node {o:Int} {nm f:ByteArray} {e g:Ex} {ar:List Ex} {di:Dt} {fl:Bool} {bo el:List St} {d a b:Nat} (h1:nm.size<=20000) (h2:f.size<=20000) (h3:QX e d) (h4:QX g d) (h5:∀y∈ar,QX y d) (h6:QSL bo a) (h7:QSL el b) (h8:a+b+1<=d):QS (.mk o nm f e g ar di fl bo el) d:=by
 refine⟨?_,fun y hy=>?_⟩
 · have e1:=h6.1;have e2:=h7.1;rw[cn_one]
   show cnL bo+cnL el+1<=d
   omega
 · rw[ord_one,List.mem_cons,List.mem_append] at hy;rcases hy with rfl|hy|hy
   · exact⟨h1,h2,h3,h4,h5⟩
   · exact(h6.2 y hy).le zCW_0
   · exact(h7.2 y hy).le zCW_0
theorem qx_zE {d:Nat} (h:1<=d):QX zE d:=qx_leaf (Nat.zero_le _) h
theorem qs_stm {o:Int} {nm f:ByteArray} {e:Ex} {d:Nat} (h1:nm.size<=20000) (h2:f.size<=20000) (h3:QX e d) (h:1<=d):QS (stm o nm f e) d:=qs_node (a:=0) (b:=0) h1 h2 h3 (qx_zE h) (fun y hy=>by cases hy) .nil .nil zCW_0
theorem eat_nmB {s:ByteArray} (hs:¬bs s=[]):Eat (fun x d=>d=2/\x.size<=20000) (nmB s):=.bd (eat_exp hs) fun _ a ha=>eat_nam.imp fun x d h=>⟨by omega,h.2⟩
theorem eat_chg (o:Int):Eat QS (chg o):=.bd eat_nam fun s a ha=>.bd eat_xpr fun e d he=>.rt (qs_stm ha.2 mt0 (he.le zCW_0) zCW_0)
theorem eat_lsL {α:Type} {Q:α->Nat->Prop} {e:P α} (hm:∀x a b,Q x a->a<=b->Q x b) (hp:∀x d,Q x d->1<=d) (h:Eat Q e):∀n l k,(∀y∈l,Q y k)->l.length<=k->Eat (fun x d=>(∀y∈x,Q y (k+d))/\x.length<=k+d) (lsL e n l)
 | 0,_,_,_,_=>.fl
 | n+1,l,k,hl,hk=>by
  rw[lsL_succ];refine .acc (by decide) (.rt ⟨fun y hy=>hm _ _ _ (hl y hy) zCW_0,by omega⟩) ?_
  cases l with
  | nil=>
   exact .bd h fun x d hx=>(eat_lsL hm hp h n [x] (k+d) (fun y hy=>by rw[List.mem_singleton] at hy;subst hy;exact hm _ _ _ hx zCW_0) (by have:=hp _ _ hx;simp;omega)).imp fun z c hz=>⟨fun y hy=>hm _ _ _ (hz.1 y hy) zCW_0,by omega⟩
  | cons y r=>
   exact .bd (eat_exp (by decide)) fun _ a ha=>.bd h fun x d hx=>(eat_lsL hm hp h n ((y::r)++[x]) (k+d) (fun z hz=>by
    rcases List.mem_append.1 hz with hz|hz
    · exact hm _ _ _ (hl z hz) zCW_0
    · rw[List.mem_singleton] at hz;subst hz;exact hm _ _ _ hx zCW_0) (by have:=hp _ _ hx;simp at hk ⊢; omega)).imp fun z c hz=>⟨fun y hy=>hm _ _ _ (hz.1 y hy) zCW_0,by omega⟩
theorem eat_lst {α:Type} {Q:α->Nat->Prop} {e:P α} (hm:∀x a b,Q x a->a<=b->Q x b) (hp:∀x d,Q x d->1<=d) (h:Eat Q e):Eat (fun x d=>(∀y∈x,Q y d)/\x.length<=d) (lst e):=
 .bd (eat_exp (by decide)) fun _ a ha=>(eat_lsL hm hp h FU [] 0 (fun y hy=>by cases hy) (Nat.le_refl _)).imp fun x d hx=>⟨fun y hy=>hm _ _ _ (hx.1 y hy) zCW_0,by omega⟩
theorem eat_bgn (o:Int) {f:ByteArray} (hf:f.size<=20000):Eat QS (bgn o f):=
 .bd eat_nam fun s a ha=>.bd (eat_lst (Q:=QX) (fun x a b h hb=>h.le hb) (fun x d h=>Nat.le_trans (cnt_pos x) h.1) eat_xpr) fun l b hl=>.bd (eat_exp (by decide)) fun _ c hc=>.bd eat_xpr fun e d he=>
  .rt (qs_node (a:=0) (b:=0) ha.2 hf (he.le zCW_0) (qx_zE zCW_0) (fun y hy=>(hl.1 y hy).le zCW_0) .nil .nil zCW_0)
theorem eat_cnd:Eat QX cnd:=.bd eat_xpr fun e d he=>.bd eat_eol fun _ a ha=>.rt (he.le zCW_0)
theorem eat_dst:Eat (fun _ d=>1<=d) dst:=
 .acc (by decide) (.bd eat_num fun _ a ha=>.rt zCW_0) <|
 .acc (by decide) (.bd eat_num fun _ a ha=>.bd eat_num fun _ b hb=>.rt zCW_0) <|
 .acc (by decide) (.bd eat_prs fun _ a ha=>.rt zCW_0) <|
 .acc (by decide) (.bd eat_num fun _ a ha=>.bd eat_num fun _ b hb=>.bd eat_num fun _ c hc=>.rt zCW_0) <|
 .acc (by decide) (.bd eat_num fun _ a ha=>.bd eat_num fun _ b hb=>.rt zCW_0) .fl
theorem QS.up {x:St} {d:Nat} (h:QS x d):QS x (1+d):=h.le zCW_0
theorem eat_stt {B:P (List St)} (h:Eat QSL B):Eat QS (stt B):=
 .acc (by decide) (.bd eat_nam fun s a ha=>.bd (eat_exp (by decide)) fun _ b hb=>.bd eat_xpr fun e d he=>.rt (qs_stm ha.2 mt0 (he.le zCW_0) zCW_0)) <|
 .acc (by decide) (.bd eat_nam fun s a ha=>.bd (eat_nmB (by decide)) fun f b hb=>.bd eat_dst fun d c hc=>.rt (qs_node (a:=0) (b:=0) ha.2 hb.2 (qx_zE zCW_0) (qx_zE zCW_0) (fun y hy=>by cases hy) .nil .nil zCW_0)) <|
 .acc (by decide) (.bd eat_cnd fun e a ha=>.bd h fun b c hb=>.bd (.acc (Q:=QSL) (by decide) (.bd eat_eol fun _ u hu=>h.imp fun x d hx=>hx.le zCW_0) (.rt .nil)) fun l d hl=>.bd (eat_exp (by decide)) fun _ k hk=>.rt (qs_node (a:=c) (b:=d) mt0 mt0 (ha.le zCW_0) (qx_zE zCW_0) (fun y hy=>by cases hy) hb hl zCW_0)) <|
 .acc (by decide) (.bd eat_cnd fun e a ha=>.bd h fun b c hb=>.bd (eat_exp (by decide)) fun _ k hk=>.rt (qs_node (a:=c) (b:=0) mt0 mt0 (ha.le zCW_0) (qx_zE zCW_0) (fun y hy=>by cases hy) hb .nil zCW_0)) <|
 .acc (by decide) (.bd eat_xpr fun e d he=>.rt (qs_stm mt0 mt0 (he.le zCW_0) zCW_0)) <|
 .acc (by decide) (.bd eat_nam fun s a ha=>.bd eat_xpr fun e d he=>.bd (eat_exp (by decide)) fun _ b hb=>.bd eat_xpr fun g c hc=>.bd (.acc (Q:=fun(_:Bool) _=>True) (by decide) (.rt trivial) (.rt trivial)) fun z k hz=>.rt (qs_node (a:=0) (b:=0) ha.2 mt0 (he.le zCW_0) (hc.le zCW_0) (fun y hy=>by cases hy) .nil .nil zCW_0)) <|
 .acc (by decide) ((eat_chg 7).imp fun x d hx=>hx.up) <|
 .acc (by decide) (.bd eat_xpr fun e d he=>.bd (eat_nmB (by decide)) fun s a ha=>.rt (qs_stm ha.2 mt0 (he.le zCW_0) zCW_0)) <|
 .acc (by decide) (.bd eat_nam fun f a ha=>.bd (eat_nmB (by decide)) fun s b hb=>.rt (qs_stm hb.2 ha.2 (qx_zE zCW_0) zCW_0)) <|
 .acc (by decide) (.bd eat_nam fun s a ha=>.rt (qs_stm ha.2 mt0 (qx_zE zCW_0) zCW_0)) <|
 .acc (by decide) (.bd eat_nam fun s a ha=>.rt (qs_stm ha.2 mt0 (qx_zE zCW_0) zCW_0)) <|
 .acc (by decide) ((eat_chg 12).imp fun x d hx=>hx.up) <|
 .acc (by decide) (.bd eat_nam fun f a ha=>.bd (eat_exp (by decide)) fun _ b hb=>(eat_bgn 13 ha.2).imp fun x d hx=>hx.le zCW_0) <|
 .acc (by decide) ((eat_bgn 14 mt0).imp fun x d hx=>hx.up) <|
 .acc (by decide) ((eat_chg 15).imp fun x d hx=>hx.up) <|
 .acc (by decide) ((eat_chg 16).imp fun x d hx=>hx.up) <|
 .acc (by decide) ((eat_chg 17).imp fun x d hx=>hx.up) <|
 .acc (by decide) (.rt (qs_stm mt0 mt0 (qx_zE zCW_0) zCW_0)) <|
 .fl
theorem eat_stL {S:P St} (h:Eat QS S):∀n l k,QSL l k->Eat (fun x d=>QSL x (k+d)) (stL S n l)
 | 0,_,_,_=>.fl
 | n+1,l,k,hl=>.see (.rt hl) <| .see (.rt hl) <| .kd (.rt hl) <| .bd h fun x d hx=>.bd eat_eol fun _ a ha=>(eat_stL h n _ (k+d) (hl.snoc hx (Nat.le_refl _))).imp fun y c hy=>hy.le zCW_0
theorem eat_fS:∀n,Eat QSL (fS n)
 | 0=>.fl
 | n+1=>by
  rw[fS];exact(eat_stL (eat_stt (eat_fS n)) FU [] 0 .nil).imp fun x d hx=>hx.le zCW_0
theorem eat_sts:Eat QSL sts:=eat_fS FU
theorem oSt_size {t u:List Tk} {l:List St} (g:Gd t) (hl:t.length<=30000) (h:run oSt t=.ok l u):cnL l<=30000/\SzL l:=by
 unfold oSt at h
 cases hm:run sts t with
 | no v=>rw[bd_no hm] at h;cases h
 | ok y v=>
  obtain⟨h1,d,h2,h3⟩:=eat_sts.out g hm;rw[bd_ok hm] at h;have e:l=y:=by
   cases hm3:run eot v with
   | no v3=>rw[bd_no hm3] at h;cases h
   | ok y3 v3=>rw[bd_ok hm3,run_rt] at h;cases h;rfl
  subst e;exact⟨by have:=h3.1;omega,h3.szL zCW_0⟩
end Go.Proofs.YtbgodajefaahdaaGreatDoor.Ps
namespace Go.Proofs.YtbgodajefaahdaaGreatDoor.Ps
open Go.Proofs.YtbgodajefaahdaaGreatDoor.Ps.P (rt fl bd acc see kd kw tk exp len)
open Go.Proofs.YtbgodajefaahdaaGreatDoor.Lx (Tk bs mt)
open Go.Proofs.YtbgodajefaahdaaGreatDoor.Ex (Ex)
open Go.Proofs.YtbgodajefaahdaaGreatDoor.Sm (St)
open Go.Proofs.YtbgodajefaahdaaGreatDoor.Md (Ste Mdl)
def nz:{α:Type}->P α->Prop
 | _,.rt _=>True
 | _,.fl=>True
 | _,.bd m k=>nz m/\∀x,nz (k x)
 | _,.acc s A B=>(¬bs s=[])/\nz A/\nz B
 | _,.see _ A B=>nz A/\nz B
 | _,.kd _ A B=>nz A/\nz B
 | _,.kw A B=>nz A/\nz B
 | _,.tk k=>¬k=0
 | _,.exp s=>¬bs s=[]
 | _,.len m _=>nz m
theorem zCX_1 {p:Prop} (h:p:=by
 intro hn t g;rw[nz] at hn;rw[run]
 split
 · exact ih1 hn.1 t g
 · exact ih2 hn.2 t g
 ):p:=h
theorem nz_run {α:Type} (m:P α):nz m->∀t,Gd t->(∀x u,run m t=.ok x u->Gd u)/\(∀u,run m t=.no u->Gd u):=by
 induction m with
 | rt x=>exact fun _ t g=>⟨fun y u h=>(by rw[run] at h;cases h;exact g),fun u h=>(by rw[run] at h;cases h)⟩
 | fl=>exact fun _ t g=>⟨fun y u h=>(by rw[run] at h;cases h),fun u h=>(by rw[run] at h;cases h;exact g)⟩
 | bd m k ih1 ih2=>
  intro hn t g;rw[nz] at hn
  cases hm:run m t with
  | ok y v=>
   have hv:=(ih1 hn.1 t g).1 y v hm;exact⟨fun x u h=>(by rw[run,hm] at h;exact(ih2 y (hn.2 y) v hv).1 x u h),fun u h=>(by rw[run,hm] at h;exact(ih2 y (hn.2 y) v hv).2 u h)⟩
  | no v=>exact⟨fun x u h=>(by rw[run,hm] at h;cases h),fun u h=>(by rw[run,hm] at h;cases h;exact(ih1 hn.1 t g).2 _ hm)⟩
 | acc s A B ih1 ih2=>
  intro hn t g;rw[nz] at hn;rw[run];by_cases h:is s t=true
  · rw[if_pos h];exact ih1 hn.2.1 _ (is_tail g hn.1 h).1
  · rw[if_neg h];exact ih2 hn.2.2 t g
 | see s A B ih1 ih2=>
  exact zCX_1
 | kd k A B ih1 ih2=>
  exact zCX_1
 | kw A B ih1 ih2=>
  exact zCX_1
 | tk k=>
  intro hn t g;rw[nz] at hn;rw[run]
  split
  · rename_i h
    exact⟨fun x u e=>(by cases e;exact(g.tail (by rw[h];exact hn)).1),fun u e=>(by cases e)⟩
  · exact⟨fun x u e=>(by cases e),fun u e=>(by cases e;exact g)⟩
 | exp s=>
  intro hn t g;rw[nz] at hn;rw[run]
  split
  · rename_i h
    exact⟨fun x u e=>(by cases e;exact(is_tail g hn h).1),fun u e=>(by cases e)⟩
  · exact⟨fun x u e=>(by cases e),fun u e=>(by cases e;exact g)⟩
 | len m f ih=>
  intro hn t g;rw[nz] at hn
  cases hm:run m t with
  | ok y v=>exact⟨fun x u h=>(by rw[run,hm] at h;cases h;exact(ih hn t g).1 _ _ hm),fun u h=>(by rw[run,hm] at h;cases h)⟩
  | no v=>exact⟨fun x u h=>(by rw[run,hm] at h;cases h),fun u h=>(by rw[run,hm] at h;cases h;exact(ih hn t g).2 _ hm)⟩
section
variable {α β:Type}
theorem z_rt {x:α}:nz (rt x):=by rw[nz];trivial
theorem z_fl:nz (fl:P α):=by rw[nz];trivial
theorem z_bd {m:P β} {k:β->P α} (h:nz m) (hk:∀x,nz (k x)):nz (bd m k):=by rw[nz];exact⟨h,hk⟩
theorem z_acc {s:ByteArray} {A B:P α} (hs:¬bs s=[]) (hA:nz A) (hB:nz B):nz (acc s A B):=by rw[nz];exact⟨hs,hA,hB⟩
theorem z_see {s:ByteArray} {A B:P α} (hA:nz A) (hB:nz B):nz (see s A B):=by rw[nz];exact⟨hA,hB⟩
theorem z_kd {k:Int} {A B:P α} (hA:nz A) (hB:nz B):nz (kd k A B):=by rw[nz];exact⟨hA,hB⟩
theorem z_kw {A B:P α} (hA:nz A) (hB:nz B):nz (kw A B):=by rw[nz];exact⟨hA,hB⟩
theorem z_tk {k:Int} (h:¬k=0):nz (tk k):=by rw[nz];exact h
theorem z_exp {s:ByteArray} (h:¬bs s=[]):nz (exp s):=by rw[nz];exact h
theorem z_len {m:P β} {f:Nat->β->α} (h:nz m):nz (len m f):=by rw[nz];exact h
theorem z_if {c:Prop} [Decidable c] {A B:P α} (hA:nz A) (hB:nz B):nz (if c then A else B):=by split <;> assumption
end
theorem z_num:nz num:=z_bd (z_tk (by decide)) fun _=>z_rt
theorem z_nam:nz nam:=z_kw z_fl (z_bd (z_tk (by decide)) fun _=>z_rt)
theorem z_eol:nz eol:=z_bd (z_tk (by decide)) fun _=>z_rt
theorem z_itg:nz itg:=by unfold itg;repeat' (first|exact z_rt|exact z_fl|exact z_num|exact z_nam|exact z_eol|assumption|(with_reducible apply z_bd)|(with_reducible apply z_acc)|(with_reducible apply z_see)|(with_reducible apply z_kd)|(with_reducible apply z_kw)|(with_reducible apply z_exp)|(with_reducible apply z_len)|(with_reducible apply z_if)|decide|intro _)
theorem z_tru:nz tru:=by unfold tru;repeat' (first|exact z_rt|exact z_fl|exact z_num|exact z_nam|exact z_eol|assumption|(with_reducible apply z_bd)|(with_reducible apply z_acc)|(with_reducible apply z_see)|(with_reducible apply z_kd)|(with_reducible apply z_kw)|(with_reducible apply z_exp)|(with_reducible apply z_len)|(with_reducible apply z_if)|decide|intro _)
theorem z_nmB {s:ByteArray} (h:¬bs s=[]):nz (nmB s):=z_bd (z_exp h) fun _=>z_nam
theorem z_nmL:nz nmL:=by unfold nmL;repeat' (first|exact z_rt|exact z_fl|exact z_num|exact z_nam|exact z_eol|assumption|(with_reducible apply z_bd)|(with_reducible apply z_acc)|(with_reducible apply z_see)|(with_reducible apply z_kd)|(with_reducible apply z_kw)|(with_reducible apply z_exp)|(with_reducible apply z_len)|(with_reducible apply z_if)|decide|intro _)
theorem z_pr:nz pr:=by unfold pr;repeat' (first|exact z_rt|exact z_fl|exact z_num|exact z_nam|exact z_eol|assumption|(with_reducible apply z_bd)|(with_reducible apply z_acc)|(with_reducible apply z_see)|(with_reducible apply z_kd)|(with_reducible apply z_kw)|(with_reducible apply z_exp)|(with_reducible apply z_len)|(with_reducible apply z_if)|decide|intro _)
theorem z_prL:∀n l,nz (prL n l)
 | 0,_=>z_fl
 | n+1,l=>z_kd (z_bd z_pr fun x=>z_prL n _) z_rt
theorem z_prs:nz prs:=z_bd z_pr fun x=>z_prL FU _
theorem z_lsL {α:Type} {e:P α} (h:nz e):∀n l,nz (lsL e n l)
 | 0,_=>z_fl
 | n+1,[]=>z_acc (by decide) z_rt (z_bd h fun x=>z_lsL h n _)
 | n+1,y::r=>z_acc (by decide) z_rt (z_bd (z_exp (by decide)) fun _=>z_bd h fun x=>z_lsL h n _)
theorem z_lst {α:Type} {e:P α} (h:nz e):nz (lst e):=z_bd (z_exp (by decide)) fun _=>z_lsL h FU _
theorem z_dst:nz dst:=by have h:=z_prs;unfold dst;repeat' (first|exact z_rt|exact z_fl|exact z_num|exact z_nam|exact z_eol|assumption|(with_reducible apply z_bd)|(with_reducible apply z_acc)|(with_reducible apply z_see)|(with_reducible apply z_kd)|(with_reducible apply z_kw)|(with_reducible apply z_exp)|(with_reducible apply z_len)|(with_reducible apply z_if)|decide|intro _)
theorem z_opr {α:Type} {A:Int->P α} {B:P α} (hA:∀o,nz (A o)) (hB:nz B):∀{os:List (ByteArray×Int)},(∀q∈os,¬bs q.1=[])->nz (opr A B os)
 | [],_=>hB
 | q::r,hs=>z_acc (hs q (.head _)) (hA _) (z_opr hA hB fun p hp=>hs p (.tail _ hp))
theorem z_chL {m:P Ex} {os:List (ByteArray×Int)} (h:nz m) (hs:∀q∈os,¬bs q.1=[]):∀n e,nz (chL m os n e)
 | 0,_=>z_fl
 | n+1,e=>z_opr (fun o=>z_bd h fun y=>z_chL h hs n _) z_rt hs
theorem z_chn {m:P Ex} {os:List (ByteArray×Int)} (h:nz m) (hs:∀q∈os,¬bs q.1=[]):nz (chn m os):=z_bd h fun e=>z_chL h hs FU e
section
variable {E F N:P Ex}
theorem z_one (h:nz E) (o:Int):nz (one E o):=by unfold one;repeat' (first|exact z_rt|exact z_fl|exact z_num|exact z_nam|exact z_eol|assumption|(with_reducible apply z_bd)|(with_reducible apply z_acc)|(with_reducible apply z_see)|(with_reducible apply z_kd)|(with_reducible apply z_kw)|(with_reducible apply z_exp)|(with_reducible apply z_len)|(with_reducible apply z_if)|decide|intro _)
theorem z_two (h:nz E) (o:Int):nz (two E o):=by unfold two;repeat' (first|exact z_rt|exact z_fl|exact z_num|exact z_nam|exact z_eol|assumption|(with_reducible apply z_bd)|(with_reducible apply z_acc)|(with_reducible apply z_see)|(with_reducible apply z_kd)|(with_reducible apply z_kw)|(with_reducible apply z_exp)|(with_reducible apply z_len)|(with_reducible apply z_if)|decide|intro _)
theorem z_onm (o:Int):nz (onm o):=by unfold onm;repeat' (first|exact z_rt|exact z_fl|exact z_num|exact z_nam|exact z_eol|assumption|(with_reducible apply z_bd)|(with_reducible apply z_acc)|(with_reducible apply z_see)|(with_reducible apply z_kd)|(with_reducible apply z_kw)|(with_reducible apply z_exp)|(with_reducible apply z_len)|(with_reducible apply z_if)|decide|intro _)
theorem z_grp (h:nz E):nz (grp E):=by unfold grp;repeat' (first|exact z_rt|exact z_fl|exact z_num|exact z_nam|exact z_eol|assumption|(with_reducible apply z_bd)|(with_reducible apply z_acc)|(with_reducible apply z_see)|(with_reducible apply z_kd)|(with_reducible apply z_kw)|(with_reducible apply z_exp)|(with_reducible apply z_len)|(with_reducible apply z_if)|decide|intro _)
theorem zCX_0 {p:Prop} (h:p:=by
 repeat' (first|exact z_rt|exact z_fl|exact z_num|exact z_nam|exact z_eol|assumption|(with_reducible apply z_bd)|(with_reducible apply z_acc)|(with_reducible apply z_see)|(with_reducible apply z_kd)|(with_reducible apply z_kw)|(with_reducible apply z_exp)|(with_reducible apply z_len)|(with_reducible apply z_if)|decide|intro _)
 ):p:=h
theorem z_prm (h:nz E):nz (prm E):=by
 have h1:=z_tru;have h2:=z_one h 7;have h3:=z_one h 8;have h4:=z_two h 20;have h5:=z_two h 21;have h6:=z_onm 22;have h7:=z_onm 23;have h8:=z_onm 24;have h9:=z_grp h;unfold prm;exact zCX_0
theorem z_fac (h:nz E) (hF:nz F):nz (fac E F):=by have h1:=z_prm h;unfold fac;repeat' (first|exact z_rt|exact z_fl|exact z_num|exact z_nam|exact z_eol|assumption|(with_reducible apply z_bd)|(with_reducible apply z_acc)|(with_reducible apply z_see)|(with_reducible apply z_kd)|(with_reducible apply z_kw)|(with_reducible apply z_exp)|(with_reducible apply z_len)|(with_reducible apply z_if)|decide|intro _)
theorem z_sum (h:nz F):nz (sum F):=z_chn (z_chn h (by decide)) (by decide)
theorem z_cmp (h:nz F):nz (cmp F):=by have h1:=z_sum h;unfold cmp;repeat' (first|exact z_rt|exact z_fl|exact z_num|exact z_nam|exact z_eol|assumption|(with_reducible apply z_bd)|(with_reducible apply z_acc)|(with_reducible apply z_see)|(with_reducible apply z_kd)|(with_reducible apply z_kw)|(with_reducible apply z_exp)|(with_reducible apply z_len)|(with_reducible apply z_if)|decide|intro _)
theorem z_ngt (h:nz F) (hN:nz N):nz (ngt F N):=by have h1:=z_cmp h;unfold ngt;repeat' (first|exact z_rt|exact z_fl|exact z_num|exact z_nam|exact z_eol|assumption|(with_reducible apply z_bd)|(with_reducible apply z_acc)|(with_reducible apply z_see)|(with_reducible apply z_kd)|(with_reducible apply z_kw)|(with_reducible apply z_exp)|(with_reducible apply z_len)|(with_reducible apply z_if)|decide|intro _)
theorem z_dsj (h:nz N):nz (dsj N):=z_chn (z_chn h (by decide)) (by decide)
theorem z_lv:∀n,nz (fF n)/\nz (fN n)/\nz (fE n)
 | 0=>by rw[fF,fN,fE];exact⟨z_fl,z_fl,z_fl⟩
 | n+1=>by
  obtain⟨h1,h2,h3⟩:=z_lv n;rw[fF,fN,fE];exact⟨z_fac h3 h1,z_ngt (z_fac h3 h1) h2,z_dsj (z_ngt (z_fac h3 h1) h2)⟩
end
theorem z_xpr:nz xpr:=(z_lv FU).2.2
theorem z_chg (o:Int):nz (chg o):=by have h:=z_xpr;unfold chg;repeat' (first|exact z_rt|exact z_fl|exact z_num|exact z_nam|exact z_eol|assumption|(with_reducible apply z_bd)|(with_reducible apply z_acc)|(with_reducible apply z_see)|(with_reducible apply z_kd)|(with_reducible apply z_kw)|(with_reducible apply z_exp)|(with_reducible apply z_len)|(with_reducible apply z_if)|decide|intro _)
theorem z_bgn (o:Int) (f:ByteArray):nz (bgn o f):=by have h:=z_xpr;have h2:=z_lst z_xpr;unfold bgn;repeat' (first|exact z_rt|exact z_fl|exact z_num|exact z_nam|exact z_eol|assumption|(with_reducible apply z_bd)|(with_reducible apply z_acc)|(with_reducible apply z_see)|(with_reducible apply z_kd)|(with_reducible apply z_kw)|(with_reducible apply z_exp)|(with_reducible apply z_len)|(with_reducible apply z_if)|decide|intro _)
theorem z_cnd:nz cnd:=by have h:=z_xpr;unfold cnd;repeat' (first|exact z_rt|exact z_fl|exact z_num|exact z_nam|exact z_eol|assumption|(with_reducible apply z_bd)|(with_reducible apply z_acc)|(with_reducible apply z_see)|(with_reducible apply z_kd)|(with_reducible apply z_kw)|(with_reducible apply z_exp)|(with_reducible apply z_len)|(with_reducible apply z_if)|decide|intro _)
theorem z_stt {B:P (List St)} (h:nz B):nz (stt B):=by
 have h1:=z_xpr;have h2:=z_cnd;have h3:=z_dst;have c7:=z_chg 7;have c12:=z_chg 12;have c15:=z_chg 15;have c16:=z_chg 16;have c17:=z_chg 17;have b13:=z_bgn 13;have b14:=z_bgn 14 mt;have n1:=z_nmB (s:=kFrom) (by decide);have n2:=z_nmB (s:=kInto) (by decide);unfold stt
 repeat' (first|exact b13 _|exact z_rt|exact z_fl|exact z_num|exact z_nam|exact z_eol|assumption|(with_reducible apply z_bd)|(with_reducible apply z_acc)|(with_reducible apply z_exp)|decide|intro _)
theorem z_stL {S:P St} (h:nz S):∀n l,nz (stL S n l)
 | 0,_=>z_fl
 | n+1,l=>z_see z_rt (z_see z_rt (z_kd z_rt (z_bd h fun x=>z_bd z_eol fun _=>z_stL h n _)))
theorem z_fS:∀n,nz (fS n)
 | 0=>z_fl
 | n+1=>z_stL (z_stt (z_fS n)) FU []
theorem z_sts:nz sts:=z_fS FU
theorem z_typ:nz typ:=by unfold typ;repeat' (first|exact z_rt|exact z_fl|exact z_num|exact z_nam|exact z_eol|assumption|(with_reducible apply z_bd)|(with_reducible apply z_acc)|(with_reducible apply z_see)|(with_reducible apply z_kd)|(with_reducible apply z_kw)|(with_reducible apply z_exp)|(with_reducible apply z_len)|(with_reducible apply z_if)|decide|intro _)
theorem z_val:nz val:=by have h1:=z_typ;have h2:=z_tru;have h3:=z_itg;unfold val;repeat' (first|exact z_rt|exact z_fl|exact z_num|exact z_nam|exact z_eol|assumption|(with_reducible apply z_bd)|(with_reducible apply z_acc)|(with_reducible apply z_see)|(with_reducible apply z_kd)|(with_reducible apply z_kw)|(with_reducible apply z_exp)|(with_reducible apply z_len)|(with_reducible apply z_if)|decide|intro _)
theorem z_fld:nz fld:=by have h1:=z_typ;unfold fld;repeat' (first|exact z_rt|exact z_fl|exact z_num|exact z_nam|exact z_eol|assumption|(with_reducible apply z_bd)|(with_reducible apply z_acc)|(with_reducible apply z_see)|(with_reducible apply z_kd)|(with_reducible apply z_kw)|(with_reducible apply z_exp)|(with_reducible apply z_len)|(with_reducible apply z_if)|decide|intro _)
theorem z_shf:nz shf:=by have h1:=z_prs;unfold shf;repeat' (first|exact z_rt|exact z_fl|exact z_num|exact z_nam|exact z_eol|assumption|(with_reducible apply z_bd)|(with_reducible apply z_acc)|(with_reducible apply z_see)|(with_reducible apply z_kd)|(with_reducible apply z_kw)|(with_reducible apply z_exp)|(with_reducible apply z_len)|(with_reducible apply z_if)|decide|intro _)
theorem z_flt:nz flt:=by have h1:=z_dst;unfold flt;repeat' (first|exact z_rt|exact z_fl|exact z_num|exact z_nam|exact z_eol|assumption|(with_reducible apply z_bd)|(with_reducible apply z_acc)|(with_reducible apply z_see)|(with_reducible apply z_kd)|(with_reducible apply z_kw)|(with_reducible apply z_exp)|(with_reducible apply z_len)|(with_reducible apply z_if)|decide|intro _)
theorem z_rsc:nz rsc:=by have h1:=z_shf;have h2:=z_flt;unfold rsc;repeat' (first|exact z_rt|exact z_fl|exact z_num|exact z_nam|exact z_eol|assumption|(with_reducible apply z_bd)|(with_reducible apply z_acc)|(with_reducible apply z_see)|(with_reducible apply z_kd)|(with_reducible apply z_kw)|(with_reducible apply z_exp)|(with_reducible apply z_len)|(with_reducible apply z_if)|decide|intro _)
theorem z_pol:nz pol:=by unfold pol;repeat' (first|exact z_rt|exact z_fl|exact z_num|exact z_nam|exact z_eol|assumption|(with_reducible apply z_bd)|(with_reducible apply z_acc)|(with_reducible apply z_see)|(with_reducible apply z_kd)|(with_reducible apply z_kw)|(with_reducible apply z_exp)|(with_reducible apply z_len)|(with_reducible apply z_if)|decide|intro _)
theorem z_sto:nz sto:=by have h1:=z_pol;unfold sto;repeat' (first|exact z_rt|exact z_fl|exact z_num|exact z_nam|exact z_eol|assumption|(with_reducible apply z_bd)|(with_reducible apply z_acc)|(with_reducible apply z_see)|(with_reducible apply z_kd)|(with_reducible apply z_kw)|(with_reducible apply z_exp)|(with_reducible apply z_len)|(with_reducible apply z_if)|decide|intro _)
theorem z_blt:nz blt:=by unfold blt;repeat' (first|exact z_rt|exact z_fl|exact z_num|exact z_nam|exact z_eol|assumption|(with_reducible apply z_bd)|(with_reducible apply z_acc)|(with_reducible apply z_see)|(with_reducible apply z_kd)|(with_reducible apply z_kw)|(with_reducible apply z_exp)|(with_reducible apply z_len)|(with_reducible apply z_if)|decide|intro _)
theorem z_lcL:∀n l,nz (lcL n l)
 | 0,_=>z_fl
 | n+1,l=>z_acc (by decide) (z_bd z_fld fun x=>z_bd z_eol fun _=>z_lcL n _) z_rt
theorem z_rou:nz rou:=by have h1:=z_lst z_fld;have h2:=z_lcL FU [];have h3:=z_sts;unfold rou;repeat' (first|exact z_rt|exact z_fl|exact z_num|exact z_nam|exact z_eol|assumption|(with_reducible apply z_bd)|(with_reducible apply z_acc)|(with_reducible apply z_see)|(with_reducible apply z_kd)|(with_reducible apply z_kw)|(with_reducible apply z_exp)|(with_reducible apply z_len)|(with_reducible apply z_if)|decide|intro _)
theorem z_arg:nz arg:=by have h1:=z_tru;have h2:=z_itg;unfold arg;repeat' (first|exact z_rt|exact z_fl|exact z_num|exact z_nam|exact z_eol|assumption|(with_reducible apply z_bd)|(with_reducible apply z_acc)|(with_reducible apply z_see)|(with_reducible apply z_kd)|(with_reducible apply z_kw)|(with_reducible apply z_exp)|(with_reducible apply z_len)|(with_reducible apply z_if)|decide|intro _)
theorem z_evy:nz evy:=by unfold evy;repeat' (first|exact z_rt|exact z_fl|exact z_num|exact z_nam|exact z_eol|assumption|(with_reducible apply z_bd)|(with_reducible apply z_acc)|(with_reducible apply z_see)|(with_reducible apply z_kd)|(with_reducible apply z_kw)|(with_reducible apply z_exp)|(with_reducible apply z_len)|(with_reducible apply z_if)|decide|intro _)
theorem z_sta:nz sta:=by have h1:=z_lst z_arg;have h2:=z_evy;unfold sta;repeat' (first|exact z_rt|exact z_fl|exact z_num|exact z_nam|exact z_eol|assumption|(with_reducible apply z_bd)|(with_reducible apply z_acc)|(with_reducible apply z_see)|(with_reducible apply z_kd)|(with_reducible apply z_kw)|(with_reducible apply z_exp)|(with_reducible apply z_len)|(with_reducible apply z_if)|decide|intro _)
theorem z_trm:nz trm:=by unfold trm;repeat' (first|exact z_rt|exact z_fl|exact z_num|exact z_nam|exact z_eol|assumption|(with_reducible apply z_bd)|(with_reducible apply z_acc)|(with_reducible apply z_see)|(with_reducible apply z_kd)|(with_reducible apply z_kw)|(with_reducible apply z_exp)|(with_reducible apply z_len)|(with_reducible apply z_if)|decide|intro _)
theorem z_sgt:nz sgt:=by have h1:=z_trm;unfold sgt;repeat' (first|exact z_rt|exact z_fl|exact z_num|exact z_nam|exact z_eol|assumption|(with_reducible apply z_bd)|(with_reducible apply z_acc)|(with_reducible apply z_see)|(with_reducible apply z_kd)|(with_reducible apply z_kw)|(with_reducible apply z_exp)|(with_reducible apply z_len)|(with_reducible apply z_if)|decide|intro _)
theorem z_lwL:∀n l,nz (lwL n l)
 | 0,_=>z_fl
 | n+1,l=>z_acc (by decide) z_rt (z_bd z_sgt fun x=>z_lwL n _)
theorem z_law:nz law:=z_bd z_nam fun s=>z_bd (z_exp (by decide)) fun _=>z_bd (z_see z_rt (z_bd z_trm fun x=>z_rt)) fun l=>z_bd (z_lwL FU l) fun ts=>z_bd z_itg fun n=>z_bd z_eol fun _=>z_rt
theorem z_dcl (x:Ste):nz (dcl x):=by
 have h1:=z_val;have h2:=z_rsc;have h3:=z_sto;have h4:=z_blt;have h5:=z_nmL;have h6:=z_rou;have h7:=z_sta;have h8:=z_law;unfold dcl;exact zCX_0
theorem z_siL:∀n x,nz (siL n x)
 | 0,_=>z_fl
 | n+1,x=>z_acc (by decide) z_rt (z_bd (z_dcl x) fun y=>z_siL n y)
theorem z_sit:nz sit:=z_bd z_nmL fun s=>z_bd (z_siL FU _) fun x=>z_bd z_eol fun _=>z_rt
theorem z_lnk:nz lnk:=by unfold lnk;repeat' (first|exact z_rt|exact z_fl|exact z_num|exact z_nam|exact z_eol|assumption|(with_reducible apply z_bd)|(with_reducible apply z_acc)|(with_reducible apply z_see)|(with_reducible apply z_kd)|(with_reducible apply z_kw)|(with_reducible apply z_exp)|(with_reducible apply z_len)|(with_reducible apply z_if)|decide|intro _)
theorem z_prt (m:Mdl):nz (prt m):=by have h1:=z_val;have h2:=z_lnk;have h3:=z_sit;unfold prt;repeat' (first|exact z_rt|exact z_fl|exact z_num|exact z_nam|exact z_eol|assumption|(with_reducible apply z_bd)|(with_reducible apply z_acc)|(with_reducible apply z_see)|(with_reducible apply z_kd)|(with_reducible apply z_kw)|(with_reducible apply z_exp)|(with_reducible apply z_len)|(with_reducible apply z_if)|decide|intro _)
theorem z_mdL:∀n m,nz (mdL n m)
 | 0,_=>z_fl
 | n+1,m=>z_acc (by decide) z_rt (z_bd (z_prt m) fun y=>z_mdL n y)
theorem no_end {α:Type} {m:P α} (hm:nz m) {t u:List Tk} (g:Gd t) (h:run (bd m fun x=>bd eot fun _=>rt x) t=.no u):Gd u:=by
 cases h1:run m t with
 | no v=>rw[bd_no h1] at h;cases h;exact(nz_run m hm t g).2 _ h1
 | ok x v=>
  have g1:=(nz_run m hm t g).1 _ _ h1;rw[bd_ok h1] at h;unfold eot at h;by_cases h2:(hd v).k=0
  · rw[bd_ok (bd_ok (tk_yes h2))] at h;cases h
  · rw[bd_no (bd_no (tk_no h2))] at h
    cases h;exact g1
theorem oSt_no {t u:List Tk} (g:Gd t) (h:run oSt t=.no u):Gd u:=no_end z_sts g h
theorem bd_bd {α β γ:Type} {m:P α} {k:α->P β} {K:β->P γ} (t:List Tk):run (bd (bd m k) K) t=run (bd m fun x=>bd (k x) K) t:=by
 cases h1:run m t with
 | no v=>rw[bd_no h1,bd_no (bd_no h1)]
 | ok x v=>
  rw[bd_ok h1]
  cases h2:run (k x) v with
  | no u=>rw[bd_no h2,bd_no ((bd_ok h1).trans h2)]
  | ok y u=>rw[bd_ok h2,bd_ok ((bd_ok h1).trans h2)]
theorem bd_ext {α β:Type} {m:P α} {k K:α->P β} (t:List Tk) (h:∀x u,run (k x) u=run (K x) u):run (bd m k) t=run (bd m K) t:=by
 cases h1:run m t with
 | no v=>rw[bd_no h1,bd_no h1]
 | ok x v=>rw[bd_ok h1,bd_ok h1,h]
theorem rt_bd {α β:Type} {x:α} {K:α->P β} (t:List Tk):run (bd (rt x) K) t=run (K x) t:=bd_ok run_rt
theorem mdl_no {t u:List Tk} (g:Gd t) (h:run mdl t=.no u):Gd u:=by
 refine no_end (m:=bd (nmB kModel) fun s=>bd eol fun _=>bd (mdL FU ⟨s,[],[],[]⟩) fun m=>bd eol fun _=>rt m) (z_bd (z_nmB (by decide)) fun s=>z_bd z_eol fun _=>z_bd (z_mdL FU _) fun m=>z_bd z_eol fun _=>z_rt) g (Eq.trans ?_ h);rw[bd_bd];refine bd_ext _ fun x v=>?_;rw[bd_bd];refine bd_ext _ fun x2 v2=>?_;rw[bd_bd];refine bd_ext _ fun x3 v3=>?_;rw[bd_bd];exact bd_ext _ fun y z=>by rw[rt_bd]
end Go.Proofs.YtbgodajefaahdaaGreatDoor.Ps
