/-
  Parts of this proof: What reading leaves. The contract of Keyword. The contract of Check. What holds of all that a rule reads. What holds of every rule of the grammar. The tokens of a text, as a list that a reader re.
-/
import Derived.Test.YtbgodajefaahdaaGreatDoorZDCheck
import Derived.Test.YtbgodajefaahdaaGreatDoorZLxScan2
set_option linter.unusedVariables false
open Go.Lib (hid)
namespace Go.Proofs.YtbgodajefaahdaaGreatDoor.Ps
open Go.Proofs.YtbgodajefaahdaaGreatDoor.Ps.P (rt fl bd acc see kd kw tk exp len)
open Go.Proofs.YtbgodajefaahdaaGreatDoor.Lx (Tk bs bs_len fmB)
open Go.Proofs.YtbgodajefaahdaaGreatDoor.Na (isKw)
open Go.Proofs.YtbgodajefaahdaaGreatDoor.Ex (Ex)
open Go.Proofs.YtbgodajefaahdaaGreatDoor.Sm (St)
open Go.Proofs.YtbgodajefaahdaaGreatDoor.Md (Ste Mdl)
def Wf (x:Tk):Prop:=fmB x=true/\0<=x.k/\x.k<=4/\x.t.size<=20000/\0<=x.l/\x.l<=30000
def Gd:List Tk->Prop
 | []=>False
 | [x]=>Wf x/\x.k=0
 | x::y::r=>Wf x/\¬x.k=0/\Gd (y::r)
theorem Gd.ne {t:List Tk} (h:Gd t):0<t.length:=by
 cases t with
 | nil=>exact h.elim
 | cons x r=>simp
theorem Gd.wf {t:List Tk} (h:Gd t):Wf (hd t):=by
 match t,h with
 | [x],h=>exact h.1
 | x::y::r,h=>exact h.1
theorem Gd.tail {t:List Tk} (h:Gd t) (hk:¬(hd t).k=0):Gd t.tail/\t.tail.length+1=t.length:=by
 match t,h with
 | [x],h=>exact absurd h.2 hk
 | x::y::r,h=>exact⟨h.2.2,rfl⟩
theorem Gd.last {t:List Tk} (h:Gd t) (hk:(hd t).k=0):t.length=1:=by
 match t,h with
 | [x],h=>rfl
 | x::y::r,h=>exact absurd hk h.2.1
theorem Wf.txt {x:Tk} (h:Wf x) (h1:¬x.k=1) (h3:¬x.k=3):bs x.t=[]:=by
 obtain⟨hf,-⟩:=h;unfold fmB at hf;rw[if_neg h1] at hf;have key:x.t.size=0->bs x.t=[]:=fun h=>List.length_eq_zero_iff.1 (by rw[bs_len];exact h)
 split at hf
 · rw[Bool.and_eq_true,decide_eq_true_eq] at hf;exact key hf.1
 · try rw[if_neg h3] at hf
   simp only[Bool.and_eq_true,decide_eq_true_eq] at hf;exact key hf.2
theorem Wf.n {x:Tk} (h:Wf x):0<=x.n/\x.n<=1000000000000:=by
 obtain⟨hf,-⟩:=h;unfold fmB at hf
 split at hf
 · simp only[Bool.and_eq_true,decide_eq_true_eq] at hf;omega
 · split at hf
   · simp only[Bool.and_eq_true,decide_eq_true_eq] at hf;omega
   · split at hf <;> (simp only[Bool.and_eq_true,decide_eq_true_eq] at hf;omega)
theorem is_iff {s:ByteArray} {t:List Tk}:is s t=true↔bs (hd t).t=bs s:=by unfold is;exact decide_eq_true_iff
theorem is_kd {s:ByteArray} {t:List Tk} (h:Gd t) (hs:¬bs s=[]) (hi:is s t=true):(hd t).k=1∨(hd t).k=3:=by
 rw[is_iff] at hi;by_cases h1:(hd t).k=1
 · exact .inl h1
 · by_cases h3:(hd t).k=3
   · exact .inr h3
   · exact absurd (hi▸h.wf.txt h1 h3) hs
theorem is_tail {s:ByteArray} {t:List Tk} (h:Gd t) (hs:¬bs s=[]) (hi:is s t=true):Gd t.tail/\t.tail.length+1=t.length:=h.tail (by rcases is_kd h hs hi with g|g <;> omega)
structure Dn {α:Type} (n:Nat) (m:P α):Prop where
 out:∀{t u:List Tk} {x:α},Gd t->run m t=.ok x u->Gd u/\u.length+n<=t.length
section
variable {α β:Type} {m:P α} {k:α->P β} {A B:P α} {a b n:Nat} {s:ByteArray}
theorem Dn.le (h:Dn a m) (hn:n<=a):Dn n m:=⟨fun g e=>by have:=h.out g e;exact⟨this.1,by omega⟩⟩
theorem Dn.rt {x:α}:Dn 0 (rt x):=⟨fun g e=>by rw[run_rt] at e;cases e;exact⟨g,Nat.le_refl _⟩⟩
theorem Dn.fl:Dn n (fl:P α):=⟨fun g e=>by rw[run_fl] at e;cases e⟩
theorem Dn.bd (h:Dn a m) (hk:∀x,Dn b (k x)) (hn:n<=a+b):Dn n (bd m k):=by
 refine⟨fun {t u x} g e=>?_⟩
 cases hm:run m t with
 | ok y v=>
  rw[bd_ok hm] at e;obtain⟨h1,h2⟩:=h.out g hm;obtain⟨h3,h4⟩:=(hk y).out h1 e;exact⟨h3,by omega⟩
 | no v=>rw[bd_no hm] at e;cases e
theorem Dn.len {f:Nat->α->β} (h:Dn n m):Dn n (len m f):=by
 refine⟨fun {t u x} g e=>?_⟩
 cases hm:run m t with
 | ok y v=>rw[len_ok hm] at e;cases e;exact h.out g hm
 | no v=>rw[len_no hm] at e;cases e
theorem Dn.acc (hs:¬bs s=[]) (hA:Dn a A) (hB:Dn b B) (h1:n<=a+1) (h2:n<=b):Dn n (acc s A B):=by
 refine⟨fun {t u x} g e=>?_⟩
 cases hi:is s t with
 | true=>
  rw[acc_yes hi] at e;obtain⟨h3,h4⟩:=is_tail g hs hi;obtain⟨h5,h6⟩:=hA.out h3 e;exact⟨h5,by omega⟩
 | false=>
  rw[acc_no hi] at e;obtain⟨h5,h6⟩:=hB.out g e;exact⟨h5,by omega⟩
theorem Dn.see (hA:Dn a A) (hB:Dn b B) (h1:n<=a) (h2:n<=b):Dn n (see s A B):=by
 refine⟨fun {t u x} g e=>?_⟩
 cases hi:is s t with
 | true=>rw[see_yes hi] at e;obtain⟨h5,h6⟩:=hA.out g e;exact⟨h5,by omega⟩
 | false=>rw[see_no hi] at e;obtain⟨h5,h6⟩:=hB.out g e;exact⟨h5,by omega⟩
theorem Dn.kd {j:Int} (hA:Dn a A) (hB:Dn b B) (h1:n<=a) (h2:n<=b):Dn n (kd j A B):=by
 refine⟨fun {t u x} g e=>?_⟩;by_cases hi:(hd t).k=j
 · rw[kd_yes hi] at e;obtain⟨h5,h6⟩:=hA.out g e;exact⟨h5,by omega⟩
 · rw[kd_no hi] at e;obtain⟨h5,h6⟩:=hB.out g e;exact⟨h5,by omega⟩
theorem Dn.kw (hA:Dn a A) (hB:Dn b B) (h1:n<=a) (h2:n<=b):Dn n (kw A B):=by
 refine⟨fun {t u x} g e=>?_⟩
 cases hi:isKw (bs (hd t).t) with
 | true=>rw[kw_yes hi] at e;obtain⟨h5,h6⟩:=hA.out g e;exact⟨h5,by omega⟩
 | false=>rw[kw_no hi] at e;obtain⟨h5,h6⟩:=hB.out g e;exact⟨h5,by omega⟩
theorem zBC_0 {p:Prop} (h:p:=by omega):p:=h
theorem Dn.tk {j:Int} (hj:¬j=0):Dn 1 (tk j):=by
 refine⟨fun {t u x} g e=>?_⟩;by_cases hi:(hd t).k=j
 · rw[tk_yes hi] at e;cases e;have:=g.tail zBC_0;exact⟨this.1,by omega⟩
 · rw[tk_no hi] at e;cases e
theorem Dn.exp (hs:¬bs s=[]):Dn 1 (exp s):=by
 refine⟨fun {t u x} g e=>?_⟩
 cases hi:is s t with
 | true=>rw[exp_yes hi] at e;cases e;have:=is_tail g hs hi;exact⟨this.1,by omega⟩
 | false=>rw[exp_no hi] at e;cases e
theorem Dn.iff {c:Prop} [Decidable c] (hA:Dn n A) (hB:Dn n B):Dn n (if c then A else B):=by split <;> assumption
end
theorem dn_num:Dn 1 num:=.bd (.tk (by decide)) (fun _=>.rt) zBC_0
theorem dn_itg:Dn 1 itg:=.acc (by decide) (.bd dn_num (fun _=>.rt) zBC_0:Dn 1 _) dn_num zBC_0 zBC_0
theorem dn_tru:Dn 1 tru:=.acc (by decide) .rt (.bd (.exp (by decide)) (fun _=>.rt) zBC_0:Dn 1 _) zBC_0 zBC_0
theorem dn_nam:Dn 1 nam:=.kw (.fl:Dn 1 _) (.bd (.tk (by decide)) (fun _=>.rt) zBC_0:Dn 1 _) zBC_0 zBC_0
theorem dn_nmB (s:ByteArray) (hs:¬bs s=[]):Dn 2 (nmB s):=.bd (.exp hs) (fun _=>dn_nam) zBC_0
theorem dn_eol:Dn 1 eol:=.bd (.tk (by decide)) (fun _=>.rt) zBC_0
theorem dn_nmL:Dn 2 nmL:=.bd dn_nam (fun _=>.bd dn_eol (fun _=>.rt) zBC_0:∀_,Dn 1 _) zBC_0
theorem dn_pr:Dn 3 pr:=.bd dn_num (fun _=>.bd (.exp (by decide)) (fun _=>.bd dn_num (fun _=>.rt) zBC_0:∀_,Dn 1 _) zBC_0:∀_,Dn 2 _) zBC_0
theorem dn_prL:∀n l,Dn 0 (prL n l)
 | 0,l=>.fl
 | n+1,l=>.kd (.bd dn_pr (fun x=>dn_prL n (l++[x])) zBC_0:Dn 3 _) .rt zBC_0 zBC_0
theorem dn_prs:Dn 3 prs:=.bd dn_pr (fun x=>dn_prL FU [x]) zBC_0
section
variable {α:Type} {e:P α}
theorem dn_lsL (h:Dn 1 e):∀n l,Dn 1 (lsL e n l)
 | 0,l=>.fl
 | n+1,[]=>.acc (by decide) .rt (.bd h (fun x=>dn_lsL h n [x]) zBC_0:Dn 2 _) zBC_0 zBC_0
 | n+1,y::r=>.acc (by decide) .rt (.bd (.exp (by decide)) (fun _=>.bd h (fun x=>dn_lsL h n ((y::r)++[x])) zBC_0:∀_,Dn 2 _) zBC_0:Dn 3 _) zBC_0 zBC_0
theorem dn_lst (h:Dn 1 e):Dn 2 (lst e):=.bd (.exp (by decide)) (fun _=>dn_lsL h FU []) zBC_0
end
theorem dn_dst:Dn 2 dst:=
 .acc (by decide) (.bd dn_num (fun _=>.rt) zBC_0:Dn 1 _)
 (.acc (by decide) (.bd dn_num (fun _=>.bd dn_num (fun _=>.rt) zBC_0:∀_,Dn 1 _) zBC_0:Dn 1 _)
 (.acc (by decide) (.bd dn_prs (fun _=>.rt) zBC_0:Dn 1 _)
 (.acc (by decide) (.bd dn_num (fun _=>.bd dn_num (fun _=>.bd dn_num (fun _=>.rt) zBC_0:∀_,Dn 1 _) zBC_0:∀_,Dn 1 _) zBC_0:Dn 1 _)
 (.acc (by decide) (.bd dn_num (fun _=>.bd dn_num (fun _=>.rt) zBC_0:∀_,Dn 1 _) zBC_0:Dn 1 _) (.fl:Dn 2 _) zBC_0 zBC_0:Dn 2 _) zBC_0 zBC_0:Dn 2 _) zBC_0 zBC_0:Dn 2 _) zBC_0 zBC_0:Dn 2 _) zBC_0 zBC_0
theorem dn_opr {α:Type} {A:Int->P α} {B:P α} {n:Nat} (hA:∀o,Dn n (A o)) (hB:Dn n B):∀{os:List (ByteArray×Int)},(∀q∈os,¬bs q.1=[])->Dn n (opr A B os)
 | [],_=>hB
 | q::r,hs=>.acc (hs q List.mem_cons_self) (hA q.2) (dn_opr hA hB fun z hz=>hs z (List.mem_cons_of_mem _ hz)) zBC_0 zBC_0
section
variable {m:P Ex} {os:List (ByteArray×Int)}
theorem dn_chL (h:Dn 1 m) (hs:∀q∈os,¬bs q.1=[]):∀n e,Dn 0 (chL m os n e)
 | 0,e=>.fl
 | n+1,e=>dn_opr (fun o=>.bd h (fun y=>dn_chL h hs n (nd2 o e y)) zBC_0) .rt hs
theorem dn_chn (h:Dn 1 m) (hs:∀q∈os,¬bs q.1=[]):Dn 1 (chn m os):=.bd h (fun e=>dn_chL h hs FU e) zBC_0
end
section
variable {E F N:P Ex}
theorem dn_one (h:Dn 1 E) (o:Int):Dn 3 (one E o):=.bd (.exp (by decide)) (fun _=>.bd h (fun _=>.bd (.exp (by decide)) (fun _=>.rt) zBC_0:∀_,Dn 1 _) zBC_0:∀_,Dn 2 _) zBC_0
theorem dn_two (h:Dn 1 E) (o:Int):Dn 5 (two E o):=.bd (.exp (by decide)) (fun _=>.bd h (fun _=>.bd (.exp (by decide)) (fun _=>.bd h (fun _=>.bd (.exp (by decide)) (fun _=>.rt) zBC_0:∀_,Dn 1 _) zBC_0:∀_,Dn 2 _) zBC_0:∀_,Dn 3 _) zBC_0:∀_,Dn 4 _) zBC_0
theorem dn_onm (o:Int):Dn 3 (onm o):=.bd (.exp (by decide)) (fun _=>.bd dn_nam (fun _=>.bd (.exp (by decide)) (fun _=>.rt) zBC_0:∀_,Dn 1 _) zBC_0:∀_,Dn 2 _) zBC_0
theorem dn_grp (h:Dn 1 E):Dn 3 (grp E):=.len (.bd (.exp (by decide)) (fun _=>.bd h (fun _=>.bd (.exp (by decide)) (fun _=>.rt) zBC_0:∀_,Dn 1 _) zBC_0:∀_,Dn 2 _) zBC_0)
theorem dn_prm (h:Dn 1 E):Dn 1 (prm E):=
 .kd (.bd dn_num (fun _=>.rt) zBC_0:Dn 1 _) (.see (.bd dn_tru (fun _=>.rt) zBC_0:Dn 1 _) (.see (.bd dn_tru (fun _=>.rt) zBC_0:Dn 1 _)
 (.acc (by decide) .rt (.acc (by decide) (dn_one h 7) (.acc (by decide) (dn_one h 8) (.acc (by decide) (dn_two h 20) (.acc (by decide) (dn_two h 21)
 (.acc (by decide) (dn_onm 22) (.acc (by decide) (dn_onm 23) (.acc (by decide) (dn_onm 24) (.see (dn_grp h) (.bd dn_nam (fun _=>.rt) zBC_0:Dn 1 _)
 zBC_0 zBC_0:Dn 1 _) zBC_0 zBC_0:Dn 1 _) zBC_0 zBC_0:Dn 1 _) zBC_0 zBC_0:Dn 1 _) zBC_0 zBC_0:Dn 1 _) zBC_0 zBC_0:Dn 1 _)
 zBC_0 zBC_0:Dn 1 _) zBC_0 zBC_0:Dn 1 _) zBC_0 zBC_0:Dn 1 _) zBC_0 zBC_0:Dn 1 _) zBC_0 zBC_0:Dn 1 _) zBC_0 zBC_0
theorem dn_fac (h:Dn 1 E) (g:Dn 1 F):Dn 1 (fac E F):=.acc (by decide) (.bd g (fun _=>.rt) zBC_0:Dn 1 _) (dn_prm h) zBC_0 zBC_0
theorem dn_prd (g:Dn 1 F):Dn 1 (prd F):=dn_chn g (by decide)
theorem dn_sum (g:Dn 1 F):Dn 1 (sum F):=dn_chn (dn_prd g) (by decide)
theorem dn_cmp (g:Dn 1 F):Dn 1 (cmp F):=
 .bd (dn_sum g) (fun _=>.acc (by decide) (.bd (dn_sum g) (fun _=>.rt) zBC_0:Dn 1 _) (.acc (by decide) (.bd (dn_sum g) (fun _=>.rt) zBC_0:Dn 1 _) (.acc (by decide) (.bd (dn_sum g) (fun _=>.rt) zBC_0:Dn 1 _)
 (.acc (by decide) (.bd (dn_sum g) (fun _=>.rt) zBC_0:Dn 1 _) (.acc (by decide) (.bd (dn_sum g) (fun _=>.rt) zBC_0:Dn 1 _) (.acc (by decide) (.bd (dn_sum g) (fun _=>.rt) zBC_0:Dn 1 _) .rt
 zBC_0 zBC_0:Dn 0 _) zBC_0 zBC_0:Dn 0 _) zBC_0 zBC_0:Dn 0 _) zBC_0 zBC_0:Dn 0 _) zBC_0 zBC_0:Dn 0 _) zBC_0 zBC_0:∀_,Dn 0 _) zBC_0
theorem dn_ngt (g:Dn 1 F) (h:Dn 1 N):Dn 1 (ngt F N):=.acc (by decide) (.bd h (fun _=>.rt) zBC_0:Dn 1 _) (dn_cmp g) zBC_0 zBC_0
theorem dn_cnj (g:Dn 1 F):Dn 1 (cnj F):=dn_chn g (by decide)
theorem dn_dsj (g:Dn 1 F):Dn 1 (dsj F):=dn_chn (dn_cnj g) (by decide)
end
theorem dn_lv:∀n,Dn 1 (fF n)/\Dn 1 (fN n)/\Dn 1 (fE n)
 | 0=>⟨by rw[fF];exact .fl,by rw[fN];exact .fl,by rw[fE];exact .fl⟩
 | n+1=>by
  obtain⟨h1,h2,h3⟩:=dn_lv n;have a:Dn 1 (fF (n+1)):=by rw[fF_succ];exact dn_fac h3 h1
  have b:Dn 1 (fN (n+1)):=by rw[fN_succ];exact dn_ngt a h2
  exact⟨a,b,by rw[fE_succ];exact dn_dsj b⟩
theorem dn_fF (n:Nat):Dn 1 (fF n):=(dn_lv n).1
theorem dn_fN (n:Nat):Dn 1 (fN n):=(dn_lv n).2.1
theorem dn_fE (n:Nat):Dn 1 (fE n):=(dn_lv n).2.2
theorem dn_xpr:Dn 1 xpr:=dn_fE FU
theorem dn_chg (o:Int):Dn 2 (chg o):=.bd dn_nam (fun _=>.bd dn_xpr (fun _=>.rt) zBC_0:∀_,Dn 1 _) zBC_0
theorem dn_bgn (o:Int) (f:ByteArray):Dn 1 (bgn o f):=.bd dn_nam (fun _=>.bd (dn_lst dn_xpr) (fun _=>.bd (.exp (by decide)) (fun _=>.bd dn_xpr (fun _=>.rt) zBC_0:∀_,Dn 0 _) zBC_0:∀_,Dn 0 _) zBC_0:∀_,Dn 0 _) zBC_0
theorem dn_cnd:Dn 2 cnd:=.bd dn_xpr (fun _=>.bd dn_eol (fun _=>.rt) zBC_0:∀_,Dn 1 _) zBC_0
theorem dn_stt {B:P (List St)} (h:Dn 0 B):Dn 1 (stt B):=by
 have a:∀o,Dn 0 (chg o):=fun o=>(dn_chg o).le zBC_0;have n1:∀(k:ByteArray->P St),(∀s,Dn 0 (k s))->Dn 0 (bd nam k):=fun k hk=>.bd dn_nam hk zBC_0;have x1:∀(k:Ex->P St),(∀s,Dn 0 (k s))->Dn 0 (bd xpr k):=fun k hk=>.bd dn_xpr hk zBC_0;have e1:∀(s:ByteArray) (k:Unit->P St),¬bs s=[]->(∀x,Dn 0 (k x))->Dn 0 (bd (exp s) k):=fun s k hs hk=>.bd (.exp hs) hk zBC_0;have b1:∀(s:ByteArray) (k:ByteArray->P St),¬bs s=[]->(∀x,Dn 0 (k x))->Dn 0 (bd (nmB s) k):=fun s k hs hk=>.bd (dn_nmB s hs) hk zBC_0;have st:∀(s:ByteArray) (A B:P St),¬bs s=[]->Dn 0 A->Dn 1 B->Dn 1 (acc s A B):=fun s A B hs hA hB=>.acc hs hA hB zBC_0 zBC_0;unfold stt;refine st _ _ _ (by decide) (n1 _ fun _=>e1 _ _ (by decide) fun _=>x1 _ fun _=>.rt) ?_;refine st _ _ _ (by decide) (n1 _ fun _=>b1 _ _ (by decide) fun _=>.bd (dn_dst.le zBC_0:Dn 0 _) (fun _=>.rt) zBC_0) ?_;refine st _ _ _ (by decide) (.bd dn_cnd (fun _=>.bd h (fun _=>.bd (.acc (by decide) (.bd dn_eol (fun _=>h) zBC_0:Dn 0 _) .rt zBC_0 zBC_0:Dn 0 _) (fun _=>e1 _ _ (by decide) fun _=>.rt) zBC_0:∀_,Dn 0 _) zBC_0:∀_,Dn 0 _) zBC_0) ?_;refine st _ _ _ (by decide) (.bd dn_cnd (fun _=>.bd h (fun _=>e1 _ _ (by decide) fun _=>.rt) zBC_0:∀_,Dn 0 _) zBC_0) ?_;refine st _ _ _ (by decide) (x1 _ fun _=>.rt) ?_;refine st _ _ _ (by decide) (n1 _ fun _=>x1 _ fun _=>e1 _ _ (by decide) fun _=>x1 _ fun _=>.bd (.acc (by decide) .rt .rt zBC_0 zBC_0:Dn 0 _) (fun _=>.rt) zBC_0) ?_;refine st _ _ _ (by decide) (a 7) ?_;refine st _ _ _ (by decide) (x1 _ fun _=>b1 _ _ (by decide) fun _=>.rt) ?_;refine st _ _ _ (by decide) (n1 _ fun _=>b1 _ _ (by decide) fun _=>.rt) ?_;refine st _ _ _ (by decide) (n1 _ fun _=>.rt) ?_;refine st _ _ _ (by decide) (n1 _ fun _=>.rt) ?_;refine st _ _ _ (by decide) (a 12) ?_;refine st _ _ _ (by decide) (n1 _ fun _=>e1 _ _ (by decide) fun _=>(dn_bgn 13 _).le zBC_0) ?_;refine st _ _ _ (by decide) ((dn_bgn 14 _).le zBC_0) ?_;refine st _ _ _ (by decide) (a 15) ?_;refine st _ _ _ (by decide) (a 16) ?_;refine st _ _ _ (by decide) (a 17) ?_;exact st _ _ _ (by decide) .rt .fl
theorem dn_stL {S:P St} (h:Dn 1 S):∀n l,Dn 0 (stL S n l)
 | 0,l=>.fl
 | n+1,l=>.see .rt (.see .rt (.kd .rt (.bd h (fun x=>.bd dn_eol (fun _=>dn_stL h n (l++[x])) zBC_0:∀_,Dn 0 _) zBC_0:Dn 0 _) zBC_0 zBC_0:Dn 0 _) zBC_0 zBC_0:Dn 0 _) zBC_0 zBC_0
theorem dn_fS:∀n,Dn 0 (fS n)
 | 0=>by rw[fS];exact .fl
 | n+1=>by rw[fS];exact dn_stL (dn_stt (dn_fS n)) FU []
theorem dn_sts:Dn 0 sts:=dn_fS FU
theorem dn_typ:Dn 1 typ:=.acc (by decide) .rt (.acc (by decide) .rt (.acc (by decide) .rt (.fl:Dn 1 _) zBC_0 zBC_0:Dn 1 _) zBC_0 zBC_0:Dn 1 _) zBC_0 zBC_0
theorem dn_val:Dn 1 val:=.bd dn_nam (fun _=>.bd dn_typ (fun _=>.bd (.exp (by decide)) (fun _=>.bd (.iff dn_tru dn_itg) (fun _=>.bd dn_eol (fun _=>.rt) zBC_0:∀_,Dn 0 _) zBC_0:∀_,Dn 0 _) zBC_0:∀_,Dn 0 _) zBC_0:∀_,Dn 0 _) zBC_0
theorem dn_fld:Dn 1 fld:=.bd dn_nam (fun _=>.bd dn_typ (fun _=>.rt) zBC_0:∀_,Dn 0 _) zBC_0
theorem dn_shf:Dn 0 shf:=.acc (by decide) (.bd dn_prs (fun _=>.bd (.exp (by decide)) (fun _=>.bd dn_num (fun _=>.rt) zBC_0:∀_,Dn 0 _) zBC_0:∀_,Dn 0 _) zBC_0:Dn 0 _) .rt zBC_0 zBC_0
theorem dn_flt:Dn 0 flt:=.acc (by decide) (.bd dn_nam (fun _=>.bd (.exp (by decide)) (fun _=>.bd dn_dst (fun _=>.bd (.exp (by decide)) (fun _=>.bd dn_dst (fun _=>.rt) zBC_0:∀_,Dn 0 _) zBC_0:∀_,Dn 0 _) zBC_0:∀_,Dn 0 _) zBC_0:∀_,Dn 0 _) zBC_0:Dn 0 _) .rt zBC_0 zBC_0
theorem dn_rsc:Dn 1 rsc:=.bd dn_nam (fun _=>.bd dn_num (fun _=>.bd dn_shf (fun _=>.bd dn_flt (fun _=>.bd dn_eol (fun _=>.rt) zBC_0:∀_,Dn 0 _) zBC_0:∀_,Dn 0 _) zBC_0:∀_,Dn 0 _) zBC_0:∀_,Dn 0 _) zBC_0
theorem dn_pol:Dn 1 pol:=.acc (by decide) .rt (.acc (by decide) .rt (.acc (by decide) .rt (.fl:Dn 1 _) zBC_0 zBC_0:Dn 1 _) zBC_0 zBC_0:Dn 1 _) zBC_0 zBC_0
theorem dn_sto:Dn 1 sto:=.bd dn_nam (fun _=>.bd dn_num (fun _=>.bd dn_pol (fun _=>.bd dn_eol (fun _=>.rt) zBC_0:∀_,Dn 0 _) zBC_0:∀_,Dn 0 _) zBC_0:∀_,Dn 0 _) zBC_0
theorem dn_blt:Dn 1 blt:=.bd dn_nam (fun _=>.bd dn_num (fun _=>.bd dn_num (fun _=>.bd dn_eol (fun _=>.rt) zBC_0:∀_,Dn 0 _) zBC_0:∀_,Dn 0 _) zBC_0:∀_,Dn 0 _) zBC_0
theorem dn_lcL:∀n l,Dn 0 (lcL n l)
 | 0,l=>.fl
 | n+1,l=>.acc (by decide) (.bd dn_fld (fun x=>.bd dn_eol (fun _=>dn_lcL n (l++[x])) zBC_0:∀_,Dn 0 _) zBC_0:Dn 0 _) .rt zBC_0 zBC_0
theorem dn_rou:Dn 1 rou:=.bd dn_nam (fun _=>.bd (dn_lst dn_fld) (fun _=>.bd dn_eol (fun _=>.bd (dn_lcL FU []:Dn 0 _) (fun _=>.bd dn_sts (fun _=>.bd (.exp (by decide)) (fun _=>.bd dn_eol (fun _=>.rt) zBC_0:∀_,Dn 0 _) zBC_0:∀_,Dn 0 _) zBC_0:∀_,Dn 0 _) zBC_0:∀_,Dn 0 _) zBC_0:∀_,Dn 0 _) zBC_0:∀_,Dn 0 _) zBC_0
theorem dn_arg:Dn 1 arg:=.see dn_tru (.see dn_tru dn_itg zBC_0 zBC_0:Dn 1 _) zBC_0 zBC_0
theorem dn_evy:Dn 0 evy:=.acc (by decide) (.bd dn_num (fun _=>.bd (.exp (by decide)) (fun _=>.bd dn_num (fun _=>.rt) zBC_0:∀_,Dn 0 _) zBC_0:∀_,Dn 0 _) zBC_0:Dn 0 _) .rt zBC_0 zBC_0
theorem dn_sta:Dn 1 sta:=.bd dn_nam (fun _=>.bd (dn_lst dn_arg) (fun _=>.bd (.exp (by decide)) (fun _=>.bd dn_num (fun _=>.bd dn_evy (fun _=>.bd dn_eol (fun _=>.rt) zBC_0:∀_,Dn 0 _) zBC_0:∀_,Dn 0 _) zBC_0:∀_,Dn 0 _) zBC_0:∀_,Dn 0 _) zBC_0:∀_,Dn 0 _) zBC_0
theorem dn_trm:Dn 2 trm:=.bd (.kd (.bd dn_num (fun _=>.bd (.exp (by decide)) (fun _=>.rt) zBC_0:∀_,Dn 0 _) zBC_0:Dn 0 _) .rt zBC_0 zBC_0:Dn 0 _) (fun _=>.bd dn_nam (fun _=>.bd dn_nam (fun _=>.rt) zBC_0:∀_,Dn 1 _) zBC_0:∀_,Dn 2 _) zBC_0
theorem dn_sgt:Dn 1 sgt:=.acc (by decide) dn_trm (.bd (.exp (by decide)) (fun _=>.bd dn_trm (fun _=>.rt) zBC_0:∀_,Dn 0 _) zBC_0:Dn 1 _) zBC_0 zBC_0
theorem dn_lwL:∀n l,Dn 1 (lwL n l)
 | 0,l=>.fl
 | n+1,l=>.acc (by decide) .rt (.bd dn_sgt (fun x=>dn_lwL n (l++[x])) zBC_0:Dn 1 _) zBC_0 zBC_0
theorem dn_law:Dn 1 law:=.bd dn_nam (fun _=>.bd (.exp (by decide)) (fun _=>.bd (.see .rt (.bd dn_trm (fun _=>.rt) zBC_0:Dn 0 _) zBC_0 zBC_0:Dn 0 _) (fun l=>.bd (dn_lwL FU l:Dn 1 _) (fun _=>.bd dn_itg (fun _=>.bd dn_eol (fun _=>.rt) zBC_0:∀_,Dn 0 _) zBC_0:∀_,Dn 0 _) zBC_0:∀_,Dn 0 _) zBC_0:∀_,Dn 0 _) zBC_0:∀_,Dn 0 _) zBC_0
theorem dn_dcl (x:Ste):Dn 1 (dcl x):=by
 have st:∀{α:Type} (s:ByteArray) (A:P α) (k:α->P Ste) (B:P Ste),¬bs s=[]->Dn 1 A->(∀y,Dn 0 (k y))->Dn 1 B->Dn 1 (acc s (bd A k) B):=fun s A k B hs hA hk hB=>.acc hs (.bd hA hk zBC_0:Dn 1 _) hB zBC_0 zBC_0;have nl:Dn 1 nmL:=dn_nmL.le zBC_0;unfold dcl;refine st _ _ _ _ (by decide) dn_val (fun _=>.rt) (st _ _ _ _ (by decide) dn_rsc (fun _=>.rt) (st _ _ _ _ (by decide) dn_sto (fun _=>.rt) (st _ _ _ _ (by decide) dn_blt (fun _=>.rt) ?_)));refine st _ _ _ _ (by decide) nl (fun _=>.rt) (st _ _ _ _ (by decide) nl (fun _=>.rt) (st _ _ _ _ (by decide) nl (fun _=>.rt) (st _ _ _ _ (by decide) nl (fun _=>.rt) (st _ _ _ _ (by decide) nl (fun _=>.rt) ?_))));exact st _ _ _ _ (by decide) dn_rou (fun _=>.rt) (st _ _ _ _ (by decide) dn_sta (fun _=>.rt) (st _ _ _ _ (by decide) dn_law (fun _=>.rt) .fl))
theorem dn_siL:∀n x,Dn 1 (siL n x)
 | 0,x=>.fl
 | n+1,x=>.acc (by decide) .rt (.bd (dn_dcl x) (fun y=>dn_siL n y) zBC_0:Dn 1 _) zBC_0 zBC_0
theorem dn_sit:Dn 1 sit:=.bd dn_nmL (fun s=>.bd (dn_siL FU (sit0 s):Dn 1 _) (fun _=>.bd dn_eol (fun _=>.rt) zBC_0:∀_,Dn 0 _) zBC_0:∀_,Dn 0 _) zBC_0
theorem dn_lnk:Dn 1 lnk:=.bd dn_nam (fun _=>.bd dn_nam (fun _=>.bd dn_num (fun _=>.bd dn_eol (fun _=>.rt) zBC_0:∀_,Dn 0 _) zBC_0:∀_,Dn 0 _) zBC_0:∀_,Dn 0 _) zBC_0
theorem dn_prt (m:Mdl):Dn 1 (prt m):=.acc (by decide) (.bd dn_val (fun _=>.rt) zBC_0:Dn 1 _) (.acc (by decide) (.bd dn_lnk (fun _=>.rt) zBC_0:Dn 1 _) (.acc (by decide) (.bd dn_sit (fun _=>.rt) zBC_0:Dn 1 _) (.fl:Dn 1 _) zBC_0 zBC_0:Dn 1 _) zBC_0 zBC_0:Dn 1 _) zBC_0 zBC_0
end Go.Proofs.YtbgodajefaahdaaGreatDoor.Ps
namespace Go.Proofs.YtbgodajefaahdaaGreatDoor.Na
open Go.RowKit
set_option maxHeartbeats 4000000
theorem clash {x:Bool} (h:x=true) (g:x=false):False:=by rw[h] at g;cases g
theorem kw_yes {s:ByteArray} {c:List UInt8} (h:(s.toList==c)=true) (hc:kwl.contains c=true):true=isKw (bs s):=by
 have e:bs s=c:=by
  have g:=eq_of_beq h;rw[Lib.toList_data] at g;exact g
 unfold isKw;rw[e,hc]
theorem kw_any (s:ByteArray):isKw (bs s)=kwl.any fun c=>s.toList==c:=by
 unfold isKw;simp only[Lib.toList_data];rw[List.contains_eq_any_beq]
set_option maxRecDepth 100000 in
theorem keyword_any (s:ByteArray) (w:World):Calls Tryz.prog 67 #[.string s] w fun e w'=>e=.returned (.bool (isKw (bs s)))/\w'=w:=by
 go_enter Tryz.func67,Tryz.ntmps67;go_wp2_with fail
 all_goals first
  | exact(clash (by assumption) (by assumption)).elim
  | (go_ret;exact⟨ret_bool (kw_yes (by assumption) (by decide)),rfl⟩)
  | (go_ret;exact⟨ret_bool (by rw[kw_any];simp only[kwl,List.any_cons,List.any_nil,Bool.or_false, *]),rfl⟩)
theorem keyword_at {s:ByteArray} {b:Bool} (h:isKw (bs s)=b) (w:World):Calls Tryz.prog 67 #[.string s] w fun e w'=>e=.returned (.bool b)/\w'=w:=by rw[← h];exact keyword_any s w
end Go.Proofs.YtbgodajefaahdaaGreatDoor.Na
namespace Go.Proofs.YtbgodajefaahdaaGreatDoor.Na
open Go.RowKit
set_option maxHeartbeats 2000000
theorem bs_cut (s:ByteArray) (a b:Nat):bs (s.extract a b)=((bs s).drop a).take (b-a):=by
 show(s.extract a b).data.toList=_
 rw[ByteArray.data_extract,Array.toList_extract]
theorem cut_size (s:ByteArray) (h:1<=s.size):(s.extract 1 s.size).size+1=s.size:=by rw[ByteArray.size_extract];omega
theorem bs_tail (s:ByteArray):bs (s.extract 1 s.size)=(bs s).drop 1:=by
 rw[bs_cut,List.take_of_length_le (by rw[List.length_drop,bs_len];exact Nat.le_refl _)]
def Good (l:List UInt8) (k:Nat):Prop:=∀j,j<k->(h:j<l.length)->goodC l[j]=true
theorem good_one {l:List UInt8} (h0:0<l.length) (h:ltrC l[0]=true):Good l 1:=by
 intro j hj hl;obtain rfl:j=0:=by omega
 exact good_let h
theorem good_step {l:List UInt8} {k:Nat} (hk:k<l.length) (h:Good l k) (e:goodC l[k]=true):Good l (k+1):=by
 intro j hj hl;rcases Nat.lt_or_ge j k with h1|h1
 · exact h j h1 hl
 · obtain rfl:j=k:=by omega
   exact e
theorem good_end {l:List UInt8} {k:Nat} (h:Good l k) (hk:l.length=k) (h1:1<=l.length) (h2:l.length<=24) (h3:ltrC (l[0])=true) (h4:isKw l=false):chk l=0:=
 all_good h1 h2 h3 h4 fun j hj=>h j (by omega) hj
theorem zBM_0 {p:Prop} (h:p:=by
 rintro e w3 ⟨rfl,rfl⟩;go_wp2_with fail;go_round
 case rel=>exact⟨k+1,by omega,by go_num,HY2⟩
 case measure=>simp[intOf];omega
 ):p:=h
theorem zBM_1 {p:Prop} (h:p:=by
 go_wp2_with fail;go_ret;exact⟨ret_int HR.out.symm,Below.refl _ _⟩
 ):p:=h
set_option maxRecDepth 100000 in
theorem check_any (s:ByteArray) (w:World) (hs:s.size<=9223372036854775807):Calls Tryz.prog 35 #[.string s] w (Gives (.int .i64 (chk (bs s))) w):=by
 have hs':(s.size:Int)<=9223372036854775807:=by omega
 by_cases h1:s.size<1
 · have t1:decide ((s.size:Int)<1)=true:=decide_eq_true (by omega);have HR:=hid (bad_short (l:=bs s) (by rw[bs_len];exact h1));go_enter Tryz.func35,Tryz.ntmps35;exact zBM_1
 have t1:decide ((s.size:Int)<1)=false:=decide_eq_false (by omega);by_cases h2:24<s.size
 · have t2:decide (24<(s.size:Int))=true:=decide_eq_true (by omega);have HR:=hid (bad_long (l:=bs s) (by rw[bs_len];exact h2));go_enter Tryz.func35,Tryz.ntmps35;exact zBM_1
 have t2:decide (24<(s.size:Int))=false:=decide_eq_false (by omega);have c0:(0:Int)<(s.size:Int):=by omega
 have hs0:0<s.size:=by omega
 by_cases h3:ltrI ((s[0]).toNat:Int)=true
 · by_cases h4:isKw (bs s)=true
   · have HR:=hid (bad_kw h4);go_enter Tryz.func35,Tryz.ntmps35;go_wp2_with fail;refine(letter_at h3 w).mono ?_;rintro e w1 ⟨rfl,rfl⟩;go_wp2_with fail;refine(keyword_at h4 w1).mono ?_;rintro e w1 ⟨rfl,rfl⟩;exact zBM_1
   · have h4':isKw (bs s)=false:=by simpa using h4
     go_enter Tryz.func35,Tryz.ntmps35;go_wp2_with fail;refine(letter_at h3 w).mono ?_;rintro e w1 ⟨rfl,rfl⟩;go_wp2_with fail;refine(keyword_at h4' w1).mono ?_;rintro e w1 ⟨rfl,rfl⟩;have c1:(1:Int)<=(s.size:Int):=by omega
     have HL:Hid (1<=(bs s).length/\(bs s).length<=24):=hid (by rw[bs_len];omega);have HC:=hid (show ltrC (bs s)[0]=true from h3);have HK:=hid h4';have HM:=cut_size s (by omega);have HT:=bs_tail s;obtain⟨c,w2,q1,hq1,hb2⟩:=bytes_S (s.extract 1 s.size) (by omega) w1;obtain⟨S,hS⟩:∃S,s.extract 1 s.size=S:=⟨_,rfl⟩
     rw[hS] at HM HT hq1;rw[show(s.extract 1 s.size).size=S.size by rw[hS]] at q1;obtain⟨M,eM⟩:∃M,S.size=M:=⟨_,rfl⟩
     rw[eM] at HM hq1 q1;have hM:(M:Int)<=24:=by omega
     have HQ:=hid hq1;have HT':=hid HT;have HM':=hid HM;have HLs:=hid (bs_len s);clear HT hq1 eM HM hS h3 h4 h4';go_wp2_with fail;go_loop [27] (fun i=>∃k:Nat,k<=M/\i=.int .i64 (k:Nat)/\Hid (Good (bs s) (k+1))) (fun i=>M-(intOf i).toNat)
     case atStart=>exact⟨0,Nat.zero_le _,rfl,hid (good_one HL.out.1 HC.out)⟩
     case round=>
      obtain⟨k,hk,rfl,HG⟩:=hrel;have d1:(0:Int)<=(k:Int):=by omega
      rcases Nat.lt_or_ge k M with h|h
      · have hks:k+1<(bs s).length:=by rw[HLs.out,← HM'.out];omega
        obtain⟨hlen,-,h0|⟨b,o,hp,hb,hcell⟩⟩:=HQ.out
        · omega
        · cases hp
          have hkl:k<(bs S).length:=by omega
          have e1:=hcell.out k hkl;have e2:(bs S)[k]=(bs s)[k+1]:=by simp only[HT'.out,List.getElem_drop,Nat.add_comm]
          rw[e2,Nat.zero_add] at e1;have d2:(k:Int)<(M:Int):=by omega
          have HY:=hid (fun h=>good_step hks HG.out h);have HN:=hid (fun h=>bad_at hks h);have HD:Hid (goodC (bs s)[k+1]=goodI (((bs s)[k+1]).toNat:Int)):=hid rfl;obtain⟨x,hx⟩:∃x:Int,(((bs s)[k+1]).toNat:Int)=x:=⟨_,rfl⟩
          rw[hx] at e1 HD;rw[HD.out] at HY HN;clear hcell e2 hlen hkl hks hx HD;by_cases g1:ltrI x=true
          · have HY2:=hid (HY.out (good_let g1));clear HY HN;go_wp2_with fail;refine(letter_at g1 w2).mono ?_;exact zBM_0
          have g1':ltrI x=false:=by simpa using g1
          by_cases g2:digI x=true
          · have HY2:=hid (HY.out (good_dig g2));clear HY HN g1;go_wp2_with fail;refine(letter_at g1' w2).mono ?_;rintro e w3 ⟨rfl,rfl⟩;go_wp2_with fail;refine(digit_at g2 w3).mono ?_;exact zBM_0
          have g2':digI x=false:=by simpa using g2
          by_cases g3:x=95
          · have HY2:=hid (HY.out (good_low g3));subst g3;clear HY HN g1 g2;go_wp2_with fail;refine(letter_at g1' w2).mono ?_;rintro e w3 ⟨rfl,rfl⟩;go_wp2_with fail;refine(digit_at g2' w3).mono ?_;exact zBM_0
          · have HR:=hid (HN.out (good_not g1' g2' g3));have q3:(x==95)=false:=beq_eq_false_iff_ne.2 g3;clear HY HN g1 g2;go_wp2_with fail;refine(letter_at g1' w2).mono ?_;rintro e w3 ⟨rfl,rfl⟩;go_wp2_with fail;refine(digit_at g2' w3).mono ?_;rintro e w3 ⟨rfl,rfl⟩;go_wp2_with fail;go_ret;exact⟨ret_int HR.out.symm,hb2⟩
      · obtain rfl:M=k:=by omega
        have HR:=hid (good_end HG.out (by rw[HLs.out,HM'.out]) HL.out.1 HL.out.2 HC.out HK.out);go_wp2_with fail;go_ret;exact⟨ret_int HR.out.symm,hb2⟩
 · have h3':ltrI ((s[0]).toNat:Int)=false:=by simpa using h3
   have HR:=hid (bad_head (l:=bs s) (by rw[bs_len];exact hs0) h3');go_enter Tryz.func35,Tryz.ntmps35;go_wp2_with fail;refine(letter_at h3' w).mono ?_;rintro e w1 ⟨rfl,rfl⟩;exact zBM_1
end Go.Proofs.YtbgodajefaahdaaGreatDoor.Na
namespace Go.Proofs.YtbgodajefaahdaaGreatDoor.Ps
open Go.Proofs.YtbgodajefaahdaaGreatDoor.Ps.P (rt fl bd acc see kd exp len)
open Go.Proofs.YtbgodajefaahdaaGreatDoor.Lx (Tk bs mt)
open Go.Proofs.YtbgodajefaahdaaGreatDoor.Ex (Ex)
structure Sat {α:Type} (Q:α->Prop) (m:P α):Prop where
 out:∀{t u:List Tk} {x:α},Gd t->run m t=.ok x u->Q x/\Gd u
section
variable {α β:Type} {Q:α->Prop} {Q':β->Prop} {m:P β} {k:β->P α} {A B:P α} {s:ByteArray}
theorem Sat.dn {n:Nat} {m:P α} (h:Dn n m):Sat (fun _=>True) m:=⟨fun g e=>⟨trivial,(h.out g e).1⟩⟩
theorem Sat.imp {Q2:α->Prop} {m:P α} (h:Sat Q m) (hi:∀x,Q x->Q2 x):Sat Q2 m:=⟨fun g e=>⟨hi _ (h.out g e).1,(h.out g e).2⟩⟩
theorem Sat.rt {x:α} (h:Q x):Sat Q (rt x):=⟨fun g e=>by rw[run_rt] at e;cases e;exact⟨h,g⟩⟩
theorem Sat.fl:Sat Q (fl:P α):=⟨fun g e=>by rw[run_fl] at e;cases e⟩
theorem Sat.bd (h:Sat Q' m) (hk:∀x,Q' x->Sat Q (k x)):Sat Q (bd m k):=by
 refine⟨fun {t u x} g e=>?_⟩
 cases hm:run m t with
 | ok y v=>
  rw[bd_ok hm] at e;obtain⟨h1,h2⟩:=h.out g hm;exact(hk y h1).out h2 e
 | no v=>rw[bd_no hm] at e;cases e
theorem Sat.len {f:Nat->β->α} (h:Sat Q' m) (hf:∀d x,Q' x->Q (f d x)):Sat Q (len m f):=by
 refine⟨fun {t u x} g e=>?_⟩
 cases hm:run m t with
 | ok y v=>rw[len_ok hm] at e;cases e;obtain⟨h1,h2⟩:=h.out g hm;exact⟨hf _ _ h1,h2⟩
 | no v=>rw[len_no hm] at e;cases e
theorem Sat.acc (hs:¬bs s=[]) (hA:Sat Q A) (hB:Sat Q B):Sat Q (acc s A B):=by
 refine⟨fun {t u x} g e=>?_⟩
 cases hi:is s t with
 | true=>rw[acc_yes hi] at e;exact hA.out (is_tail g hs hi).1 e
 | false=>rw[acc_no hi] at e;exact hB.out g e
theorem Sat.see (hA:Sat Q A) (hB:Sat Q B):Sat Q (see s A B):=by
 refine⟨fun {t u x} g e=>?_⟩
 cases hi:is s t with
 | true=>rw[see_yes hi] at e;exact hA.out g e
 | false=>rw[see_no hi] at e;exact hB.out g e
theorem Sat.kd {j:Int} (hA:Sat Q A) (hB:Sat Q B):Sat Q (kd j A B):=by
 refine⟨fun {t u x} g e=>?_⟩;by_cases hi:(hd t).k=j
 · rw[kd_yes hi] at e;exact hA.out g e
 · rw[kd_no hi] at e;exact hB.out g e
end
def Bn (n:Int):Prop:=-1000000000000<=n/\n<=1000000000000
theorem sat_num:Sat (fun n=>0<=n/\n<=1000000000000) num:=by
 refine⟨fun {t u x} g e=>?_⟩;by_cases hi:(hd t).k=2
 · have e2:run num t=.ok (hd t).n t.tail:=by unfold num;rw[bd_ok (tk_yes hi)];rfl
   rw[e2] at e;cases e
   exact⟨g.wf.n,(g.tail (by omega)).1⟩
 · have e2:run num t=.no t:=by unfold num;rw[bd_no (tk_no hi)]
   rw[e2] at e;cases e
def QE (e:Ex):Prop:=(e.o=5->∃s m y,e=.mk 5 s m [y]/\Bn y.n)/\Bn e.n
theorem bn0:Bn 0:=by unfold Bn;omega
theorem qe_nd2 {o:Int} {x y:Ex} (h:¬o=5):QE (nd2 o x y):=⟨fun e=>absurd e h,bn0⟩
theorem qe_nd1 {o:Int} {x:Ex} (hx:QE x):QE (nd1 o x):=⟨fun e=>⟨mt,0,x,by have e:o=5:=e;rw[e];rfl,hx.2⟩,bn0⟩
theorem qe_leaf {o n:Int} {s:ByteArray} (h:¬o=5) (hn:Bn n):QE (.mk o s n []):=⟨fun e=>absurd e h,hn⟩
theorem sat_opr {α:Type} {Q:α->Prop} {A:Int->P α} {B:P α} (hB:Sat Q B):∀{os:List (ByteArray×Int)},(∀q∈os,Sat Q (A q.2))->(∀q∈os,¬bs q.1=[])->Sat Q (opr A B os)
 | [],_,_=>hB
 | q::r,hA,hs=>.acc (hs q (.head _)) (hA q (.head _)) (sat_opr hB (fun p hp=>hA p (.tail _ hp)) fun p hp=>hs p (.tail _ hp))
section
variable {m:P Ex} {os:List (ByteArray×Int)}
theorem sat_chL (h:Sat QE m) (hs:∀q∈os,¬bs q.1=[]) (h5:∀q∈os,¬q.2=5):∀n e,QE e->Sat QE (chL m os n e)
 | 0,_,_=>.fl
 | n+1,e,he=>sat_opr (.rt he) (fun q hq=>.bd h fun y _=>sat_chL h hs h5 n _ (qe_nd2 (h5 q hq))) hs
theorem sat_chn (h:Sat QE m) (hs:∀q∈os,¬bs q.1=[]) (h5:∀q∈os,¬q.2=5):Sat QE (chn m os):=.bd h fun e he=>sat_chL h hs h5 FU e he
end
section
variable {E F N:P Ex}
theorem sat_one (h:Sat QE E) (o:Int):Sat QE (one E o):=.bd (.dn (.exp (by decide):Dn 1 _)) fun _ _=>.bd h fun x hx=>.bd (.dn (.exp (by decide):Dn 1 _)) fun _ _=>.rt (qe_nd1 hx)
theorem sat_two (h:Sat QE E) {o:Int} (ho:¬o=5):Sat QE (two E o):=.bd (.dn (.exp (by decide):Dn 1 _)) fun _ _=>.bd h fun x hx=>.bd (.dn (.exp (by decide):Dn 1 _)) fun _ _=>.bd h fun y hy=>.bd (.dn (.exp (by decide):Dn 1 _)) fun _ _=>.rt (qe_nd2 ho)
theorem sat_onm {o:Int} (ho:¬o=5):Sat QE (onm o):=.bd (.dn (.exp (by decide):Dn 1 _)) fun _ _=>.bd (.dn dn_nam) fun s _=>.bd (.dn (.exp (by decide):Dn 1 _)) fun _ _=>.rt (qe_leaf ho bn0)
theorem qe_neg {d:Nat} {e:Ex} (h:QE e):QE (neg d e):=by
 unfold neg
 split
 · obtain⟨s,m,y,he,hy⟩:=h.1 rfl;injection he with _ _ _ he;injection he with he;subst he;exact qe_leaf (by decide) (by unfold Bn at hy ⊢; simp only[Ex.n] at hy;omega)
 · exact h
theorem sat_grp (h:Sat QE E):Sat QE (grp E):=.len (Q':=QE) (.bd (.dn (.exp (by decide):Dn 1 _)) fun _ _=>.bd h fun x hx=>.bd (.dn (.exp (by decide):Dn 1 _)) fun _ _=>.rt hx) fun d x hx=>qe_neg hx
theorem sat_tru:Sat Bn tru:=.acc (by decide) (.rt (by unfold Bn;omega)) (.bd (.dn (.exp (by decide):Dn 1 _)) fun _ _=>.rt bn0)
theorem sat_prm (h:Sat QE E):Sat QE (prm E):=
 .kd (.bd sat_num fun n hn=>.rt (qe_leaf (by decide) (by unfold Bn;omega))) <|
 .see (.bd sat_tru fun n hn=>.rt (qe_leaf (by decide) hn)) <|
 .see (.bd sat_tru fun n hn=>.rt (qe_leaf (by decide) hn)) <|
 .acc (by decide) (.rt (qe_leaf (by decide) bn0)) <|
 .acc (by decide) (sat_one h 7) <|
 .acc (by decide) (sat_one h 8) <|
 .acc (by decide) (sat_two h (by decide)) <|
 .acc (by decide) (sat_two h (by decide)) <|
 .acc (by decide) (sat_onm (by decide)) <|
 .acc (by decide) (sat_onm (by decide)) <|
 .acc (by decide) (sat_onm (by decide)) <|
 .see (sat_grp h) <|
 .bd (.dn dn_nam) fun s _=>.rt (qe_leaf (by decide) bn0)
theorem sat_fac (h:Sat QE E) (hF:Sat QE F):Sat QE (fac E F):=.acc (by decide) (.bd hF fun x hx=>.rt (qe_nd1 hx)) (sat_prm h)
theorem sat_sum (h:Sat QE F):Sat QE (sum F):=sat_chn (sat_chn h (by decide) (by decide)) (by decide) (by decide)
theorem sat_cmp (h:Sat QE F):Sat QE (cmp F):=.bd (sat_sum h) fun x hx=>
 .acc (by decide) (.bd (sat_sum h) fun y hy=>.rt (qe_nd2 (by decide))) <|
 .acc (by decide) (.bd (sat_sum h) fun y hy=>.rt (qe_nd2 (by decide))) <|
 .acc (by decide) (.bd (sat_sum h) fun y hy=>.rt (qe_nd2 (by decide))) <|
 .acc (by decide) (.bd (sat_sum h) fun y hy=>.rt (qe_nd2 (by decide))) <|
 .acc (by decide) (.bd (sat_sum h) fun y hy=>.rt (qe_nd2 (by decide))) <|
 .acc (by decide) (.bd (sat_sum h) fun y hy=>.rt (qe_nd2 (by decide))) <|
 .rt hx
theorem sat_ngt (h:Sat QE F) (hN:Sat QE N):Sat QE (ngt F N):=.acc (by decide) (.bd hN fun x hx=>.rt (qe_nd1 hx)) (sat_cmp h)
theorem sat_dsj (h:Sat QE N):Sat QE (dsj N):=sat_chn (sat_chn h (by decide) (by decide)) (by decide) (by decide)
theorem sat_lv:∀n,Sat QE (fF n)/\Sat QE (fN n)/\Sat QE (fE n)
 | 0=>by rw[fF,fN,fE];exact⟨.fl,.fl,.fl⟩
 | n+1=>by
  obtain⟨h1,h2,h3⟩:=sat_lv n;rw[fF,fN,fE];exact⟨sat_fac h3 h1,sat_ngt (sat_fac h3 h1) h2,sat_dsj (sat_ngt (sat_fac h3 h1) h2)⟩
end
theorem fE_neg (n:Nat):∀u x v,Gd u->run (fE n) u=.ok x v->x.o=5->∃s m y,x=.mk 5 s m [y]/\-1000000000000<=y.n/\y.n<=1000000000000:=fun u x v g e ho=>((sat_lv n).2.2.out g e).1.1 ho
end Go.Proofs.YtbgodajefaahdaaGreatDoor.Ps
namespace Go.Proofs.YtbgodajefaahdaaGreatDoor.Ps
open Go.Proofs.YtbgodajefaahdaaGreatDoor.Ps.P (rt fl bd acc see kd kw tk exp len)
open Go.Proofs.YtbgodajefaahdaaGreatDoor.Lx (Tk)
theorem zCY_1 {p:Prop} (h:p:=by
 intro t;rw[run]
 split
 · exact⟨fun x u g=>(by cases g;exact List.tail_suffix t),fun u g=>(by cases g)⟩
 · exact⟨fun x u g=>(by cases g),fun u g=>(by cases g;exact List.suffix_refl _)⟩
 ):p:=h
theorem zCY_2 {p:Prop} (h:p:=by rw[run,hm] at h;cases h):p:=h
theorem suf {α:Type} (m:P α):∀t:List Tk,(∀x u,run m t=.ok x u->u <:+ t)/\(∀u,run m t=.no u->u <:+ t):=by
 induction m with
 | rt x=>exact fun t=>⟨fun y u h=>(by rw[run] at h;cases h;exact List.suffix_refl _),fun u h=>(by rw[run] at h;cases h)⟩
 | fl=>exact fun t=>⟨fun y u h=>(by rw[run] at h;cases h),fun u h=>by rw[run] at h;cases h;exact List.suffix_refl _⟩
 | bd m k ih1 ih2=>
  intro t
  cases hm:run m t with
  | ok y v=>
   have hv:=(ih1 t).1 y v hm;exact⟨fun x u h=>(by rw[run,hm] at h;exact((ih2 y v).1 x u h).trans hv),fun u h=>(by rw[run,hm] at h;exact((ih2 y v).2 u h).trans hv)⟩
  | no v=>exact⟨fun x u h=>zCY_2,fun u h=>by rw[run,hm] at h;cases h;exact(ih1 t).2 _ hm⟩
 | acc s A B ih1 ih2=>
  intro t;rw[run];by_cases h:is s t=true
  · rw[if_pos h];exact⟨fun x u g=>((ih1 _).1 x u g).trans (List.tail_suffix t),fun u g=>((ih1 _).2 u g).trans (List.tail_suffix t)⟩
  · rw[if_neg h];exact ih2 t
 | see s A B ih1 ih2=>
  intro t;rw[run]
  split
  · exact ih1 t
  · exact ih2 t
 | kd k A B ih1 ih2=>
  intro t;rw[run]
  split
  · exact ih1 t
  · exact ih2 t
 | kw A B ih1 ih2=>
  intro t;rw[run]
  split
  · exact ih1 t
  · exact ih2 t
 | tk k=>
  exact zCY_1
 | exp s=>
  exact zCY_1
 | len m f ih=>
  intro t
  cases hm:run m t with
  | ok y v=>exact⟨fun x u h=>(by rw[run,hm] at h;cases h;exact(ih t).1 _ _ hm),fun u h=>zCY_2⟩
  | no v=>exact⟨fun x u h=>zCY_2,fun u h=>by rw[run,hm] at h;cases h;exact(ih t).2 _ hm⟩
theorem hd_at (p r1 r2:List Tk) (w:Tk):hd (p++w::r1)=hd (p++w::r2):=by cases p <;> rfl
theorem is_at (s:ByteArray) (p r1 r2:List Tk) (w:Tk):is s (p++w::r1)=is s (p++w::r2):=by unfold is;rw[hd_at p r1 r2 w]
theorem not_suf {q r:List Tk} {w:Tk} (h:(q++w::r) <:+ r):False:=by
 have:=h.length_le;simp at this
 omega
theorem zCY_0 {p:Prop} (h:p:=by
 cases p with
 | nil=>exact(not_suf (q:=q) (r:=r1) (w:=w) (by rw[← h2];exact List.suffix_refl _)).elim
 | cons a p=>
  have h2:p++w::r1=q++w::r1:=h2;rw[← List.append_cancel_right h2];rfl
 ):p:=h
theorem run_at {α:Type} (m:P α):∀(w:Tk) (r1 r2 p:List Tk),(∀x q,run m (p++w::r1)=.ok x (q++w::r1)->run m (p++w::r2)=.ok x (q++w::r2))/\(∀q,run m (p++w::r1)=.no (q++w::r1)->run m (p++w::r2)=.no (q++w::r2)):=by
 induction m with
 | rt x=>
  intro w r1 r2 p;refine⟨fun y q h=>?_,fun q h=>(by rw[run] at h;cases h)⟩;rw[run] at h ⊢;injection h with h1 h2;rw[h1,List.append_cancel_right h2]
 | fl=>
  intro w r1 r2 p;refine⟨fun y q h=>(by rw[run] at h;cases h),fun q h=>?_⟩;rw[run] at h ⊢;injection h with h2;rw[List.append_cancel_right h2]
 | bd m k ih1 ih2=>
  intro w r1 r2 p
  cases hm:run m (p++w::r1) with
  | ok y v=>
   refine⟨fun x q h=>?_,fun q h=>?_⟩
   · rw[run,hm] at h;obtain⟨c,hc⟩:=(suf (k y) v).1 x _ h;rw[← List.append_assoc] at hc;subst hc;rw[run,(ih1 w r1 r2 p).1 y (c++q) hm];exact(ih2 y w r1 r2 (c++q)).1 x q h
   · rw[run,hm] at h;obtain⟨c,hc⟩:=(suf (k y) v).2 _ h;rw[← List.append_assoc] at hc;subst hc;rw[run,(ih1 w r1 r2 p).1 y (c++q) hm];exact(ih2 y w r1 r2 (c++q)).2 q h
  | no v=>
   refine⟨fun x q h=>zCY_2,fun q h=>?_⟩;rw[run,hm] at h;injection h with h2;subst h2;rw[run,(ih1 w r1 r2 p).2 q hm]
 | acc s A B ih1 ih2=>
  intro w r1 r2 p;rw[run,run,is_at s p r1 r2 w];by_cases h:is s (p++w::r2)=true
  · rw[if_pos h,if_pos h]
    cases p with
    | nil=>
     refine⟨fun x q g=>?_,fun q g=>?_⟩
     · exact(not_suf ((suf A r1).1 x _ g)).elim
     · exact(not_suf ((suf A r1).2 _ g)).elim
    | cons a p=>exact ih1 w r1 r2 p
  · rw[if_neg h,if_neg h];exact ih2 w r1 r2 p
 | see s A B ih1 ih2=>
  intro w r1 r2 p;rw[run,run,is_at s p r1 r2 w]
  split
  · exact ih1 w r1 r2 p
  · exact ih2 w r1 r2 p
 | kd k A B ih1 ih2=>
  intro w r1 r2 p;rw[run,run,hd_at p r1 r2 w]
  split
  · exact ih1 w r1 r2 p
  · exact ih2 w r1 r2 p
 | kw A B ih1 ih2=>
  intro w r1 r2 p;rw[run,run,hd_at p r1 r2 w]
  split
  · exact ih1 w r1 r2 p
  · exact ih2 w r1 r2 p
 | tk k=>
  intro w r1 r2 p;rw[run,run,hd_at p r1 r2 w]
  split
  · refine⟨fun x q h=>?_,fun q h=>(by cases h)⟩;injection h with h1 h2;subst h1;exact zCY_0
  · refine⟨fun x q h=>(by cases h),fun q h=>?_⟩;injection h with h2;rw[List.append_cancel_right h2]
 | exp s=>
  intro w r1 r2 p;rw[run,run,is_at s p r1 r2 w]
  split
  · refine⟨fun x q h=>?_,fun q h=>(by cases h)⟩;injection h with h1 h2;exact zCY_0
  · refine⟨fun x q h=>(by cases h),fun q h=>?_⟩;injection h with h2;rw[List.append_cancel_right h2]
 | len m f ih=>
  intro w r1 r2 p
  cases hm:run m (p++w::r1) with
  | ok y v=>
   refine⟨fun x q h=>?_,fun q h=>zCY_2⟩;rw[run,hm] at h;injection h with h1 h2;subst h2;have e:(p++w::r1).length-(q++w::r1).length=(p++w::r2).length-(q++w::r2).length:=by
    simp only[List.length_append,List.length_cons];omega
   rw[run,(ih w r1 r2 p).1 y q hm,← h1,e]
  | no v=>
   refine⟨fun x q h=>zCY_2,fun q h=>?_⟩;rw[run,hm] at h;injection h with h2;subst h2;rw[run,(ih w r1 r2 p).2 q hm]
end Go.Proofs.YtbgodajefaahdaaGreatDoor.Ps
namespace Go.Proofs.YtbgodajefaahdaaGreatDoor.Ps
open Go.Proofs.YtbgodajefaahdaaGreatDoor.Lx (Tk tokL tokE tok_valid tok_good tok_long tok_bad chkL chkK chkA orF orF_iff getD_at bef bef_succ plB orB fin lexL endL lex_len fmB)
theorem Gd.cons {x:Tk} {t:List Tk} (h:Wf x) (hk:¬x.k=0) (hg:Gd t):Gd (x::t):=by
 cases t with
 | nil=>exact hg.elim
 | cons y r=>exact⟨h,hk,hg⟩
theorem chk_facts {f:Bool} {b x:Tk} {last:Bool} (h:chkA f b x last=0):0<=x.k/\x.k<=4/\fmB x=true/\plB b.k x.k last=true/\orB f b.k b.l x.k x.l=true:=by
 unfold chkA at h
 split at h
 · cases h
 · rename_i h1
   split at h
   · cases h
   · rename_i h2
     split at h
     · cases h
     · rename_i h3
       have h2:(fmB x&&plB b.k x.k last)=true:=by cases e:(fmB x&&plB b.k x.k last) with|true=>rfl|false=>exact absurd e h2
       rw[Bool.and_eq_true] at h2;have h3:orB f b.k b.l x.k x.l=true:=by cases e:orB f b.k b.l x.k x.l with|true=>rfl|false=>exact absurd e h3
       exact⟨by omega,by omega,h2.1,h2.2,h3⟩
theorem gd_drop {l:List Tk} {m:Int} (hs:∀i,(h:i<l.length)->Wf l[i]) (h0:∀i,(h:i<l.length)->(l[i].k=0↔i+1=l.length)):∀k,k<l.length->Gd (l.drop (l.length-1-k))
 | 0,h=>by
  have hi:l.length-1-0<l.length:=by omega
  rw[List.drop_eq_getElem_cons hi,List.drop_of_length_le (by omega)];exact⟨hs _ hi,(h0 _ hi).2 (by omega)⟩
 | k+1,h=>by
  have hi:l.length-1-(k+1)<l.length:=by omega
  rw[List.drop_eq_getElem_cons hi];refine Gd.cons (hs _ hi) (fun e=>by have:=(h0 _ hi).1 e;omega) ?_;have:=gd_drop (m:=m) hs h0 k (by omega);rwa [show l.length-1-(k+1)+1=l.length-1-k by omega]
theorem endL_len (a:List Tk) (n:Nat):(endL a n).length<=a.length+1:=by
 unfold endL
 split <;> simp
theorem gd_tokens {s:List UInt8} (h:tokE s=0):Gd (tokL s)/\(tokL s).length<=30000:=by
 have hl:¬20000<s.length:=fun g=>by rw[(tok_long g).2.2] at h;cases h
 have hb:(lexL s [] 1).bad=false:=by
  cases e:(lexL s [] 1).bad with
  | false=>rfl
  | true=>rw[(tok_bad hl e).2.2] at h;cases h
 obtain⟨hv,hz⟩:=tok_valid h;have hL:=lex_len s.length s [] 1 (Nat.le_refl _);have hfin:=(tok_good hl hb).1;obtain⟨l,hll⟩:∃l,tokL s=l:=⟨_,rfl⟩
 rw[hll] at hv hz hfin ⊢;have hlen:l.length<=20002:=by
  rw[hfin];unfold fin;have:=endL_len (lexL s [] 1).a (lexL s [] 1).n;simp only[List.length_append,List.length_cons,List.length_nil] at hL ⊢;omega
 have hne:0<l.length:=by rw[hfin];unfold fin;simp
 have hlast:(l[l.length-1]'(by omega)).l=((lexL s [] 1).n:Int):=by
  simp only[hfin,fin];simp
 have h1:orF (chkK l) l.length=0:=by
  unfold chkL at hv
  split at hv
  · assumption
  · rename_i g;exact absurd hv g
 have hk:∀i,(h:i<l.length)->chkA (decide (i=0)) (bef l i) l[i] (decide (i+1=l.length))=0:=fun i hi=>by
  have:=orF_iff.1 h1 i hi;unfold chkK at this;rwa [getD_at hi] at this
 have hl0:(bef l l.length).k=0:=by
  unfold chkL at hv;rw[if_pos h1] at hv
  split at hv
  · assumption
  · cases hv
 have hk0:(l[l.length-1]'(by omega)).k=0:=by
  have:=bef_succ (l:=l) (j:=l.length-1) (by omega);rw[show l.length-1+1=l.length by omega] at this;rw[← this];exact hl0
 have hmono:∀i,(h:i+1<l.length)->l[i].l<=l[i+1].l:=fun i hi=>by
  obtain⟨-,-,-,-,ho⟩:=chk_facts (hk (i+1) hi);rw[bef_succ (by omega)] at ho;unfold orB at ho;rw[decide_eq_false (by omega),if_neg (by decide)] at ho
  split at ho
  · rw[decide_eq_true_eq] at ho;omega
  · split at ho <;> (rw[decide_eq_true_eq] at ho;omega)
 have hup:∀j,(h:j<l.length)->(l[l.length-1-j]'(by omega)).l<=((lexL s [] 1).n:Int):=by
  intro j
  induction j with
  | zero=>intro h;simp only[Nat.sub_zero];rw[hlast];exact Int.le_refl _
  | succ j ih=>
   intro h;have h2:=ih (by omega);have h3:=hmono (l.length-1-(j+1)) (by omega);simp only[show l.length-1-(j+1)+1=l.length-1-j by omega] at h3;omega
 have hlo:∀i,(h:i<l.length)->1<=l[i].l:=by
  intro i
  induction i with
  | zero=>
   intro h;obtain⟨-,-,-,-,ho⟩:=chk_facts (hk 0 h);unfold orB at ho;rw[decide_eq_true rfl,if_pos rfl,decide_eq_true_eq] at ho;exact ho
  | succ i ih=>intro h;have h2:=ih (by omega);have h3:=hmono i h;omega
 refine⟨?_,by omega⟩;have hg:=gd_drop (l:=l) (m:=0) (fun i hi=>?_) (fun i hi=>?_) (l.length-1) (by omega)
 · rwa [show l.length-1-(l.length-1)=0 by omega,List.drop_zero] at hg
 · obtain⟨h2,h3,h4,-,-⟩:=chk_facts (hk i hi);have h5:=hup (l.length-1-i) (by omega);simp only[show l.length-1-(l.length-1-i)=i by omega] at h5;have h6:=hlo i hi;have h7:=hz l[i] (List.getElem_mem hi);exact⟨h4,h2,h3,by omega,by omega,by omega⟩
 · constructor
   · intro e;obtain⟨-,-,-,hp,-⟩:=chk_facts (hk i hi);unfold plB at hp;rw[e,if_neg (by decide),if_pos rfl,Bool.and_eq_true,decide_eq_true_eq,decide_eq_true_eq] at hp;exact hp.2
   · intro e;simp only[show i=l.length-1 by omega];exact hk0
end Go.Proofs.YtbgodajefaahdaaGreatDoor.Ps
