/-
  Parts of this proof: The contract of the reference's SameSite.
-/
import Derived.Test.YtbgodajefaahdaaGreatDoorYTUptxa
import Derived.Test.YtbgodajefaahdaaGreatDoorYQSamxa
import Derived.Test.YtbgodajefaahdaaGreatDoorYQRinxa
import Derived.Test.YtbgodajefaahdaaGreatDoorYTAwk
open Go renaming undef->U,Value->Y,loadCellsFrom->ah,World->ak,TypeId->aA,Calls->aB
open Go.Proofs.Tryz renaming prog->ae
open Option renaming none->V,some->X
open List renaming getElem?_eq_getElem->af,take_of_length_le->ag,cons_append->ay
open Go.Lib renaming hid->Z
open Go.RowKit renaming Below->ai,Hid->az
open And renaming intro->aj
open Nat renaming lt_or_ge->au,le_refl->av,zero_le->ax
set_option linter.unusedVariables false
open Go.Lib (hid)
namespace Go.Proofs.YtbgodajefaahdaaGreatDoor
namespace Md
open Go.RowKit Go.Maps
open Sm (jN VM Uc)
open Ex (Lo Gives qB block_lt)
set_option maxHeartbeats 8000000
theorem ES {t:aA} {c:Array Y} (ht:Big t c.size) (h1:c.all (·.oneCell')=true) (z:Array Y) (hz:z.size=c.size) (W:ak) (o:Obj) (B:Nat) (hB:W.heap.size=B):(storeVar t ⟨B,0,V⟩ (.agg c)).run ae ((W.alloc (.cells z t)).alloc o)=.ok () ((W.alloc (.cells c t)).alloc o):=by
 subst hB;rw[run_storeVar_row _ _ t t z c (Uc _ _ _) ht.2 hz h1,VM]
theorem KF {t:aA} {c:Array Y} (ht:Big t c.size) (h1:c.all (·.oneCell')=true) (z:Array Y) (hz:z.size=c.size) (W:ak) (o:Obj) (B:Nat) (hB:W.heap.size=B):(storeCells ⟨B,0,V⟩ c.toList 0).run ae ((W.alloc (.cells z t)).alloc o)=.ok () ((W.alloc (.cells c t)).alloc o):=by
 have h:=ES ht h1 z hz W o B hB
 cases e:Tryz.prog.info? t with
 | none=>have:=ht.2;rw[e] at this;cases this
 | some i0=>
  have hi2:i0.size=c.size:=by have:=ht.2;rw[e] at this;simpa using this
  simpa [storeVar,sizeOf,typeInfo,e,Value.cells,hi2] using h
theorem KD {t:aA} {c:Array Y} (ht:Big t c.size) (h1:c.all (·.oneCell')=true) (z:Array Y) (hz:z.size=c.size) (W:ak) (o:Obj) (B:Nat) (hB:W.heap.size=B):(Instr.storeAt t (.pointer (X ⟨B,0,V⟩)) (.agg c)).run ae ((W.alloc (.cells z t)).alloc o)=.ok () ((W.alloc (.cells c t)).alloc o):=by
 simp only[Instr.storeAt,Instr.sureAddr,Sem.run_bind,Sem.run_pure,Result.andThen];exact ES ht h1 z hz W o B hB
theorem Pv {t:aA} {c:Array Y} (ht:Big t c.size) (h1:c.all (·.oneCell')=true) (z:Array Y) (hz:z.size=c.size) (W:ak) (o:Obj) (B:Nat) (hB:W.heap.size=B):(storeVar t ⟨B,0,V⟩ (.agg c)).run ae ((W.alloc (.cells z t)).alloc o).drew=.ok () ((W.alloc (.cells c t)).alloc o).drew:=ES ht h1 z hz W.drew o B hB
theorem Pt {t:aA} {c:Array Y} (ht:Big t c.size) (h1:c.all (·.oneCell')=true) (z:Array Y) (hz:z.size=c.size) (W:ak) (o:Obj) (B:Nat) (hB:W.heap.size=B):(storeCells ⟨B,0,V⟩ c.toList 0).run ae ((W.alloc (.cells z t)).alloc o).drew=.ok () ((W.alloc (.cells c t)).alloc o).drew:=KF ht h1 z hz W.drew o B hB
theorem Pq {t:aA} {c:Array Y} (ht:Big t c.size) (h1:c.all (·.oneCell')=true) (z:Array Y) (hz:z.size=c.size) (W:ak) (o:Obj) (B:Nat) (hB:W.heap.size=B):(Instr.storeAt t (.pointer (X ⟨B,0,V⟩)) (.agg c)).run ae ((W.alloc (.cells z t)).alloc o).drew=.ok () ((W.alloc (.cells c t)).alloc o).drew:=KD ht h1 z hz W.drew o B hB
theorem Py {t:aA} {c:Array Y} (ht:Big t c.size) (h1:c.all (·.oneCell')=true) (z:Array Y) (hz:z.size=c.size) (W:ak) (B:Nat) (hB:W.heap.size=B):(storeVar t ⟨B,0,V⟩ (.agg c)).run ae (W.alloc (.cells z t)).drew=.ok () (W.alloc (.cells c t)).drew:=rE ht h1 z hz W.drew B hB
theorem Px {t:aA} {c:Array Y} (ht:Big t c.size) (h1:c.all (·.oneCell')=true) (z:Array Y) (hz:z.size=c.size) (W:ak) (B:Nat) (hB:W.heap.size=B):(storeCells ⟨B,0,V⟩ c.toList 0).run ae (W.alloc (.cells z t)).drew=.ok () (W.alloc (.cells c t)).drew:=rD ht h1 z hz W.drew B hB
theorem Pw {t:aA} {c:Array Y} (ht:Big t c.size) (h1:c.all (·.oneCell')=true) (z:Array Y) (hz:z.size=c.size) (W:ak) (B:Nat) (hB:W.heap.size=B):(Instr.storeAt t (.pointer (X ⟨B,0,V⟩)) (.agg c)).run ae (W.alloc (.cells z t)).drew=.ok () (W.alloc (.cells c t)).drew:=rC ht h1 z hz W.drew B hB
theorem afG {P:Program} {ops:Array Oper} {Q:Exit->Act->ak->Prop} {a:Act} {w:ak} {rest:List Oper} {o:Oper} {v:Y} (hw:Region.wanted o (yielded ops a.tmps)=true) (hv:(execOp a.eval o).run P w=.ok (.value v) w) (h:wpList P ops Q rest (a.put o.dst v) w):wpList P ops Q (o::rest) a w:=by
 simp only[wpList,hw,if_true];left
 unfold Oper.wp;rw[hv];exact h
theorem asQ {P:Program} (pI:List Oper) {l:List Oper} {Q:Exit->Act->ak->Prop} {a:Act} {w:ak} (hE:l=pI) (h:∀Q':Exit->Act->ak->Prop,az (∀e a w,Q e a w->Q' e a w)->WA P pI Q' 0 a w):wpList P l.toArray Q l a w:=by
 subst hE;exact(h Q (Z fun _ _ _ h=>h)).out
section
variable {P:Program} {pI:List Oper} {Q:Exit->Act->ak->Prop} {a:Act} {w:ak}
theorem LG (n:Nat) (o:Oper) (s:Sem Next) (v:Y) (ho:pI.drop n=o::pI.drop (n+1)) (hw:Region.wanted o (yielded pI.toArray a.tmps)=true) (he:execOp a.eval o=s) (hv:s.run P w=.ok (.value v) w) (h:WA P pI Q (n+1) (a.put o.dst v) w):WA P pI Q n a w:=
 ⟨by rw[ho];exact afG hw (by rw[he];exact hv) h.out⟩
theorem asO (n:Nat) (o:Oper) (ho:pI.drop n=o::pI.drop (n+1)) (hw:Region.wanted o (yielded pI.toArray a.tmps)=true) (h:∀K:Act->ak->Prop,az (∀a w,WA P pI Q (n+1) a w->K a w)->o.wp P a w K Q):WA P pI Q n a w:=⟨by
 rw[ho];refine wpList_step fun K hK=>?_;rw[if_pos hw];exact h K (Z fun a w h=>hK a w h.out)⟩
theorem asP {n:Nat} (b:Act) (h:a=b) (h2:WA P pI Q n b w):WA P pI Q n a w:=h▸h2
end
def Za (wr:ak) (t:aA) (c d:Array Y) (a b:Y) (wc:ak):Prop:=∃g1 g2:Nat,a=.pointer (X ⟨g1,0,V⟩)/\b=.pointer (X ⟨g2,0,V⟩)/\bT wc g1 t c/\bT wc g2 t d/\ai wr.heap.size wr wc
theorem DC (w:ak) (t:aA) (c d:Array Y):bT ((w.alloc (.cells c t)).alloc (.cells d t)).drew w.heap.size t c/\bT ((w.alloc (.cells c t)).alloc (.cells d t)).drew (w.heap.size+1) t d:=(rq (w:=w) t t c d).out _ (qB (Below.refl _ _))
def GZ (ev:Operand->Y):Op->Option Y
 | .move x=>X (ev x)
 | .pick c a b=>match ev c with
  | .bool true=>X (ev a)
  | .bool false=>X (ev b)
  | _=>V
 | .unOp .not _ x=>match ev x with
  | .bool b=>X (.bool !b)
  | _=>V
 | _=>V
theorem Yc {p:Prop} (h:p:=by
 rename_i e;simp only[Option.some.injEq] at h;subst h;simp only[execOp];rw[e];rfl
 ):p:=h
theorem aez {P:Program} {ev:Operand->Y} {o:Oper} {v:Y} {w:ak} (h:GZ ev o.op=X v):(execOp ev o).run P w=.ok (.value v) w:=by
 obtain⟨d,op,t,p,f,g⟩:=o
 cases op with
 | move x=>simp only[GZ,Option.some.injEq] at h;subst h;rfl
 | pick c a b=>
  simp only[GZ] at h
  split at h
  · exact Yc
  · exact Yc
  · cases h
 | unOp q u x=>
  cases q with
  | not=>
   simp only[GZ] at h
   split at h
   · exact Yc
   · cases h
  | _=>cases h
 | _=>cases h
def runs (ops:Array Oper):List Oper->Act->Option Act
 | [],a=>X a
 | o::l,a=>if Region.wanted o (yielded ops a.tmps) then (match GZ a.eval o.op with|some v=>runs ops l (a.put o.dst v)|none=>V) else runs ops l (a.put o.dst U)
theorem Vw {P:Program} {ops:Array Oper} {Q:Exit->Act->ak->Prop} {b:Act} {w:ak} (h2:Q .normal b w):∀(l:List Oper) (a:Act),runs ops l a=X b->wpList P ops Q l a w
 | [],a,h=>by simp only[runs,Option.some.injEq] at h;subst h;exact h2
 | o::l,a,h=>by
  simp only[runs] at h
  split at h
  · rename_i hw
    split at h
    · rename_i v hv;exact afG hw (aez hv) (Vw h2 l _ h)
    · cases h
  · rename_i hw;exact wpList_skip (by simpa using hw) (Vw h2 l _ h)
def akP:Func->List Oper
 | {body:=X (.seq _ (.seq (.seq (.region _ l _) _) _)),..}=>l.toList
 | _=>[]
noncomputable def jF:List Oper:=akP Tryz.f20
noncomputable def mQ (i:Nat):Oper:=jF.getD i ⟨V,.move (.tmp 0),0, "",#[],V⟩
def Ll:List Y:=[U,U,U,U,U,U,U,U,U,U,U,U,U,U,U,U,U,U,U,U,U,U,U,U,U,U,U,U,U,U,U,U,U,U,U,U,U,U,U,U,U,U,U,U,U,U,U,U,U,U,U,U,U,U,U,U,U,U,U,U,U,U,U,U,U,U,U,U,U,U,U,U,U,U,U,U,U,U,U,U,U,U,U,U,U,U,U,U,U,U,U,U,U,U,U,U,U,U,U,U,U,U,U,U,U,U,U,U,U,U,U,U,U,U,U,U,U,U,U,U,U,U,U,U,U,U,U,U,U,U,U,U,U,U,U,U,U,U,U,U,U,U,U,U,U,U,U,U,U,U,U,U,U,U,U,U,U,U,U,U,U,U,U,U,U,U,U,U,U,U,U,U,U,U,U,U,U,U,U,U,U,U,U,U,U,U,U,U,U,U,U,U,U,U,U,U,U,U,U,U,U,U,U,U,U,U,U,U,U]
def fz (l:List Y):Act:=⟨(l++Ll).toArray,[]⟩
section
variable {Q Q':Exit->Act->ak->Prop} {a:Act} {w:ak} {n:Nat}
theorem sV (v:Y) (h:WA ae jF Q (n+1) (a.put (mQ n).dst v) w) (ho:jF.drop n=mQ n::jF.drop (n+1):=by kernel_rfl) (hw:Region.wanted (mQ n) (yielded jF.toArray a.tmps)=true:=by kernel_rfl) (hv:GZ a.eval (mQ n).op=X v:=by kernel_rfl):WA ae jF Q n a w:=
 LG n _ _ v ho hw rfl (aez hv) h
theorem rJ (B f:Nat) (h:WA ae jF Q (n+1) (a.put (mQ n).dst (.pointer (X ⟨B,f,V⟩))) w) (ho:jF.drop n=mQ n::jF.drop (n+1):=by kernel_rfl) (hw:Region.wanted (mQ n) (yielded jF.toArray a.tmps)=true:=by kernel_rfl) (he:execOp a.eval (mQ n)=execOp (fun _=>.pointer (X ⟨B,0,V⟩)) (mQ n):=by kernel_rfl) (hv:(execOp (fun _=>.pointer (X ⟨B,0,V⟩)) (mQ n)).run ae w=.ok (.value (.pointer (X ⟨B,f,V⟩))) w:=by kernel_rfl):WA ae jF Q n a w:=
 LG n _ _ _ ho hw he hv h
theorem pg (T B f:Nat) (v:Value) (h:WA Tryz.prog jF Q (n+1) (a.put (mQ n).dst v) w) (ho:jF.drop n=mQ n::jF.drop (n+1):=by kernel_rfl) (hw:Region.wanted (mQ n) (yielded jF.toArray a.tmps)=true:=by kernel_rfl) (he:execOp a.eval (mQ n)=execOp (fun _=>.pointer (some ⟨B,f,none⟩)) ⟨none,.load T (.tmp 0),T, "",#[],none⟩:=by kernel_rfl) (hv:(execOp (fun _=>.pointer (some ⟨B,f,none⟩)) ⟨none,.load T (.tmp 0),T, "",#[],none⟩).run Tryz.prog w=.ok (.value v) w:=by first|(go_simp;done)|(go_simp;with_reducible rfl)):WA Tryz.prog jF Q n a w:=
 LG n _ _ _ ho hw (he.trans rfl) hv h
theorem xB (T:Nat) (p:Option Addr) (m c:Nat) (h:WA ae jF Q (n+1) (a.put (mQ n).dst (.int .i64 (m:Nat))) w) (ho:jF.drop n=mQ n::jF.drop (n+1):=by kernel_rfl) (hw:Region.wanted (mQ n) (yielded jF.toArray a.tmps)=true:=by kernel_rfl) (he:execOp a.eval (mQ n)=execOp (fun _=>.slice p m c) ⟨V,.call {callee:=.builtin .len,args:=#[.tmp 0],argTypes:=#[T]},3, "",#[],V⟩:=by kernel_rfl) (hv:(execOp (fun _=>.slice p m c) ⟨V,.call {callee:=.builtin .len,args:=#[.tmp 0],argTypes:=#[T]},3, "",#[],V⟩).run ae w=.ok (.value (.int .i64 (m:Nat))) w:=by first|(go_simp;done)|(go_simp;with_reducible rfl)):WA ae jF Q n a w:=
 LG n _ _ _ ho hw he hv h
theorem uI (T:Nat) (p q:Y) (b:Bool) (h:WA ae jF Q (n+1) (a.put (mQ n).dst (.bool b)) w) (ho:jF.drop n=mQ n::jF.drop (n+1):=by kernel_rfl) (hw:Region.wanted (mQ n) (yielded jF.toArray a.tmps)=true:=by kernel_rfl) (he:execOp a.eval (mQ n)=execOp (fun|.tmp 0=>p|_=>q) ⟨V,.binOp .neq T (.tmp 0) (.tmp 1) T,4, "",#[],V⟩:=by kernel_rfl) (hv:(execOp (fun|.tmp 0=>p|_=>q) ⟨V,.binOp .neq T (.tmp 0) (.tmp 1) T,4, "",#[],V⟩).run ae w=.ok (.value (.bool b)) w:=by first|(go_simp;done)|(go_simp;with_reducible rfl)):WA ae jF Q n a w:=
 LG n _ _ _ ho hw he hv h
theorem Br (b:Act) (hQ:az (∀e a w,Q e a w->Q' e a w)) (h2:Q .normal b w) (h:runs jF.toArray (jF.drop n) a=X b:=by kernel_rfl):WA ae jF Q' n a w:=
 ⟨Vw (hQ.out _ _ _ h2) _ _ h⟩
end
theorem agW {p:Prop} (h:p:=by
 have HN:=Z (show jE x y=false by rw[HR.out,Hn.out];try simp);clear hr;go_wp2_with fail;go_ret;exact⟨by rw[HN.out];rfl,HC.out⟩
 ):p:=h
theorem Q4 {p:Prop} (h:p:=by
 have hr:zO x1 y1=false:=by rw[HRR.out.1,HRR.out.2];simp
 have Hn:=Z (show b11=false by rw[← Mr.out];exact pU jv.out kI.out hr);exact agW
 ):p:=h
theorem Fz {p:Prop} (h:p:=by
 clear tN;simp only[fz,Ll,ay,List.nil_append];go_wp2_with fail;go_ret;exact⟨by rw[HN.out];rfl,DX.out⟩
 ):p:=h
theorem agT {p:Prop} (h:p:=by
 have Hy:=Z (vk jv.out kI.out HA.out hr);clear hr;go_wp2_with fail
 try (go_quiet (fail);go_wp2_with fail)
 go_roundw
 case rel=>first|exact⟨k+1,by omega,by go_num,Z (by have h1:=HW.out;exact bl),Hy⟩|((repeat apply Exists.intro);refine aj ?_ rfl;exact⟨k+1,by omega,by go_num,Z (by have h1:=HW.out;exact bl),Hy⟩)
 case measure=>simp[intOf];omega
 ):p:=h
theorem agU {p:Prop} (h:p:=by
 have HN:=Z (show jE x y=false by rw[HR.out,Hn.out];try simp);clear hr;go_wp2_with fail
 try (go_quiet (fail);go_wp2_with fail)
 go_ret;exact⟨by rw[HN.out];rfl,by have h1:=eY.out;exact bl⟩
 ):p:=h
theorem agV {p:Prop} (h:p:=by
 have HN:=Z (show jE x y=false by rw[HR.out,Hn.out];try simp);clear hr;go_wp2_with fail;go_ret;exact⟨by rw[HN.out];rfl,by have h1:=eY.out;have h2:=FE.out;exact bl⟩
 ):p:=h
theorem lN {p:Prop} (h:p:=by rw[hz,hcs2]):p:=h
theorem lQ {p:Prop} (h:p:=by rw[hz,hcs]):p:=h
theorem lS {p:Prop} (h:p:=by omega):p:=h
theorem Q7 {p:Prop} (h:p:=by have h1:=HW.out;have h2:=BM.out;exact bl):p:=h
set_option maxRecDepth 100000 in
theorem aqw (x y:b_) (P Q:fe) (w:ak) (hx:iT (Lo w.heap.size) w x P) (hy:iT (Lo w.heap.size) w y Q):aB ae 20 #[.agg (bX x P),.agg (bX y Q)] w (Gives (.bool (jE x y)) w):=by
 have HX:=Z hx;have HY:=Z hy;have FX:=rq (w:=w) 53 53 (bX x P) (bX y Q);obtain⟨b0,h0⟩:∃b,dF x.nm y.nm=b:=⟨_,rfl⟩
 obtain⟨b1,h1⟩:∃b,dC uQ x.va y.va=b:=⟨_,rfl⟩
 obtain⟨b2,h2⟩:∃b,dC rG x.rs y.rs=b:=⟨_,rfl⟩
 obtain⟨b3,h3⟩:∃b,dC Dv x.st y.st=b:=⟨_,rfl⟩
 obtain⟨b4,h4⟩:∃b,dC Ce x.be y.be=b:=⟨_,rfl⟩
 obtain⟨b5,h5⟩:∃b,dC dF x.qu y.qu=b:=⟨_,rfl⟩
 obtain⟨b6,h6⟩:∃b,dC dF x.sm y.sm=b:=⟨_,rfl⟩
 obtain⟨b7,h7⟩:∃b,dC dF x.ta y.ta=b:=⟨_,rfl⟩
 obtain⟨b8,h8⟩:∃b,dC dF x.le y.le=b:=⟨_,rfl⟩
 obtain⟨b9,h9⟩:∃b,dC dF x.co y.co=b:=⟨_,rfl⟩
 obtain⟨b10,h10⟩:∃b,dC xz x.ro y.ro=b:=⟨_,rfl⟩
 obtain⟨b11,h11⟩:∃b,dC zO x.ss y.ss=b:=⟨_,rfl⟩
 obtain⟨b12,h12⟩:∃b,dC vF x.la y.la=b:=⟨_,rfl⟩
 have HB:=Z (show jE x y=(b0&&b1&&b2&&b3&&b4&&b5&&b6&&b7&&b8&&b9&&b10&&b11&&b12) by unfold jE;rw[h0,h1,h2,h3,h4,h5,h6,h7,h8,h9,h10,h11,h12]);have H0:=Z h0;have H1:=Z h1;have H2:=Z h2;have H3:=Z h3;have H4:=Z h4;have H5:=Z h5;have H6:=Z h6;have H7:=Z h7;have H8:=Z h8;have H9:=Z h9;have FC:=Z h10;have Mr:=Z h11;have Rj:=Z h12;have u0:(x.nm.toList==y.nm.toList)=b0:=by rw[mo];exact h0
 clear h0 h1 h2 h3 h4 h5 h6 h7 h8 h9 h10 h11 h12;have C1:=Z (fun W (hW:ai w.heap.size w W)=>(show aB ae 19 #[.slice P.jb P.ja P.i_,.slice Q.jb Q.ja Q.i_] W (Gives (.bool b1) W) by rw[← H1.out];exact aeJ (Z (HX.out.va.on fV.map hW)) (Z (HY.out.va.on fV.map hW))));have C5:=Z (fun W (hW:ai w.heap.size w W)=>(show aB ae 46 #[.slice P.vQ P.vP P.vO,.slice Q.vQ Q.vP Q.vO] W (Gives (.bool b5) W) by rw[← H5.out];exact KI (Z (HX.out.qu.on dP.map hW)) (Z (HY.out.qu.on dP.map hW))));have C6:=Z (fun W (hW:ai w.heap.size w W)=>(show aB ae 46 #[.slice P.sU P.sS P.sQ,.slice Q.sU Q.sS Q.sQ] W (Gives (.bool b6) W) by rw[← H6.out];exact KI (Z (HX.out.sm.on dP.map hW)) (Z (HY.out.sm.on dP.map hW))));have C7:=Z (fun W (hW:ai w.heap.size w W)=>(show aB ae 46 #[.slice P.vU P.vT P.tac,.slice Q.vU Q.vT Q.tac] W (Gives (.bool b7) W) by rw[← H7.out];exact KI (Z (HX.out.ta.on dP.map hW)) (Z (HY.out.ta.on dP.map hW))));have C8:=Z (fun W (hW:ai w.heap.size w W)=>(show aB ae 46 #[.slice P.vE P.vD P.vC,.slice Q.vE Q.vD Q.vC] W (Gives (.bool b8) W) by rw[← H8.out];exact KI (Z (HX.out.le.on dP.map hW)) (Z (HY.out.le.on dP.map hW))));have C9:=Z (fun W (hW:ai w.heap.size w W)=>(show aB ae 46 #[.slice P.uZ P.uY P.uX,.slice Q.uZ Q.uY Q.uX] W (Gives (.bool b9) W) by rw[← H9.out];exact KI (Z (HX.out.co.on dP.map hW)) (Z (HY.out.co.on dP.map hW))));obtain⟨hl2,hm2⟩:=hx.rs.len;obtain⟨hk2,hn2⟩:=hy.rs.len;have HL2:=Z (aj hl2 hm2);have uT:=Z (aj hk2 hn2);obtain⟨hl3,ym⟩:=hx.st.len;obtain⟨hk3,JU⟩:=hy.st.len;have Af:=Z (aj hl3 ym);have xM:=Z (aj hk3 JU);obtain⟨hl4,hm4⟩:=hx.be.len;obtain⟨hk4,ny⟩:=hy.be.len;have FM:=Z (aj hl4 hm4);have Iw:=Z (aj hk4 ny);obtain⟨acm,acp⟩:=hx.ro.len;obtain⟨hk10,acu⟩:=hy.ro.len;have FH:=Z (aj acm acp);have Rn:=Z (aj hk10 acu);obtain⟨acn,acr⟩:=hx.ss.len;obtain⟨acj,acv⟩:=hy.ss.len;have FI:=Z (aj acn acr);have Ro:=Z (aj acj acv);obtain⟨hl12,acs⟩:=hx.la.len;obtain⟨ack,acw⟩:=hy.la.len;have FJ:=Z (aj hl12 acs);have Rp:=Z (aj ack acw);clear hx hy hl2 hm2 hk2 hn2 hl3 ym hk3 JU hl4 hm4 hk4 ny acm acp hk10 acu acn acr acj acv hl12 acs ack acw;have q:=FX.out ((w.alloc (.cells (bX x P) 53)).alloc (.cells (bX y Q) 53)) (Below.refl _ _);have g0:=q.1.get (Gg x P);have TQ:=q.2.get (Gg y Q);have g1:=q.1.get (Jk x P);have TR:=q.2.get (Jk y Q);clear q;go_enter Tryz.func20,Tryz.ntmps20
 go_upto_region 1 with fail
 refine wp_region_lit ?_;refine asQ jF (by kernel_rfl) fun Q1 tN=>?_;refine rJ w.heap.size 0 (pg 9 w.heap.size 0 (.string x.nm) (rJ (w.heap.size+1) 0 (pg 9 (w.heap.size+1) 0 (.string y.nm) ?_)))
 cases b0 with
 | false=>
  have HN:=Z (show jE x y=false by rw[HB.out];simp);refine uI 9 (.string x.nm) (.string y.nm) true ?_;refine Br (fz [.agg (bX x P),.agg (bX y Q),.pointer (X ⟨w.heap.size,0,V⟩),.pointer (X ⟨w.heap.size+1,0,V⟩),.bool false,U,U,U,U,U,U,U,U,U,U,.pointer (X ⟨w.heap.size,0,V⟩),.string x.nm,.pointer (X ⟨w.heap.size+1,0,V⟩),.string y.nm,.bool true,.bool true,U,U,U,U,U,U,.bool true,.bool true,U,U,U,U,U,U,U,.bool true,.bool true,U,U,U,U,U,U,U,.bool true,.bool true,U,U,U,U,U,U,U,.bool true,.bool true,U,U,U,U,U,U,U,.bool true,.bool true,U,U,U,U,U,U,U,.bool true,.bool true,U,U,U,U,U,U,U,.bool true]) tN ?_;clear tN;simp only[fz,Ll,ay,List.nil_append];go_wp2_with fail;go_ret;exact⟨by rw[HN.out];rfl,bl⟩
 | true=>
 refine uI 9 (.string x.nm) (.string y.nm) false (sV (.bool false) (rJ w.heap.size 1 (pg 23 w.heap.size 1 (.slice P.jb P.ja P.i_) (rJ (w.heap.size+1) 1 (pg 23 (w.heap.size+1) 1 (.slice Q.jb Q.ja Q.i_) ?_)))));refine asP (fz [.agg (bX x P),.agg (bX y Q),.pointer (X ⟨w.heap.size,0,V⟩),.pointer (X ⟨w.heap.size+1,0,V⟩),.bool false,U,U,U,U,U,U,U,U,U,U,.pointer (X ⟨w.heap.size,0,V⟩),.string x.nm,.pointer (X ⟨w.heap.size+1,0,V⟩),.string y.nm,.bool false,.bool false,.pointer (X ⟨w.heap.size,1,V⟩),.slice P.jb P.ja P.i_,.pointer (X ⟨w.heap.size+1,1,V⟩),.slice Q.jb Q.ja Q.i_,U,U,U,U,U,U,U,U,U,U,U,U,U,U,U,U,U,U,U,U,U,U,U,U,U,U,U,U,U,U,U,U,U,U,U,U,U,U,U,U,U,U,U,U,U,U,U,U,U,U,U,U,U,U,U,U,U]) (by kernel_rfl) ?_;refine asO 10 ({ dst:=X 25,op:=Op.call { callee:=Callee.value (Operand.func 19),args:=#[Operand.tmp 22,Operand.tmp 24],argTypes:=#[23,23] },type:=4,pos := "ref.go:422",after:=#[{ on:=7,ground:=Ground.data },{ on:=9,ground:=Ground.data },{ on:=5,ground:=Ground.chain },{ on:=5,ground:=Ground.guard }],guard:=X (5,false) }) (by kernel_rfl) (by kernel_rfl) fun KX YA=>?_;simp only[fz,Ll,ay,List.nil_append]
 go_simp
 clear g0 TQ g1 TR;refine(C1.out _ bl).mono ?_;rintro e v1 ⟨rfl,hb1⟩;have HW1:az (ai ((w.alloc (.cells (bX x P) 53)).alloc (.cells (bX y Q) 53)).heap.size ((w.alloc (.cells (bX x P) 53)).alloc (.cells (bX y Q) 53)) v1):=Z bl;have DX:az (ai w.heap.size w v1):=Z bl;clear hb1;have q:=FX.out v1 HW1.out;have g2:=q.1.get (Ei x P);have TS:=q.2.get (Ei y Q);have g3:=q.1.get (Ej x P);have TT:=q.2.get (Ej y Q);have g4:=q.1.get (El x P);have gk4:=q.2.get (El y Q);have g10:=q.1.get (Ap x P);have amJ:=q.2.get (Ap y Q);have g11:=q.1.get (Eg x P);have amK:=q.2.get (Eg y Q);have g12:=q.1.get (Eh x P);have amL:=q.2.get (Eh y Q);have g5:=q.1.get (Jl x P);have gk5:=q.2.get (Jl y Q);clear q;refine YA.out _ _ ?_;clear YA KX
 cases b1 with
 | false=>
  have HN:=Z (show jE x y=false by rw[HB.out];simp);refine Br (fz [.agg (bX x P),.agg (bX y Q),.pointer (X ⟨w.heap.size,0,V⟩),.pointer (X ⟨w.heap.size+1,0,V⟩),.bool false,U,U,U,U,U,U,U,U,U,U,.pointer (X ⟨w.heap.size,0,V⟩),.string x.nm,.pointer (X ⟨w.heap.size+1,0,V⟩),.string y.nm,.bool false,.bool false,.pointer (X ⟨w.heap.size,1,V⟩),.slice P.jb P.ja P.i_,.pointer (X ⟨w.heap.size+1,1,V⟩),.slice Q.jb Q.ja Q.i_,.bool false,.bool true,.bool true,.bool true,U,U,U,U,U,U,U,.bool true,.bool true,U,U,U,U,U,U,U,.bool true,.bool true,U,U,U,U,U,U,U,.bool true,.bool true,U,U,U,U,U,U,U,.bool true,.bool true,U,U,U,U,U,U,U,.bool true,.bool true,U,U,U,U,U,U,U,.bool true]) tN ?_;exact Fz
 | true=>
 refine sV (.bool false) (sV (.bool false) (sV (.bool false) (rJ w.heap.size 2 (pg 45 w.heap.size 2 (.slice P.jD P.dS P.gq) (xB 45 P.jD P.dS P.gq (rJ (w.heap.size+1) 2 (pg 45 (w.heap.size+1) 2 (.slice Q.jD Q.dS Q.gq) (xB 45 Q.jD Q.dS Q.gq ?_))))))));clear g2 TS;by_cases e2:P.dS=Q.dS;rotate_left 1
 · have z2:b2=false:=by rw[← H2.out];exact r_ (by rw[HL2.out.1,uT.out.1];exact e2)
   have HN:=Z (show jE x y=false by rw[HB.out,z2];simp);have w2:((P.dS:Int) != (Q.dS:Int))=true:=bne_iff_ne.2 lS;clear z2 e2;refine uI 3 (.int .i64 (P.dS:Nat)) (.int .i64 (Q.dS:Nat)) true ?_;clear w2;refine Br (fz [.agg (bX x P),.agg (bX y Q),.pointer (X ⟨w.heap.size,0,V⟩),.pointer (X ⟨w.heap.size+1,0,V⟩),.bool false,U,U,U,U,U,U,U,U,U,U,.pointer (X ⟨w.heap.size,0,V⟩),.string x.nm,.pointer (X ⟨w.heap.size+1,0,V⟩),.string y.nm,.bool false,.bool false,.pointer (X ⟨w.heap.size,1,V⟩),.slice P.jb P.ja P.i_,.pointer (X ⟨w.heap.size+1,1,V⟩),.slice Q.jb Q.ja Q.i_,.bool true,.bool false,.bool false,.bool false,.pointer (X ⟨w.heap.size,2,V⟩),.slice P.jD P.dS P.gq,.int .i64 (P.dS:Nat),.pointer (X ⟨w.heap.size+1,2,V⟩),.slice Q.jD Q.dS Q.gq,.int .i64 (Q.dS:Nat),.bool true,.bool true,.bool true,U,U,U,U,U,U,U,.bool true,.bool true,U,U,U,U,U,U,U,.bool true,.bool true,U,U,U,U,U,U,U,.bool true,.bool true,U,U,U,U,U,U,U,.bool true,.bool true,U,U,U,U,U,U,U,.bool true]) tN ?_;exact Fz
 have w2:((P.dS:Int) != (Q.dS:Int))=false:=by rw[bne,show((P.dS:Int)==(Q.dS:Int))=true from beq_iff_eq.2 lS];rfl
 replace e2:=Z e2;refine uI 3 (.int .i64 (P.dS:Nat)) (.int .i64 (Q.dS:Nat)) false ?_;clear w2;refine sV (.bool false) (sV (.bool false) (rJ w.heap.size 3 (pg 46 w.heap.size 3 (.slice P.jT P.dD P.kD) (xB 46 P.jT P.dD P.kD (rJ (w.heap.size+1) 3 (pg 46 (w.heap.size+1) 3 (.slice Q.jT Q.dD Q.kD) (xB 46 Q.jT Q.dD Q.kD ?_)))))));clear g3 TT;by_cases e3:P.dD=Q.dD;rotate_left 1
 · have z3:b3=false:=by rw[← H3.out];exact r_ (by rw[Af.out.1,xM.out.1];exact e3)
   have HN:=Z (show jE x y=false by rw[HB.out,z3];simp);have w2:((P.dD:Int) != (Q.dD:Int))=true:=bne_iff_ne.2 lS;clear z3 e3;refine uI 3 (.int .i64 (P.dD:Nat)) (.int .i64 (Q.dD:Nat)) true ?_;clear w2;refine Br (fz [.agg (bX x P),.agg (bX y Q),.pointer (X ⟨w.heap.size,0,V⟩),.pointer (X ⟨w.heap.size+1,0,V⟩),.bool false,U,U,U,U,U,U,U,U,U,U,.pointer (X ⟨w.heap.size,0,V⟩),.string x.nm,.pointer (X ⟨w.heap.size+1,0,V⟩),.string y.nm,.bool false,.bool false,.pointer (X ⟨w.heap.size,1,V⟩),.slice P.jb P.ja P.i_,.pointer (X ⟨w.heap.size+1,1,V⟩),.slice Q.jb Q.ja Q.i_,.bool true,.bool false,.bool false,.bool false,.pointer (X ⟨w.heap.size,2,V⟩),.slice P.jD P.dS P.gq,.int .i64 (P.dS:Nat),.pointer (X ⟨w.heap.size+1,2,V⟩),.slice Q.jD Q.dS Q.gq,.int .i64 (Q.dS:Nat),.bool false,.bool false,.bool false,.pointer (X ⟨w.heap.size,3,V⟩),.slice P.jT P.dD P.kD,.int .i64 (P.dD:Nat),.pointer (X ⟨w.heap.size+1,3,V⟩),.slice Q.jT Q.dD Q.kD,.int .i64 (Q.dD:Nat),.bool true,.bool true,.bool true,U,U,U,U,U,U,U,.bool true,.bool true,U,U,U,U,U,U,U,.bool true,.bool true,U,U,U,U,U,U,U,.bool true,.bool true,U,U,U,U,U,U,U,.bool true]) tN ?_;exact Fz
 have w3:((P.dD:Int) != (Q.dD:Int))=false:=by rw[bne,show((P.dD:Int)==(Q.dD:Int))=true from beq_iff_eq.2 lS];rfl
 replace e3:=Z e3;refine uI 3 (.int .i64 (P.dD:Nat)) (.int .i64 (Q.dD:Nat)) false ?_;clear w3;refine sV (.bool false) (sV (.bool false) (rJ w.heap.size 4 (pg 47 w.heap.size 4 (.slice P.kJ P.eF P.kV) (xB 47 P.kJ P.eF P.kV (rJ (w.heap.size+1) 4 (pg 47 (w.heap.size+1) 4 (.slice Q.kJ Q.eF Q.kV) (xB 47 Q.kJ Q.eF Q.kV ?_)))))));clear g4 gk4;by_cases e4:P.eF=Q.eF;rotate_left 1
 · have z4:b4=false:=by rw[← H4.out];exact r_ (by rw[FM.out.1,Iw.out.1];exact e4)
   have HN:=Z (show jE x y=false by rw[HB.out,z4];simp);have w2:((P.eF:Int) != (Q.eF:Int))=true:=bne_iff_ne.2 lS;clear z4 e4;refine uI 3 (.int .i64 (P.eF:Nat)) (.int .i64 (Q.eF:Nat)) true ?_;clear w2;refine Br (fz [.agg (bX x P),.agg (bX y Q),.pointer (X ⟨w.heap.size,0,V⟩),.pointer (X ⟨w.heap.size+1,0,V⟩),.bool false,U,U,U,U,U,U,U,U,U,U,.pointer (X ⟨w.heap.size,0,V⟩),.string x.nm,.pointer (X ⟨w.heap.size+1,0,V⟩),.string y.nm,.bool false,.bool false,.pointer (X ⟨w.heap.size,1,V⟩),.slice P.jb P.ja P.i_,.pointer (X ⟨w.heap.size+1,1,V⟩),.slice Q.jb Q.ja Q.i_,.bool true,.bool false,.bool false,.bool false,.pointer (X ⟨w.heap.size,2,V⟩),.slice P.jD P.dS P.gq,.int .i64 (P.dS:Nat),.pointer (X ⟨w.heap.size+1,2,V⟩),.slice Q.jD Q.dS Q.gq,.int .i64 (Q.dS:Nat),.bool false,.bool false,.bool false,.pointer (X ⟨w.heap.size,3,V⟩),.slice P.jT P.dD P.kD,.int .i64 (P.dD:Nat),.pointer (X ⟨w.heap.size+1,3,V⟩),.slice Q.jT Q.dD Q.kD,.int .i64 (Q.dD:Nat),.bool false,.bool false,.bool false,.pointer (X ⟨w.heap.size,4,V⟩),.slice P.kJ P.eF P.kV,.int .i64 (P.eF:Nat),.pointer (X ⟨w.heap.size+1,4,V⟩),.slice Q.kJ Q.eF Q.kV,.int .i64 (Q.eF:Nat),.bool true,.bool true,.bool true,U,U,U,U,U,U,U,.bool true,.bool true,U,U,U,U,U,U,U,.bool true,.bool true,U,U,U,U,U,U,U,.bool true]) tN ?_;exact Fz
 have w4:((P.eF:Int) != (Q.eF:Int))=false:=by rw[bne,show((P.eF:Int)==(Q.eF:Int))=true from beq_iff_eq.2 lS];rfl
 replace e4:=Z e4;refine uI 3 (.int .i64 (P.eF:Nat)) (.int .i64 (Q.eF:Nat)) false ?_;clear w4;refine sV (.bool false) (sV (.bool false) (rJ w.heap.size 10 (pg 49 w.heap.size 10 (.slice P.mi P.ed P.k_) (xB 49 P.mi P.ed P.k_ (rJ (w.heap.size+1) 10 (pg 49 (w.heap.size+1) 10 (.slice Q.mi Q.ed Q.k_) (xB 49 Q.mi Q.ed Q.k_ ?_)))))));clear g10 amJ;by_cases e10:P.ed=Q.ed;rotate_left 1
 · have z10:b10=false:=by rw[← FC.out];exact r_ (by rw[FH.out.1,Rn.out.1];exact e10)
   have HN:=Z (show jE x y=false by rw[HB.out,z10];simp);have w2:((P.ed:Int) != (Q.ed:Int))=true:=bne_iff_ne.2 lS;clear z10 e10;refine uI 3 (.int .i64 (P.ed:Nat)) (.int .i64 (Q.ed:Nat)) true ?_;clear w2;refine Br (fz [.agg (bX x P),.agg (bX y Q),.pointer (X ⟨w.heap.size,0,V⟩),.pointer (X ⟨w.heap.size+1,0,V⟩),.bool false,U,U,U,U,U,U,U,U,U,U,.pointer (X ⟨w.heap.size,0,V⟩),.string x.nm,.pointer (X ⟨w.heap.size+1,0,V⟩),.string y.nm,.bool false,.bool false,.pointer (X ⟨w.heap.size,1,V⟩),.slice P.jb P.ja P.i_,.pointer (X ⟨w.heap.size+1,1,V⟩),.slice Q.jb Q.ja Q.i_,.bool true,.bool false,.bool false,.bool false,.pointer (X ⟨w.heap.size,2,V⟩),.slice P.jD P.dS P.gq,.int .i64 (P.dS:Nat),.pointer (X ⟨w.heap.size+1,2,V⟩),.slice Q.jD Q.dS Q.gq,.int .i64 (Q.dS:Nat),.bool false,.bool false,.bool false,.pointer (X ⟨w.heap.size,3,V⟩),.slice P.jT P.dD P.kD,.int .i64 (P.dD:Nat),.pointer (X ⟨w.heap.size+1,3,V⟩),.slice Q.jT Q.dD Q.kD,.int .i64 (Q.dD:Nat),.bool false,.bool false,.bool false,.pointer (X ⟨w.heap.size,4,V⟩),.slice P.kJ P.eF P.kV,.int .i64 (P.eF:Nat),.pointer (X ⟨w.heap.size+1,4,V⟩),.slice Q.kJ Q.eF Q.kV,.int .i64 (Q.eF:Nat),.bool false,.bool false,.bool false,.pointer (X ⟨w.heap.size,10,V⟩),.slice P.mi P.ed P.k_,.int .i64 (P.ed:Nat),.pointer (X ⟨w.heap.size+1,10,V⟩),.slice Q.mi Q.ed Q.k_,.int .i64 (Q.ed:Nat),.bool true,.bool true,.bool true,U,U,U,U,U,U,U,.bool true,.bool true,U,U,U,U,U,U,U,.bool true]) tN ?_;exact Fz
 have eX:((P.ed:Int) != (Q.ed:Int))=false:=by rw[bne,show((P.ed:Int)==(Q.ed:Int))=true from beq_iff_eq.2 lS];rfl
 replace e10:=Z e10;refine uI 3 (.int .i64 (P.ed:Nat)) (.int .i64 (Q.ed:Nat)) false ?_;clear eX;refine sV (.bool false) (sV (.bool false) (rJ w.heap.size 11 (pg 50 w.heap.size 11 (.slice P.qi P.fG P.nI) (xB 50 P.qi P.fG P.nI (rJ (w.heap.size+1) 11 (pg 50 (w.heap.size+1) 11 (.slice Q.qi Q.fG Q.nI) (xB 50 Q.qi Q.fG Q.nI ?_)))))));clear g11 amK;by_cases e11:P.fG=Q.fG;rotate_left 1
 · have z11:b11=false:=by rw[← Mr.out];exact r_ (by rw[FI.out.1,Ro.out.1];exact e11)
   have HN:=Z (show jE x y=false by rw[HB.out,z11];simp);have w2:((P.fG:Int) != (Q.fG:Int))=true:=bne_iff_ne.2 lS;clear z11 e11;refine uI 3 (.int .i64 (P.fG:Nat)) (.int .i64 (Q.fG:Nat)) true ?_;clear w2;refine Br (fz [.agg (bX x P),.agg (bX y Q),.pointer (X ⟨w.heap.size,0,V⟩),.pointer (X ⟨w.heap.size+1,0,V⟩),.bool false,U,U,U,U,U,U,U,U,U,U,.pointer (X ⟨w.heap.size,0,V⟩),.string x.nm,.pointer (X ⟨w.heap.size+1,0,V⟩),.string y.nm,.bool false,.bool false,.pointer (X ⟨w.heap.size,1,V⟩),.slice P.jb P.ja P.i_,.pointer (X ⟨w.heap.size+1,1,V⟩),.slice Q.jb Q.ja Q.i_,.bool true,.bool false,.bool false,.bool false,.pointer (X ⟨w.heap.size,2,V⟩),.slice P.jD P.dS P.gq,.int .i64 (P.dS:Nat),.pointer (X ⟨w.heap.size+1,2,V⟩),.slice Q.jD Q.dS Q.gq,.int .i64 (Q.dS:Nat),.bool false,.bool false,.bool false,.pointer (X ⟨w.heap.size,3,V⟩),.slice P.jT P.dD P.kD,.int .i64 (P.dD:Nat),.pointer (X ⟨w.heap.size+1,3,V⟩),.slice Q.jT Q.dD Q.kD,.int .i64 (Q.dD:Nat),.bool false,.bool false,.bool false,.pointer (X ⟨w.heap.size,4,V⟩),.slice P.kJ P.eF P.kV,.int .i64 (P.eF:Nat),.pointer (X ⟨w.heap.size+1,4,V⟩),.slice Q.kJ Q.eF Q.kV,.int .i64 (Q.eF:Nat),.bool false,.bool false,.bool false,.pointer (X ⟨w.heap.size,10,V⟩),.slice P.mi P.ed P.k_,.int .i64 (P.ed:Nat),.pointer (X ⟨w.heap.size+1,10,V⟩),.slice Q.mi Q.ed Q.k_,.int .i64 (Q.ed:Nat),.bool false,.bool false,.bool false,.pointer (X ⟨w.heap.size,11,V⟩),.slice P.qi P.fG P.nI,.int .i64 (P.fG:Nat),.pointer (X ⟨w.heap.size+1,11,V⟩),.slice Q.qi Q.fG Q.nI,.int .i64 (Q.fG:Nat),.bool true,.bool true,.bool true,U,U,U,U,U,U,U,.bool true]) tN ?_;exact Fz
 have iC:((P.fG:Int) != (Q.fG:Int))=false:=by rw[bne,show((P.fG:Int)==(Q.fG:Int))=true from beq_iff_eq.2 lS];rfl
 replace e11:=Z e11;refine uI 3 (.int .i64 (P.fG:Nat)) (.int .i64 (Q.fG:Nat)) false ?_;clear iC;refine sV (.bool false) (sV (.bool false) (rJ w.heap.size 12 (pg 51 w.heap.size 12 (.slice P.vB P.lam P.rz) (xB 51 P.vB P.lam P.rz (rJ (w.heap.size+1) 12 (pg 51 (w.heap.size+1) 12 (.slice Q.vB Q.lam Q.rz) (xB 51 Q.vB Q.lam Q.rz ?_)))))));clear g12 amL;by_cases e12:P.lam=Q.lam;rotate_left 1
 · have z12:b12=false:=by rw[← Rj.out];exact r_ (by rw[FJ.out.1,Rp.out.1];exact e12)
   have HN:=Z (show jE x y=false by rw[HB.out,z12];simp);have w2:((P.lam:Int) != (Q.lam:Int))=true:=bne_iff_ne.2 lS;clear z12 e12;refine uI 3 (.int .i64 (P.lam:Nat)) (.int .i64 (Q.lam:Nat)) true ?_;clear w2;refine Br (fz [.agg (bX x P),.agg (bX y Q),.pointer (X ⟨w.heap.size,0,V⟩),.pointer (X ⟨w.heap.size+1,0,V⟩),.bool false,U,U,U,U,U,U,U,U,U,U,.pointer (X ⟨w.heap.size,0,V⟩),.string x.nm,.pointer (X ⟨w.heap.size+1,0,V⟩),.string y.nm,.bool false,.bool false,.pointer (X ⟨w.heap.size,1,V⟩),.slice P.jb P.ja P.i_,.pointer (X ⟨w.heap.size+1,1,V⟩),.slice Q.jb Q.ja Q.i_,.bool true,.bool false,.bool false,.bool false,.pointer (X ⟨w.heap.size,2,V⟩),.slice P.jD P.dS P.gq,.int .i64 (P.dS:Nat),.pointer (X ⟨w.heap.size+1,2,V⟩),.slice Q.jD Q.dS Q.gq,.int .i64 (Q.dS:Nat),.bool false,.bool false,.bool false,.pointer (X ⟨w.heap.size,3,V⟩),.slice P.jT P.dD P.kD,.int .i64 (P.dD:Nat),.pointer (X ⟨w.heap.size+1,3,V⟩),.slice Q.jT Q.dD Q.kD,.int .i64 (Q.dD:Nat),.bool false,.bool false,.bool false,.pointer (X ⟨w.heap.size,4,V⟩),.slice P.kJ P.eF P.kV,.int .i64 (P.eF:Nat),.pointer (X ⟨w.heap.size+1,4,V⟩),.slice Q.kJ Q.eF Q.kV,.int .i64 (Q.eF:Nat),.bool false,.bool false,.bool false,.pointer (X ⟨w.heap.size,10,V⟩),.slice P.mi P.ed P.k_,.int .i64 (P.ed:Nat),.pointer (X ⟨w.heap.size+1,10,V⟩),.slice Q.mi Q.ed Q.k_,.int .i64 (Q.ed:Nat),.bool false,.bool false,.bool false,.pointer (X ⟨w.heap.size,11,V⟩),.slice P.qi P.fG P.nI,.int .i64 (P.fG:Nat),.pointer (X ⟨w.heap.size+1,11,V⟩),.slice Q.qi Q.fG Q.nI,.int .i64 (Q.fG:Nat),.bool false,.bool false,.bool false,.pointer (X ⟨w.heap.size,12,V⟩),.slice P.vB P.lam P.rz,.int .i64 (P.lam:Nat),.pointer (X ⟨w.heap.size+1,12,V⟩),.slice Q.vB Q.lam Q.rz,.int .i64 (Q.lam:Nat),.bool true,.bool true]) tN ?_;exact Fz
 have lK:((P.lam:Int) != (Q.lam:Int))=false:=by rw[bne,show((P.lam:Int)==(Q.lam:Int))=true from beq_iff_eq.2 lS];rfl
 replace e12:=Z e12;refine uI 3 (.int .i64 (P.lam:Nat)) (.int .i64 (Q.lam:Nat)) false ?_;clear lK;refine sV (.bool false) (Br (fz [.agg (bX x P),.agg (bX y Q),.pointer (X ⟨w.heap.size,0,V⟩),.pointer (X ⟨w.heap.size+1,0,V⟩),.bool false,U,U,U,U,U,U,U,U,U,U,.pointer (X ⟨w.heap.size,0,V⟩),.string x.nm,.pointer (X ⟨w.heap.size+1,0,V⟩),.string y.nm,.bool false,.bool false,.pointer (X ⟨w.heap.size,1,V⟩),.slice P.jb P.ja P.i_,.pointer (X ⟨w.heap.size+1,1,V⟩),.slice Q.jb Q.ja Q.i_,.bool true,.bool false,.bool false,.bool false,.pointer (X ⟨w.heap.size,2,V⟩),.slice P.jD P.dS P.gq,.int .i64 (P.dS:Nat),.pointer (X ⟨w.heap.size+1,2,V⟩),.slice Q.jD Q.dS Q.gq,.int .i64 (Q.dS:Nat),.bool false,.bool false,.bool false,.pointer (X ⟨w.heap.size,3,V⟩),.slice P.jT P.dD P.kD,.int .i64 (P.dD:Nat),.pointer (X ⟨w.heap.size+1,3,V⟩),.slice Q.jT Q.dD Q.kD,.int .i64 (Q.dD:Nat),.bool false,.bool false,.bool false,.pointer (X ⟨w.heap.size,4,V⟩),.slice P.kJ P.eF P.kV,.int .i64 (P.eF:Nat),.pointer (X ⟨w.heap.size+1,4,V⟩),.slice Q.kJ Q.eF Q.kV,.int .i64 (Q.eF:Nat),.bool false,.bool false,.bool false,.pointer (X ⟨w.heap.size,10,V⟩),.slice P.mi P.ed P.k_,.int .i64 (P.ed:Nat),.pointer (X ⟨w.heap.size+1,10,V⟩),.slice Q.mi Q.ed Q.k_,.int .i64 (Q.ed:Nat),.bool false,.bool false,.bool false,.pointer (X ⟨w.heap.size,11,V⟩),.slice P.qi P.fG P.nI,.int .i64 (P.fG:Nat),.pointer (X ⟨w.heap.size+1,11,V⟩),.slice Q.qi Q.fG Q.nI,.int .i64 (Q.fG:Nat),.bool false,.bool false,.bool false,.pointer (X ⟨w.heap.size,12,V⟩),.slice P.vB P.lam P.rz,.int .i64 (P.lam:Nat),.pointer (X ⟨w.heap.size+1,12,V⟩),.slice Q.vB Q.lam Q.rz,.int .i64 (Q.lam:Nat),.bool false,.bool false]) tN ?_);simp only[fz,Ll,ay,List.nil_append];clear tN;go_wp2_with fail;clear g5 gk5;refine(C5.out _ DX.out).mono ?_;rintro e v2 ⟨rfl,hb2⟩;have HW2:az (ai ((w.alloc (.cells (bX x P) 53)).alloc (.cells (bX y Q) 53)).heap.size ((w.alloc (.cells (bX x P) 53)).alloc (.cells (bX y Q) 53)) v2):=Z (by have h1:=HW1.out;exact bl);have wu:az (ai w.heap.size w v2):=Z (by have h1:=DX.out;exact bl);clear hb2
 cases b5 with
 | false=>
  have HN:=Z (show jE x y=false by rw[HB.out];simp);go_wp2_with fail;go_ret;exact⟨by rw[HN.out];rfl,wu.out⟩
 | true=>
 have q:=FX.out v2 HW2.out;have g6:=q.1.get (Gh x P);have gk6:=q.2.get (Gh y Q);clear q;go_wp2_with fail;clear g6 gk6;refine(C6.out _ wu.out).mono ?_;rintro e v3 ⟨rfl,hb3⟩;have HW3:az (ai ((w.alloc (.cells (bX x P) 53)).alloc (.cells (bX y Q) 53)).heap.size ((w.alloc (.cells (bX x P) 53)).alloc (.cells (bX y Q) 53)) v3):=Z (by have h1:=HW2.out;exact bl);have Ry:az (ai w.heap.size w v3):=Z (by have h1:=wu.out;exact bl);clear hb3
 cases b6 with
 | false=>
  have HN:=Z (show jE x y=false by rw[HB.out];simp);go_wp2_with fail;go_ret;exact⟨by rw[HN.out];rfl,Ry.out⟩
 | true=>
 have q:=FX.out v3 HW3.out;have g7:=q.1.get (Jm x P);have gk7:=q.2.get (Jm y Q);clear q;go_wp2_with fail;clear g7 gk7;refine(C7.out _ Ry.out).mono ?_;rintro e v4 ⟨rfl,hb4⟩;have YK:az (ai ((w.alloc (.cells (bX x P) 53)).alloc (.cells (bX y Q) 53)).heap.size ((w.alloc (.cells (bX x P) 53)).alloc (.cells (bX y Q) 53)) v4):=Z (by have h1:=HW3.out;exact bl);have Rz:az (ai w.heap.size w v4):=Z (by have h1:=Ry.out;exact bl);clear hb4
 cases b7 with
 | false=>
  have HN:=Z (show jE x y=false by rw[HB.out];simp);go_wp2_with fail;go_ret;exact⟨by rw[HN.out];rfl,Rz.out⟩
 | true=>
 have q:=FX.out v4 YK.out;have g8:=q.1.get (Jn x P);have gk8:=q.2.get (Jn y Q);clear q;go_wp2_with fail;clear g8 gk8;refine(C8.out _ Rz.out).mono ?_;rintro e v5 ⟨rfl,hb5⟩;have YL:az (ai ((w.alloc (.cells (bX x P) 53)).alloc (.cells (bX y Q) 53)).heap.size ((w.alloc (.cells (bX x P) 53)).alloc (.cells (bX y Q) 53)) v5):=Z (by have h1:=YK.out;exact bl);have HV5:az (ai w.heap.size w v5):=Z (by have h1:=Rz.out;exact bl);clear hb5
 cases b8 with
 | false=>
  have HN:=Z (show jE x y=false by rw[HB.out];simp);go_wp2_with fail;go_ret;exact⟨by rw[HN.out];rfl,HV5.out⟩
 | true=>
 have q:=FX.out v5 YL.out;have g9:=q.1.get (Jo x P);have gk9:=q.2.get (Jo y Q);clear q;go_wp2_with fail;clear g9 gk9;refine(C9.out _ HV5.out).mono ?_;rintro e v6 ⟨rfl,hb6⟩;have HW6:az (ai ((w.alloc (.cells (bX x P) 53)).alloc (.cells (bX y Q) 53)).heap.size ((w.alloc (.cells (bX x P) 53)).alloc (.cells (bX y Q) 53)) v6):=Z (by have h1:=YL.out;exact bl);have HV6:az (ai w.heap.size w v6):=Z (by have h1:=HV5.out;exact bl);clear hb6
 cases b9 with
 | false=>
  have HN:=Z (show jE x y=false by rw[HB.out];simp);go_wp2_with fail;go_ret;exact⟨by rw[HN.out];rfl,HV6.out⟩
 | true=>
 have HR:=Z (show jE x y=(b2&&(b3&&(b4&&(b10&&(b11&&(b12)))))) by rw[HB.out];simp only[Bool.true_and,Bool.and_true,Bool.and_assoc]);clear HB;go_wp2_with fail;obtain⟨oV,Ew⟩:∃n:Nat,17=n:=⟨_,rfl⟩
 have hsz2:∀w,(sizeOf 111).run ae w=.ok oV w:=fun w=>by rw[Tryz.sizeOf111,Ew]
 have Ae:=Z Ew;clear Ew;go_loopw [5] (fun i wr=>∃k:Nat,k<=P.dS/\i=.int .i64 (k:Nat)/\az (ai ((w.alloc (.cells (bX x P) 53)).alloc (.cells (bX y Q) 53)).heap.size ((w.alloc (.cells (bX x P) 53)).alloc (.cells (bX y Q) 53)) wr)/\az (dC rG (x.rs.take k) (y.rs.take k)=true)) (fun i _=>P.dS-(intOf i).toNat)
 case atStart=>exact⟨0,ax _,rfl,Z (by have h1:=HW6.out;exact bl),Z rfl⟩
 case round=>
  obtain⟨k,hk,rfl,HW,HA⟩:=hrel;have k0:(0:Int)<=(k:Int):=by omega
  have k3:(P.dS:Int)<=9223372036854775807:=by have h2:=HL2.out.2;omega
  have hbw:ai w.heap.size w wr:=by have h1:=HW.out;exact bl
  have eY:=Z hbw;have q:=FX.out wr HW.out;have g1:=q.1.get (Ei x P);have g2:=q.2.get (Ei y Q);clear q;rcases au k P.dS with h|h
  · have k1:(k:Int)<(P.dS:Int):=by omega
    have k2:(k:Int)<(Q.dS:Int):=by have h2:=e2.out;omega
    have hkl:k<x.rs.length:=by rw[HL2.out.1];exact h
    have dM:k<y.rs.length:=by rw[uT.out.1];omega
    obtain⟨b,o,hp,gD,hG,hcell⟩:=(HX.out.rs.on iV.map hbw).rows lS;obtain⟨c,hcs,hat,hR⟩:=hcell.out k hkl;obtain⟨bb,o2,hp2,pV,hG2,hcell2⟩:=(HY.out.rs.on iV.map hbw).rows lS;obtain⟨d,hcs2,cK,hR2⟩:=hcell2.out k dM;obtain⟨x1,hx1⟩:∃z,x.rs[k]=z:=⟨_,rfl⟩
    obtain⟨y1,hy1⟩:∃z,y.rs[k]=z:=⟨_,rfl⟩
    have jv:=Z (show x.rs[k]?=X x1 by rw[← hx1];exact af hkl);have kI:=Z (show y.rs[k]?=X y1 by rw[← hy1];exact af dM);rw[hx1] at hR;rw[hy1] at hR2;rw[hp] at g1;rw[hp2] at g2;obtain⟨r,hr⟩:∃r,rG x1 y1=r:=⟨_,rfl⟩
    obtain⟨P1,rfl,hP1⟩:=hR;obtain⟨Q1,rfl,gJ⟩:=hR2;have C:=Z (fun W (hW:ai wr.heap.size wr W)=>(show aB ae 47 #[.agg (dI x1 P1),.agg (dI y1 Q1)] W (Gives (.bool r) W) by rw[← hr];exact aqo x1 y1 P1 Q1 W (hP1.on hW) (gJ.on hW)));have FR:az (∀W,ai wr.heap.size wr W->W.cell? ⟨w.heap.size,2,V⟩=X (.slice (X ⟨b,o,V⟩) P.dS P.gq)/\W.cell? ⟨w.heap.size+1,2,V⟩=X (.slice (X ⟨bb,o2,V⟩) Q.dS Q.gq)/\(ah ⟨b,o+k*oV,V⟩ 0 oV #[]).run ae W=.ok (dI x1 P1) W/\(ah ⟨bb,o2+k*oV,V⟩ 0 oV #[]).run ae W=.ok (dI y1 Q1) W):=Z fun W hW=>⟨(hW.cell (p:=⟨w.heap.size,2,V⟩) (block_lt g1)).trans g1,(hW.cell (p:=⟨w.heap.size+1,2,V⟩) (block_lt g2)).trans g2,((hat.on hW hG).at Ae.out).dW (by rw[hcs];exact Ae.out),((cK.on hW hG2).at Ae.out).dW (by rw[hcs2];exact Ae.out)⟩
    clear hp hp2 hx1 hy1 hcell hcs hat hkl hcell2 hcs2 cK dM hbw hP1 gJ gD hG pV hG2;go_wp2_with fail;clear g1 g2;go_region_held3 (fun W=>W.cell? ⟨w.heap.size,2,V⟩=X (.slice (X ⟨b,o,V⟩) P.dS P.gq)/\W.cell? ⟨w.heap.size+1,2,V⟩=X (.slice (X ⟨bb,o2,V⟩) Q.dS Q.gq)/\(ah ⟨b,o+k*oV,V⟩ 0 oV #[]).run ae W=.ok (dI x1 P1) W/\(ah ⟨bb,o2+k*oV,V⟩ 0 oV #[]).run ae W=.ok (dI y1 Q1) W) (first|(refine FR.out _ ?_;exact bl;done)|(go_keep;done)) (first
     | (go_at_call 47;refine(C.out _ bl).mono ?_;rintro e vc ⟨rfl,hbc⟩))
    all_goals
     have BM:=Z hbc;clear hbc;cases r
     · have Hn:=Z (show b2=false by rw[← H2.out];exact pU jv.out kI.out hr);have HN:=Z (show jE x y=false by rw[HR.out,Hn.out];try simp);clear hr;go_wp2_with fail;go_ret;exact⟨by rw[HN.out];rfl,by have h1:=eY.out;have h2:=BM.out;exact bl⟩
     · have Hy:=Z (vk jv.out kI.out HA.out hr);clear hr;go_wp2_with fail;go_roundw
       case rel=>first|exact⟨k+1,by omega,by go_num,Z Q7,Hy⟩|((repeat apply Exists.intro);refine aj ?_ rfl;exact⟨k+1,by omega,by go_num,Z Q7,Hy⟩)
       case measure=>simp[intOf];omega
  · clear k3;obtain rfl:k=P.dS:=by omega
    have hb:b2=true:=by rw[← H2.out];have h1:=HA.out;rwa [ag (by rw[HL2.out.1];exact av _),ag (by rw[uT.out.1];have h2:=e2.out;omega)] at h1
    subst hb;rw[Bool.true_and] at HR;have HG2:=HW;go_wp2_with fail;clear g1 g2 hk k0 h hbw eY HA HW;obtain⟨EF,Ey⟩:∃n:Nat,3=n:=⟨_,rfl⟩
    have am8:∀w,(sizeOf 114).run ae w=.ok EF w:=fun w=>by rw[Tryz.sizeOf114,Ey]
    have qo:=Z Ey;clear Ey;go_loopw [6] (fun i wr=>∃k:Nat,k<=P.dD/\i=.int .i64 (k:Nat)/\az (ai ((w.alloc (.cells (bX x P) 53)).alloc (.cells (bX y Q) 53)).heap.size ((w.alloc (.cells (bX x P) 53)).alloc (.cells (bX y Q) 53)) wr)/\az (dC Dv (x.st.take k) (y.st.take k)=true)) (fun i _=>P.dD-(intOf i).toNat)
    case atStart=>exact⟨0,ax _,rfl,Z (by have h1:=HG2.out;exact bl),Z rfl⟩
    case round=>
     obtain⟨k,hk,rfl,HW,HA⟩:=hrel;have k0:(0:Int)<=(k:Int):=by omega
     have k3:(P.dD:Int)<=9223372036854775807:=by have h2:=Af.out.2;omega
     have hbw:ai w.heap.size w wr:=by have h1:=HW.out;exact bl
     have eY:=Z hbw;have q:=FX.out wr HW.out;have g1:=q.1.get (Ej x P);have g2:=q.2.get (Ej y Q);clear q;rcases au k P.dD with h|h
     · have k1:(k:Int)<(P.dD:Int):=by omega
       have k2:(k:Int)<(Q.dD:Int):=by have h2:=e3.out;omega
       have hkl:k<x.st.length:=by rw[Af.out.1];exact h
       have dM:k<y.st.length:=by rw[xM.out.1];omega
       obtain⟨b,o,hp,gD,hG,hcell⟩:=(HX.out.st.on jZ.map hbw).rows lS;obtain⟨c,hcs,hat,hR⟩:=hcell.out k hkl;obtain⟨bb,o2,hp2,pV,hG2,hcell2⟩:=(HY.out.st.on jZ.map hbw).rows lS;obtain⟨d,hcs2,cK,hR2⟩:=hcell2.out k dM;obtain⟨x1,hx1⟩:∃z,x.st[k]=z:=⟨_,rfl⟩
       obtain⟨y1,hy1⟩:∃z,y.st[k]=z:=⟨_,rfl⟩
       have jv:=Z (show x.st[k]?=X x1 by rw[← hx1];exact af hkl);have kI:=Z (show y.st[k]?=X y1 by rw[← hy1];exact af dM);rw[hx1] at hR;rw[hy1] at hR2;rw[hp] at g1;rw[hp2] at g2;obtain⟨r,hr⟩:∃r,Dv x1 y1=r:=⟨_,rfl⟩
       have hcsz:c.size=EF:=by rw[hcs,qo.out]
       have sF:d.size=EF:=by rw[hcs2,qo.out]
       have bt:Big 114 c.size:=by rw[hcs];exact M8
       have eH:Big 114 d.size:=by rw[hcs2];exact M8
       have ld0:=fun n=>At.dW (w:=wr.drewN n) (hat.at qo.out) hcsz;have le0:=fun n=>At.dW (w:=wr.drewN n) (cK.at qo.out) sF;have ld1:=fun n=>At.kg (w:=wr.drewN n) (hat.at qo.out) bt;have le1:=fun n=>At.kg (w:=wr.drewN n) (cK.at qo.out) eH;have lI:=fun n=>At.kN (w:=wr.drewN n) (hat.at qo.out) bt;have le2:=fun n=>At.kN (w:=wr.drewN n) (cK.at qo.out) eH;have heq:∀W,(Op.equalIn 10000 114 (.agg c) (.agg d)).run ae W=.ok r W:=fun W=>by rw[hR,hR2,← hr];exact alY _ _ W
       clear hp hp2 bt eH hx1 hy1 hcell hcs hat hR hkl hcell2 hcs2 cK hR2 dM hbw;cases r
       · have Hn:=Z (show b3=false by rw[← H3.out];exact pU jv.out kI.out hr);exact agU
       · exact agT
     · clear k3;obtain rfl:k=P.dD:=by omega
       have hb:b3=true:=by rw[← H3.out];have h1:=HA.out;rwa [ag (by rw[Af.out.1];exact av _),ag (by rw[xM.out.1];have h2:=e3.out;omega)] at h1
       subst hb;rw[Bool.true_and] at HR;have HG3:=HW;go_wp2_with fail;clear g1 g2 hk k0 h hbw eY HA HW;obtain⟨UE,Uh⟩:∃n:Nat,3=n:=⟨_,rfl⟩
       have acB:∀w,(sizeOf 116).run ae w=.ok UE w:=fun w=>by rw[Tryz.sizeOf116,Uh]
       have BO:=Z Uh;clear Uh;go_loopw [7] (fun i wr=>∃k:Nat,k<=P.eF/\i=.int .i64 (k:Nat)/\az (ai ((w.alloc (.cells (bX x P) 53)).alloc (.cells (bX y Q) 53)).heap.size ((w.alloc (.cells (bX x P) 53)).alloc (.cells (bX y Q) 53)) wr)/\az (dC Ce (x.be.take k) (y.be.take k)=true)) (fun i _=>P.eF-(intOf i).toNat)
       case atStart=>exact⟨0,ax _,rfl,Z (by have h1:=HG3.out;exact bl),Z rfl⟩
       case round=>
        obtain⟨k,hk,rfl,HW,HA⟩:=hrel;have k0:(0:Int)<=(k:Int):=by omega
        have k3:(P.eF:Int)<=9223372036854775807:=by have h2:=FM.out.2;omega
        have hbw:ai w.heap.size w wr:=by have h1:=HW.out;exact bl
        have eY:=Z hbw;have q:=FX.out wr HW.out;have g1:=q.1.get (El x P);have g2:=q.2.get (El y Q);clear q;rcases au k P.eF with h|h
        · have k1:(k:Int)<(P.eF:Int):=by omega
          have k2:(k:Int)<(Q.eF:Int):=by have h2:=e4.out;omega
          have hkl:k<x.be.length:=by rw[FM.out.1];exact h
          have dM:k<y.be.length:=by rw[Iw.out.1];omega
          obtain⟨b,o,hp,gD,hG,hcell⟩:=(HX.out.be.on jY.map hbw).rows lS;obtain⟨c,hcs,hat,hR⟩:=hcell.out k hkl;obtain⟨bb,o2,hp2,pV,hG2,hcell2⟩:=(HY.out.be.on jY.map hbw).rows lS;obtain⟨d,hcs2,cK,hR2⟩:=hcell2.out k dM;obtain⟨x1,hx1⟩:∃z,x.be[k]=z:=⟨_,rfl⟩
          obtain⟨y1,hy1⟩:∃z,y.be[k]=z:=⟨_,rfl⟩
          have jv:=Z (show x.be[k]?=X x1 by rw[← hx1];exact af hkl);have kI:=Z (show y.be[k]?=X y1 by rw[← hy1];exact af dM);rw[hx1] at hR;rw[hy1] at hR2;rw[hp] at g1;rw[hp2] at g2;obtain⟨r,hr⟩:∃r,Ce x1 y1=r:=⟨_,rfl⟩
          have hcsz:c.size=UE:=by rw[hcs,BO.out]
          have sF:d.size=UE:=by rw[hcs2,BO.out]
          have bt:Big 116 c.size:=by rw[hcs];exact M5
          have eH:Big 116 d.size:=by rw[hcs2];exact M5
          have ld0:=fun n=>At.dW (w:=wr.drewN n) (hat.at BO.out) hcsz;have le0:=fun n=>At.dW (w:=wr.drewN n) (cK.at BO.out) sF;have ld1:=fun n=>At.kg (w:=wr.drewN n) (hat.at BO.out) bt;have le1:=fun n=>At.kg (w:=wr.drewN n) (cK.at BO.out) eH;have lI:=fun n=>At.kN (w:=wr.drewN n) (hat.at BO.out) bt;have le2:=fun n=>At.kN (w:=wr.drewN n) (cK.at BO.out) eH;have heq:∀W,(Op.equalIn 10000 116 (.agg c) (.agg d)).run ae W=.ok r W:=fun W=>by rw[hR,hR2,← hr];exact alU _ _ W
          clear hp hp2 bt eH hx1 hy1 hcell hcs hat hR hkl hcell2 hcs2 cK hR2 dM hbw;cases r
          · have Hn:=Z (show b4=false by rw[← H4.out];exact pU jv.out kI.out hr);exact agU
          · exact agT
        · clear k3;obtain rfl:k=P.eF:=by omega
          have hb:b4=true:=by rw[← H4.out];have h1:=HA.out;rwa [ag (by rw[FM.out.1];exact av _),ag (by rw[Iw.out.1];have h2:=e4.out;omega)] at h1
          subst hb;rw[Bool.true_and] at HR;have HG4:=HW;go_wp2_with fail;clear g1 g2 hk k0 h hbw eY HA HW;obtain⟨AQ,Ue⟩:∃n:Nat,4=n:=⟨_,rfl⟩
          have atm:∀w,(sizeOf 119).run ae w=.ok AQ w:=fun w=>by rw[Tryz.sizeOf119,Ue]
          have Mt:=Z Ue;clear Ue;go_loopw [8] (fun i wr=>∃k:Nat,k<=P.ed/\i=.int .i64 (k:Nat)/\az (ai ((w.alloc (.cells (bX x P) 53)).alloc (.cells (bX y Q) 53)).heap.size ((w.alloc (.cells (bX x P) 53)).alloc (.cells (bX y Q) 53)) wr)/\az (dC xz (x.ro.take k) (y.ro.take k)=true)) (fun i _=>P.ed-(intOf i).toNat)
          case atStart=>exact⟨0,ax _,rfl,Z (by have h1:=HG4.out;exact bl),Z rfl⟩
          case round=>
           obtain⟨k,hk,rfl,HW,HA⟩:=hrel;have k0:(0:Int)<=(k:Int):=by omega
           have k3:(P.ed:Int)<=9223372036854775807:=by have h2:=FH.out.2;omega
           have hbw:ai w.heap.size w wr:=by have h1:=HW.out;exact bl
           have eY:=Z hbw;have q:=FX.out wr HW.out;have g1:=q.1.get (Ap x P);have g2:=q.2.get (Ap y Q);clear q;rcases au k P.ed with h|h
           · have k1:(k:Int)<(P.ed:Int):=by omega
             have k2:(k:Int)<(Q.ed:Int):=by have h2:=e10.out;omega
             have hkl:k<x.ro.length:=by rw[FH.out.1];exact h
             have dM:k<y.ro.length:=by rw[Rn.out.1];omega
             obtain⟨b,o,hp,gD,hG,hcell⟩:=(HX.out.ro.on gT.map hbw).rows lS;obtain⟨c,hcs,hat,hR⟩:=hcell.out k hkl;obtain⟨bb,o2,hp2,pV,hG2,hcell2⟩:=(HY.out.ro.on gT.map hbw).rows lS;obtain⟨d,hcs2,cK,hR2⟩:=hcell2.out k dM;obtain⟨x1,hx1⟩:∃z,x.ro[k]=z:=⟨_,rfl⟩
             obtain⟨y1,hy1⟩:∃z,y.ro[k]=z:=⟨_,rfl⟩
             have jv:=Z (show x.ro[k]?=X x1 by rw[← hx1];exact af hkl);have kI:=Z (show y.ro[k]?=X y1 by rw[← hy1];exact af dM);rw[hx1] at hR;rw[hy1] at hR2;rw[hp] at g1;rw[hp2] at g2;obtain⟨r,hr⟩:∃r,xz x1 y1=r:=⟨_,rfl⟩
             obtain⟨P1,rfl,hP1⟩:=hR;obtain⟨Q1,rfl,gJ⟩:=hR2;have IB:=Z hP1;have ll:=Z gJ;have bt:Big 119 (fJ x1 P1).size:=by rw[hcs];exact F6
             have eH:Big 119 (fJ y1 Q1).size:=by rw[hcs2];exact F6
             have FR:az (∀W,ai wr.heap.size wr W->W.cell? ⟨w.heap.size,10,V⟩=X (.slice (X ⟨b,o,V⟩) P.ed P.k_)/\W.cell? ⟨w.heap.size+1,10,V⟩=X (.slice (X ⟨bb,o2,V⟩) Q.ed Q.k_)/\(ah ⟨b,o+k*AQ,V⟩ 0 AQ #[]).run ae W=.ok (fJ x1 P1) W/\(ah ⟨bb,o2+k*AQ,V⟩ 0 AQ #[]).run ae W=.ok (fJ y1 Q1) W):=Z fun W hW=>⟨(hW.cell (p:=⟨w.heap.size,10,V⟩) (block_lt g1)).trans g1,(hW.cell (p:=⟨w.heap.size+1,10,V⟩) (block_lt g2)).trans g2,((hat.on hW hG).at Mt.out).dW (by rw[hcs];exact Mt.out),((cK.on hW hG2).at Mt.out).dW (by rw[hcs2];exact Mt.out)⟩
             have VV:=fun(z:Array Y) (hz:z.size=4)=>rD bt (j_ x1 P1) z lQ;have sp1:=fun(z:Array Y) (hz:z.size=4)=>rE bt (j_ x1 P1) z lQ;have sp2:=fun(z:Array Y) (hz:z.size=4)=>rC bt (j_ x1 P1) z lQ;have K6:=fun(z:Array Y) (hz:z.size=4)=>Px bt (j_ x1 P1) z lQ;have K7:=fun(z:Array Y) (hz:z.size=4)=>Py bt (j_ x1 P1) z lQ;have K8:=fun(z:Array Y) (hz:z.size=4)=>Pw bt (j_ x1 P1) z lQ;have K9:=fun(z:Array Y) (hz:z.size=4)=>KF bt (j_ x1 P1) z lQ;have K_:=fun(z:Array Y) (hz:z.size=4)=>ES bt (j_ x1 P1) z lQ;have La:=fun(z:Array Y) (hz:z.size=4)=>KD bt (j_ x1 P1) z lQ;have Lb:=fun(z:Array Y) (hz:z.size=4)=>Pt bt (j_ x1 P1) z lQ;have VW:=fun(z:Array Y) (hz:z.size=4)=>Pv bt (j_ x1 P1) z lQ;have VY:=fun(z:Array Y) (hz:z.size=4)=>Pq bt (j_ x1 P1) z lQ;have VZ:=fun(z:Array Y) (hz:z.size=4)=>rD eH (j_ y1 Q1) z lN;have V_:=fun(z:Array Y) (hz:z.size=4)=>rE eH (j_ y1 Q1) z lN;have Wd:=fun(z:Array Y) (hz:z.size=4)=>rC eH (j_ y1 Q1) z lN;have We:=fun(z:Array Y) (hz:z.size=4)=>Px eH (j_ y1 Q1) z lN;have Wh:=fun(z:Array Y) (hz:z.size=4)=>Py eH (j_ y1 Q1) z lN;have Wi:=fun(z:Array Y) (hz:z.size=4)=>Pw eH (j_ y1 Q1) z lN;have Wj:=fun(z:Array Y) (hz:z.size=4)=>KF eH (j_ y1 Q1) z lN;have Wl:=fun(z:Array Y) (hz:z.size=4)=>ES eH (j_ y1 Q1) z lN;have Wm:=fun(z:Array Y) (hz:z.size=4)=>KD eH (j_ y1 Q1) z lN;have Wn:=fun(z:Array Y) (hz:z.size=4)=>Pt eH (j_ y1 Q1) z lN;have Wo:=fun(z:Array Y) (hz:z.size=4)=>Pv eH (j_ y1 Q1) z lN;have Wp:=fun(z:Array Y) (hz:z.size=4)=>Pq eH (j_ y1 Q1) z lN;clear hp hp2 hx1 hy1 hcell hcs hat hkl hcell2 hcs2 cK dM hbw hP1 gJ gD hG pV hG2 bt eH
             go_upto_region 23 with fail
             clear g1 g2
             go_cut [9,10] from 175 to 220 (Za wr 119 (fJ x1 P1) (fJ y1 Q1))
             case first=>
              go_region_held3 (fun W=>W.cell? ⟨w.heap.size,10,V⟩=X (.slice (X ⟨b,o,V⟩) P.ed P.k_)/\W.cell? ⟨w.heap.size+1,10,V⟩=X (.slice (X ⟨bb,o2,V⟩) Q.ed Q.k_)/\(ah ⟨b,o+k*AQ,V⟩ 0 AQ #[]).run ae W=.ok (fJ x1 P1) W/\(ah ⟨bb,o2+k*AQ,V⟩ 0 AQ #[]).run ae W=.ok (fJ y1 Q1) W) (first|(refine FR.out _ ?_;exact bl;done)|(go_keep;done)) (fail)
              all_goals
               go_wp2_with fail
               go_meet
               first
                | exact⟨_,_,rfl,rfl,(DC wr 119 (fJ x1 P1) (fJ y1 Q1)).1,(DC wr 119 (fJ x1 P1) (fJ y1 Q1)).2,bl⟩
                | exact⟨_,_,rfl,rfl,(DC wr 119 (fJ y1 Q1) (fJ x1 P1)).2,(DC wr 119 (fJ y1 Q1) (fJ x1 P1)).1,bl⟩
             case rest=>
              obtain⟨g1,g2,rfl,rfl,B1,B2,Et⟩:=hcut
              rename_i wc
              clear VV sp1 sp2 K6 K7 K8 K9 K_ La Lb VW VY VZ V_ Wd We Wh Wi Wj Wl Wm Wn Wo Wp FR;have HC:az (ai w.heap.size w wc):=Z (by have h1:=eY.out;exact bl);have Ac:az (ai wr.heap.size wr wc):=Z Et;have FB:az (∀W,ai wc.heap.size wc W->bT W g1 119 (fJ x1 P1)/\bT W g2 119 (fJ y1 Q1)):=Z fun W hb=>⟨B1.on hb,B2.on hb⟩
              clear B1 B2 Et;obtain⟨r1,q1⟩:∃r,dF x1.nm y1.nm=r:=⟨_,rfl⟩
              obtain⟨r2,q2⟩:∃r,dC tY x1.ps y1.ps=r:=⟨_,rfl⟩
              obtain⟨r3,q3⟩:∃r,dC tY x1.ls y1.ls=r:=⟨_,rfl⟩
              obtain⟨r4,q4⟩:∃r,jN x1.bo y1.bo=r:=⟨_,rfl⟩
              have hr2:r=(r1&&r2&&r3&&r4):=by rw[← hr];unfold xz;rw[q1,q2,q3,q4]
              have D2:=Z (fun W (hW:ai wr.heap.size wr W)=>(show aB ae 48 #[.slice P1.Df P1.nH P1.GY,.slice Q1.Df Q1.nH Q1.GY] W (Gives (.bool r2) W) by rw[← q2];exact aeI (Z (IB.out.on hW).ps) (Z (ll.out.on hW).ps)));have D3:=Z (fun W (hW:ai wr.heap.size wr W)=>(show aB ae 48 #[.slice P1.GM P1.EJ P1.Kn,.slice Q1.GM Q1.EJ Q1.Kn] W (Gives (.bool r3) W) by rw[← q3];exact aeI (Z (IB.out.on hW).ls) (Z (ll.out.on hW).ls)));have D4:=Z (fun W (hW:ai wr.heap.size wr W)=>(show aB ae 9 #[.slice P1.xX P1.xW P1.za,.slice Q1.xX Q1.xW Q1.za] W (Gives (.bool r4) W) by rw[← q4];exact Sm.aeH x1.bo y1.bo P1.xX P1.xW P1.za Q1.xX Q1.xW Q1.za W (IB.out.on hW).bo (ll.out.on hW).bo));have t1:(x1.nm.toList==y1.nm.toList)=r1:=by rw[mo];exact q1
              have HRR:=Z (aj hr hr2);clear q1 q2 q3 q4 hr hr2;have q:=FB.out wc (Below.refl _ _);have m0:=q.1.get (Ef x1 P1);have l0:=q.2.get (Ef y1 Q1);have m1:=q.1.get (Je x1 P1);have l1:=q.2.get (Je y1 Q1);clear q
              cases r1 with
              | false=>
               have hr:xz x1 y1=false:=by rw[HRR.out.1,HRR.out.2];simp
               have Hn:=Z (show b10=false by rw[← FC.out];exact pU jv.out kI.out hr);exact agW
              | true=>
              go_wp2_with fail;refine(D2.out _ Ac.out).mono ?_;rintro e Xm ⟨rfl,hbd⟩;have FE:az (ai wr.heap.size wr Xm):=Z (by have h1:=Ac.out;exact bl);have Yy:az (ai wc.heap.size wc Xm):=Z (by exact hbd);clear hbd m0 l0 m1 l1;have q:=FB.out Xm Yy.out;have m0:=q.1.get (NG x1 P1);have l0:=q.2.get (NG y1 Q1);have m1:True:=trivial;have l1:True:=trivial;clear q
              cases r2 with
              | false=>
               have hr:xz x1 y1=false:=by rw[HRR.out.1,HRR.out.2];simp
               have Hn:=Z (show b10=false by rw[← FC.out];exact pU jv.out kI.out hr);exact agV
              | true=>
              go_wp2_with fail;refine(D3.out _ FE.out).mono ?_;rintro e Xn ⟨rfl,hbd⟩;have Rl:az (ai wr.heap.size wr Xn):=Z (by have h1:=FE.out;exact bl);have Yz:az (ai wc.heap.size wc Xn):=Z (by have h1:=Yy.out;exact bl);clear hbd m0 l0 m1 l1;have q:=FB.out Xn Yz.out;have m0:=q.1.get (Jf x1 P1);have l0:=q.2.get (Jf y1 Q1);have m1:True:=trivial;have l1:True:=trivial;clear q
              cases r3 with
              | false=>
               have hr:xz x1 y1=false:=by rw[HRR.out.1,HRR.out.2];simp
               have Hn:=Z (show b10=false by rw[← FC.out];exact pU jv.out kI.out hr);have HN:=Z (show jE x y=false by rw[HR.out,Hn.out];try simp);clear hr;go_wp2_with fail;go_ret;exact⟨by rw[HN.out];rfl,by have h1:=eY.out;have h2:=Rl.out;exact bl⟩
              | true=>
              go_wp2_with fail;refine(D4.out _ Rl.out).mono ?_;rintro e wd2 ⟨rfl,hbd⟩;have Rm:az (ai wr.heap.size wr wd2):=Z (by have h1:=Rl.out;exact bl);have HE2:az (ai wc.heap.size wc wd2):=Z (by have h1:=Yz.out;exact bl);clear hbd m0 l0 m1 l1;have m0:True:=trivial
              cases r4 with
              | false=>
               have hr:xz x1 y1=false:=by rw[HRR.out.1,HRR.out.2];simp
               have Hn:=Z (show b10=false by rw[← FC.out];exact pU jv.out kI.out hr);have HN:=Z (show jE x y=false by rw[HR.out,Hn.out];try simp);clear hr;go_wp2_with fail;go_ret;exact⟨by rw[HN.out];rfl,by have h1:=eY.out;have h2:=Rm.out;exact bl⟩
              | true=>
              have hr:xz x1 y1=true:=by rw[HRR.out.1,HRR.out.2];rfl
              have Hy:=Z (vk jv.out kI.out HA.out hr);clear hr;go_wp2_with fail;go_roundw
              case rel=>first|exact⟨k+1,by omega,by go_num,Z (by have h1:=HW.out;have h2:=Rm.out;exact bl),Hy⟩|((repeat apply Exists.intro);refine aj ?_ rfl;exact⟨k+1,by omega,by go_num,Z (by have h1:=HW.out;have h2:=Rm.out;exact bl),Hy⟩)
              case measure=>simp[intOf];omega
           · clear k3;obtain rfl:k=P.ed:=by omega
             have hb:b10=true:=by rw[← FC.out];have h1:=HA.out;rwa [ag (by rw[FH.out.1];exact av _),ag (by rw[Rn.out.1];have h2:=e10.out;omega)] at h1
             subst hb;rw[Bool.true_and] at HR;have ahA:=HW;go_wp2_with fail;clear g1 g2 hk k0 h hbw eY HA HW;obtain⟨AR,Uf⟩:∃n:Nat,5=n:=⟨_,rfl⟩
             have atn:∀w,(sizeOf 122).run ae w=.ok AR w:=fun w=>by rw[Tryz.sizeOf122,Uf]
             have Mw:=Z Uf;clear Uf;go_loopw [11] (fun i wr=>∃k:Nat,k<=P.fG/\i=.int .i64 (k:Nat)/\az (ai ((w.alloc (.cells (bX x P) 53)).alloc (.cells (bX y Q) 53)).heap.size ((w.alloc (.cells (bX x P) 53)).alloc (.cells (bX y Q) 53)) wr)/\az (dC zO (x.ss.take k) (y.ss.take k)=true)) (fun i _=>P.fG-(intOf i).toNat)
             case atStart=>exact⟨0,ax _,rfl,Z (by have h1:=ahA.out;exact bl),Z rfl⟩
             case round=>
              obtain⟨k,hk,rfl,HW,HA⟩:=hrel;have k0:(0:Int)<=(k:Int):=by omega
              have k3:(P.fG:Int)<=9223372036854775807:=by have h2:=FI.out.2;omega
              have hbw:ai w.heap.size w wr:=by have h1:=HW.out;exact bl
              have eY:=Z hbw;have q:=FX.out wr HW.out;have g1:=q.1.get (Eg x P);have g2:=q.2.get (Eg y Q);clear q;rcases au k P.fG with h|h
              · have k1:(k:Int)<(P.fG:Int):=by omega
                have k2:(k:Int)<(Q.fG:Int):=by have h2:=e11.out;omega
                have hkl:k<x.ss.length:=by rw[FI.out.1];exact h
                have dM:k<y.ss.length:=by rw[Ro.out.1];omega
                obtain⟨b,o,hp,gD,hG,hcell⟩:=(HX.out.ss.on kU.map hbw).rows lS;obtain⟨c,hcs,hat,hR⟩:=hcell.out k hkl;obtain⟨bb,o2,hp2,pV,hG2,hcell2⟩:=(HY.out.ss.on kU.map hbw).rows lS;obtain⟨d,hcs2,cK,hR2⟩:=hcell2.out k dM;obtain⟨x1,hx1⟩:∃z,x.ss[k]=z:=⟨_,rfl⟩
                obtain⟨y1,hy1⟩:∃z,y.ss[k]=z:=⟨_,rfl⟩
                have jv:=Z (show x.ss[k]?=X x1 by rw[← hx1];exact af hkl);have kI:=Z (show y.ss[k]?=X y1 by rw[← hy1];exact af dM);rw[hx1] at hR;rw[hy1] at hR2;rw[hp] at g1;rw[hp2] at g2;obtain⟨r,hr⟩:∃r,zO x1 y1=r:=⟨_,rfl⟩
                obtain⟨P1,rfl,hP1⟩:=hR;obtain⟨Q1,rfl,gJ⟩:=hR2;have IB:=Z hP1;have ll:=Z gJ;have bt:Big 122 (fB x1 P1).size:=by rw[hcs];exact F7
                have eH:Big 122 (fB y1 Q1).size:=by rw[hcs2];exact F7
                have FR:az (∀W,ai wr.heap.size wr W->W.cell? ⟨w.heap.size,11,V⟩=X (.slice (X ⟨b,o,V⟩) P.fG P.nI)/\W.cell? ⟨w.heap.size+1,11,V⟩=X (.slice (X ⟨bb,o2,V⟩) Q.fG Q.nI)/\(ah ⟨b,o+k*AR,V⟩ 0 AR #[]).run ae W=.ok (fB x1 P1) W/\(ah ⟨bb,o2+k*AR,V⟩ 0 AR #[]).run ae W=.ok (fB y1 Q1) W):=Z fun W hW=>⟨(hW.cell (p:=⟨w.heap.size,11,V⟩) (block_lt g1)).trans g1,(hW.cell (p:=⟨w.heap.size+1,11,V⟩) (block_lt g2)).trans g2,((hat.on hW hG).at Mw.out).dW (by rw[hcs];exact Mw.out),((cK.on hW hG2).at Mw.out).dW (by rw[hcs2];exact Mw.out)⟩
                have VV:=fun(z:Array Y) (hz:z.size=5)=>rD bt (jP x1 P1) z lQ;have sp1:=fun(z:Array Y) (hz:z.size=5)=>rE bt (jP x1 P1) z lQ;have sp2:=fun(z:Array Y) (hz:z.size=5)=>rC bt (jP x1 P1) z lQ;have K6:=fun(z:Array Y) (hz:z.size=5)=>Px bt (jP x1 P1) z lQ;have K7:=fun(z:Array Y) (hz:z.size=5)=>Py bt (jP x1 P1) z lQ;have K8:=fun(z:Array Y) (hz:z.size=5)=>Pw bt (jP x1 P1) z lQ;have K9:=fun(z:Array Y) (hz:z.size=5)=>KF bt (jP x1 P1) z lQ;have K_:=fun(z:Array Y) (hz:z.size=5)=>ES bt (jP x1 P1) z lQ;have La:=fun(z:Array Y) (hz:z.size=5)=>KD bt (jP x1 P1) z lQ;have Lb:=fun(z:Array Y) (hz:z.size=5)=>Pt bt (jP x1 P1) z lQ;have VW:=fun(z:Array Y) (hz:z.size=5)=>Pv bt (jP x1 P1) z lQ;have VY:=fun(z:Array Y) (hz:z.size=5)=>Pq bt (jP x1 P1) z lQ;have VZ:=fun(z:Array Y) (hz:z.size=5)=>rD eH (jP y1 Q1) z lN;have V_:=fun(z:Array Y) (hz:z.size=5)=>rE eH (jP y1 Q1) z lN;have Wd:=fun(z:Array Y) (hz:z.size=5)=>rC eH (jP y1 Q1) z lN;have We:=fun(z:Array Y) (hz:z.size=5)=>Px eH (jP y1 Q1) z lN;have Wh:=fun(z:Array Y) (hz:z.size=5)=>Py eH (jP y1 Q1) z lN;have Wi:=fun(z:Array Y) (hz:z.size=5)=>Pw eH (jP y1 Q1) z lN;have Wj:=fun(z:Array Y) (hz:z.size=5)=>KF eH (jP y1 Q1) z lN;have Wl:=fun(z:Array Y) (hz:z.size=5)=>ES eH (jP y1 Q1) z lN;have Wm:=fun(z:Array Y) (hz:z.size=5)=>KD eH (jP y1 Q1) z lN;have Wn:=fun(z:Array Y) (hz:z.size=5)=>Pt eH (jP y1 Q1) z lN;have Wo:=fun(z:Array Y) (hz:z.size=5)=>Pv eH (jP y1 Q1) z lN;have Wp:=fun(z:Array Y) (hz:z.size=5)=>Pq eH (jP y1 Q1) z lN;clear hp hp2 hx1 hy1 hcell hcs hat hkl hcell2 hcs2 cK dM hbw hP1 gJ gD hG pV hG2 bt eH
                go_upto_region 29 with fail
                clear g1 g2
                go_cut [12,13] from 221 to 271 (Za wr 122 (fB x1 P1) (fB y1 Q1))
                case first=>
                 go_region_held3 (fun W=>W.cell? ⟨w.heap.size,11,V⟩=X (.slice (X ⟨b,o,V⟩) P.fG P.nI)/\W.cell? ⟨w.heap.size+1,11,V⟩=X (.slice (X ⟨bb,o2,V⟩) Q.fG Q.nI)/\(ah ⟨b,o+k*AR,V⟩ 0 AR #[]).run ae W=.ok (fB x1 P1) W/\(ah ⟨bb,o2+k*AR,V⟩ 0 AR #[]).run ae W=.ok (fB y1 Q1) W) (first|(refine FR.out _ ?_;exact bl;done)|(go_keep;done)) (fail)
                 all_goals
                  go_wp2_with fail
                  go_meet
                  first
                   | exact⟨_,_,rfl,rfl,(DC wr 122 (fB x1 P1) (fB y1 Q1)).1,(DC wr 122 (fB x1 P1) (fB y1 Q1)).2,bl⟩
                   | exact⟨_,_,rfl,rfl,(DC wr 122 (fB y1 Q1) (fB x1 P1)).2,(DC wr 122 (fB y1 Q1) (fB x1 P1)).1,bl⟩
                case rest=>
                 obtain⟨g1,g2,rfl,rfl,B1,B2,Et⟩:=hcut
                 rename_i wc
                 clear VV sp1 sp2 K6 K7 K8 K9 K_ La Lb VW VY VZ V_ Wd We Wh Wi Wj Wl Wm Wn Wo Wp FR;have HC:az (ai w.heap.size w wc):=Z (by have h1:=eY.out;exact bl);have Ac:az (ai wr.heap.size wr wc):=Z Et;have FB:az (∀W,ai wc.heap.size wc W->bT W g1 122 (fB x1 P1)/\bT W g2 122 (fB y1 Q1)):=Z fun W hb=>⟨B1.on hb,B2.on hb⟩
                 clear B1 B2 Et;obtain⟨r1,q1⟩:∃r,dF x1.ro y1.ro=r:=⟨_,rfl⟩
                 obtain⟨r2,q2⟩:∃r,dG x1.a y1.a=r:=⟨_,rfl⟩
                 obtain⟨r3,q3⟩:∃r,dG x1.e y1.e=r:=⟨_,rfl⟩
                 obtain⟨r4,q4⟩:∃r,dG x1.u y1.u=r:=⟨_,rfl⟩
                 obtain⟨r5,q5⟩:∃r,dC dG x1.ar y1.ar=r:=⟨_,rfl⟩
                 have hr2:r=(r1&&r5&&r2&&r3&&r4):=by rw[← hr];unfold zO;rw[q1,q2,q3,q4,q5]
                 have D5:=Z (fun W (hW:ai wr.heap.size wr W)=>(show aB ae 49 #[.slice P1.Cb P1.arm P1.IW,.slice Q1.Cb Q1.arm Q1.IW] W (Gives (.bool r5) W) by rw[← q5];exact aqs (Z (IB.out.on hW).ar) (Z (ll.out.on hW).ar)));have t1:(x1.ro.toList==y1.ro.toList)=r1:=by rw[mo];exact q1
                 have t2:(x1.a==y1.a)=r2:=by rw[Uq];exact q2
                 have t3:(x1.e==y1.e)=r3:=by rw[Uq];exact q3
                 have t4:(x1.u==y1.u)=r4:=by rw[Uq];exact q4
                 have s2:(x1.a != y1.a) = !r2:=by rw[bne,t2]
                 have s3:(x1.e != y1.e) = !r3:=by rw[bne,t3]
                 have s4:(x1.u != y1.u) = !r4:=by rw[bne,t4]
                 have HRR:=Z (aj hr hr2);clear q1 q2 q3 q4 q5 hr hr2;have q:=FB.out wc (Below.refl _ _);have m0:=q.1.get (NH x1 P1);have l0:=q.2.get (NH y1 Q1);have m1:=q.1.get (Jg x1 P1);have l1:=q.2.get (Jg y1 Q1);have m2:=q.1.get (Jh x1 P1);have l2:=q.2.get (Jh y1 Q1);have m3:=q.1.get (Ji x1 P1);have l3:=q.2.get (Ji y1 Q1);have m4:=q.1.get (Jj x1 P1);have l4:=q.2.get (Jj y1 Q1);clear q
                 cases r1 with
                 | false=>
                  exact Q4
                 | true=>
                 cases r2 with
                 | false=>
                  simp only[Bool.not_false] at s2;exact Q4
                 | true=>
                 simp only[Bool.not_true] at s2
                 cases r3 with
                 | false=>
                  simp only[Bool.not_false] at s3;exact Q4
                 | true=>
                 simp only[Bool.not_true] at s3
                 cases r4 with
                 | false=>
                  simp only[Bool.not_false] at s4;exact Q4
                 | true=>
                 simp only[Bool.not_true] at s4;go_wp2_with fail;refine(D5.out _ Ac.out).mono ?_;rintro e wd ⟨rfl,hbd⟩;have FE:az (ai wr.heap.size wr wd):=Z (by have h1:=Ac.out;exact bl);clear hbd m0 l0 m1 l1 m2 l2 m3 l3 m4 l4
                 cases r5 with
                 | false=>
                  have hr:zO x1 y1=false:=by rw[HRR.out.1,HRR.out.2];simp
                  have Hn:=Z (show b11=false by rw[← Mr.out];exact pU jv.out kI.out hr);exact agV
                 | true=>
                 have hr:zO x1 y1=true:=by rw[HRR.out.1,HRR.out.2];rfl
                 have Hy:=Z (vk jv.out kI.out HA.out hr);clear hr;go_wp2_with fail;go_roundw
                 case rel=>first|exact⟨k+1,by omega,by go_num,Z (by have h1:=HW.out;have h2:=FE.out;exact bl),Hy⟩|((repeat apply Exists.intro);refine aj ?_ rfl;exact⟨k+1,by omega,by go_num,Z (by have h1:=HW.out;have h2:=FE.out;exact bl),Hy⟩)
                 case measure=>simp[intOf];omega
              · clear k3;obtain rfl:k=P.fG:=by omega
                have hb:b11=true:=by rw[← Mr.out];have h1:=HA.out;rwa [ag (by rw[FI.out.1];exact av _),ag (by rw[Ro.out.1];have h2:=e11.out;omega)] at h1
                subst hb;rw[Bool.true_and] at HR;have ahB:=HW;go_wp2_with fail;clear g1 g2 hk k0 h hbw eY HA HW;obtain⟨AU,Ug⟩:∃n:Nat,3=n:=⟨_,rfl⟩
                have ato:∀w,(sizeOf 127).run ae w=.ok AU w:=fun w=>by rw[Tryz.sizeOf127,Ug]
                have Mx:=Z Ug;clear Ug;go_loopw [14] (fun i wr=>∃k:Nat,k<=P.lam/\i=.int .i64 (k:Nat)/\az (ai ((w.alloc (.cells (bX x P) 53)).alloc (.cells (bX y Q) 53)).heap.size ((w.alloc (.cells (bX x P) 53)).alloc (.cells (bX y Q) 53)) wr)/\az (dC vF (x.la.take k) (y.la.take k)=true)) (fun i _=>P.lam-(intOf i).toNat)
                case atStart=>exact⟨0,ax _,rfl,Z (by have h1:=ahB.out;exact bl),Z rfl⟩
                case round=>
                 obtain⟨k,hk,rfl,HW,HA⟩:=hrel;have k0:(0:Int)<=(k:Int):=by omega
                 have k3:(P.lam:Int)<=9223372036854775807:=by have h2:=FJ.out.2;omega
                 have hbw:ai w.heap.size w wr:=by have h1:=HW.out;exact bl
                 have eY:=Z hbw;have q:=FX.out wr HW.out;have g1:=q.1.get (Eh x P);have g2:=q.2.get (Eh y Q);clear q;rcases au k P.lam with h|h
                 · have k1:(k:Int)<(P.lam:Int):=by omega
                   have k2:(k:Int)<(Q.lam:Int):=by have h2:=e12.out;omega
                   have hkl:k<x.la.length:=by rw[FJ.out.1];exact h
                   have dM:k<y.la.length:=by rw[Rp.out.1];omega
                   obtain⟨b,o,hp,gD,hG,hcell⟩:=(HX.out.la.on kT.map hbw).rows lS;obtain⟨c,hcs,hat,hR⟩:=hcell.out k hkl;obtain⟨bb,o2,hp2,pV,hG2,hcell2⟩:=(HY.out.la.on kT.map hbw).rows lS;obtain⟨d,hcs2,cK,hR2⟩:=hcell2.out k dM;obtain⟨x1,hx1⟩:∃z,x.la[k]=z:=⟨_,rfl⟩
                   obtain⟨y1,hy1⟩:∃z,y.la[k]=z:=⟨_,rfl⟩
                   have jv:=Z (show x.la[k]?=X x1 by rw[← hx1];exact af hkl);have kI:=Z (show y.la[k]?=X y1 by rw[← hy1];exact af dM);rw[hx1] at hR;rw[hy1] at hR2;rw[hp] at g1;rw[hp2] at g2;obtain⟨r,hr⟩:∃r,vF x1 y1=r:=⟨_,rfl⟩
                   obtain⟨P1,rfl,hP1⟩:=hR;obtain⟨Q1,rfl,gJ⟩:=hR2;have C:=Z (fun W (hW:ai wr.heap.size wr W)=>(show aB ae 50 #[.agg (fo x1 P1),.agg (fo y1 Q1)] W (Gives (.bool r) W) by rw[← hr];exact aqb x1 y1 P1 Q1 W (hP1.on hW) (gJ.on hW)));have FR:az (∀W,ai wr.heap.size wr W->W.cell? ⟨w.heap.size,12,V⟩=X (.slice (X ⟨b,o,V⟩) P.lam P.rz)/\W.cell? ⟨w.heap.size+1,12,V⟩=X (.slice (X ⟨bb,o2,V⟩) Q.lam Q.rz)/\(ah ⟨b,o+k*AU,V⟩ 0 AU #[]).run ae W=.ok (fo x1 P1) W/\(ah ⟨bb,o2+k*AU,V⟩ 0 AU #[]).run ae W=.ok (fo y1 Q1) W):=Z fun W hW=>⟨(hW.cell (p:=⟨w.heap.size,12,V⟩) (block_lt g1)).trans g1,(hW.cell (p:=⟨w.heap.size+1,12,V⟩) (block_lt g2)).trans g2,((hat.on hW hG).at Mx.out).dW (by rw[hcs];exact Mx.out),((cK.on hW hG2).at Mx.out).dW (by rw[hcs2];exact Mx.out)⟩
                   clear hp hp2 hx1 hy1 hcell hcs hat hkl hcell2 hcs2 cK dM hbw hP1 gJ gD hG pV hG2;go_wp2_with fail;clear g1 g2;go_region_held3 (fun W=>W.cell? ⟨w.heap.size,12,V⟩=X (.slice (X ⟨b,o,V⟩) P.lam P.rz)/\W.cell? ⟨w.heap.size+1,12,V⟩=X (.slice (X ⟨bb,o2,V⟩) Q.lam Q.rz)/\(ah ⟨b,o+k*AU,V⟩ 0 AU #[]).run ae W=.ok (fo x1 P1) W/\(ah ⟨bb,o2+k*AU,V⟩ 0 AU #[]).run ae W=.ok (fo y1 Q1) W) (first|(refine FR.out _ ?_;exact bl;done)|(go_keep;done)) (first
                    | (go_at_call 50;refine(C.out _ bl).mono ?_;rintro e vc ⟨rfl,hbc⟩))
                   all_goals
                    have BM:=Z hbc;clear hbc;cases r
                    · have Hn:=Z (show b12=false by rw[← Rj.out];exact pU jv.out kI.out hr);have HN:=Z (show jE x y=false by rw[HR.out,Hn.out];try simp);clear hr;go_wp2_with fail;go_ret;exact⟨by rw[HN.out];rfl,by have h1:=eY.out;have h2:=BM.out;exact bl⟩
                    · have Hy:=Z (vk jv.out kI.out HA.out hr);clear hr;go_wp2_with fail;go_roundw
                      case rel=>first|exact⟨k+1,by omega,by go_num,Z Q7,Hy⟩|((repeat apply Exists.intro);refine aj ?_ rfl;exact⟨k+1,by omega,by go_num,Z Q7,Hy⟩)
                      case measure=>simp[intOf];omega
                 · clear k3;obtain rfl:k=P.lam:=by omega
                   have hb:b12=true:=by rw[← Rj.out];have h1:=HA.out;rwa [ag (by rw[FJ.out.1];exact av _),ag (by rw[Rp.out.1];have h2:=e12.out;omega)] at h1
                   subst hb;go_wp2_with fail;go_ret;exact⟨by rw[HR.out];rfl,hbw⟩
end Md
end Go.Proofs.YtbgodajefaahdaaGreatDoor
