/-
  Parts of this proof: Words for worlds and lists of tokens in memory; . How a text is walked rune by rune, and the contr. The contracts of sign, wordSize, signSize, Numbe. The contract of formed. The contracts of endLine and scan. What Check says of a list; the contracts of plac. The contract of the reference's Check.
-/
import Derived.Test.YtbgodajefaahdaaGreatDoorZNuMath
set_option linter.unusedVariables false
open Go.Lib (hid)
namespace Go.Proofs.YtbgodajefaahdaaGreatDoor.Lx
open Go.Proofs.YtbgodajefaahdaaGreatDoor.Nu
open Go.RowKit
set_option maxHeartbeats 1000000
theorem ret_int {k:IntKind} {a b:Int} (h:a=b):Ending.returned (.int k a)=.returned (.int k b):=by rw[h]
theorem ret_bool {a b:Bool} (h:a=b):Ending.returned (.bool a)=.returned (.bool b):=by rw[h]
def Gives (v:Value) (w:World) (e:Ending) (w':World):Prop:=e=.returned v/\Below w.heap.size w w'
theorem gives_eq {v u:Value} {w w1:World} (h:u=v) (hb:Below w.heap.size w w1):Gives u w (.returned v) w1:=⟨by rw[h],hb⟩
theorem below_drewN {B:Nat} {a w:World} (h:Below B a w) (n:Nat):Below B a (w.drewN n):=⟨h.os,h.tape,h.output,h.size,h.block⟩
section
variable {a w w2:World}
theorem bl_alloc {o:Obj} (h:Below a.heap.size a w):Below a.heap.size a (w.alloc o):=h.alloc h.size o
theorem bl_drewN {n:Nat} (h:Below a.heap.size a w):Below a.heap.size a (w.drewN n):=below_drewN h n
theorem bl_drew (h:Below a.heap.size a w):Below a.heap.size a w.drew:=h.drew
theorem bl_set {p:Addr} (h:Below a.heap.size a w) (hp:a.heap.size<=p.block) (u:Value):Below a.heap.size a (w.setCell p u):=h.setCell hp u
theorem bl_call (h:Below a.heap.size a w) (hb:Below w.heap.size w w2):Below a.heap.size a w2:=h.trans (hb.mono h.size)
end
theorem clash {x:Bool} (h:x=true) (g:x=false):False:=by rw[h] at g;cases g
theorem eq_yes {a b:ByteArray} (h:bs a=bs b):(a.toList==b.toList)=true:=by rw[bs_inj h];simp
theorem eq_no {a b:ByteArray} (h:¬bs a=bs b):(a.toList==b.toList)=false:=by
 rw[beq_eq_false_iff_ne,Lib.toList_data,Lib.toList_data];exact h
theorem add_off (b o j:Nat):(⟨b,o,none⟩:Addr).add j=⟨b,o+j,none⟩:=by unfold Addr.add;split <;> simp_all
def c4 (x:Tk) (r:Nat):Value:=match r with
 | 0=>.int .i64 x.k
 | 1=>.string x.t
 | 2=>.int .i64 x.n
 | _=>.int .i64 x.l
def cell4 (w:World) (g o:Nat) (x:Tk):Prop:=w.cell? ⟨g,o,none⟩=some (.int .i64 x.k)/\w.cell? ⟨g,o+1,none⟩=some (.string x.t)/\w.cell? ⟨g,o+2,none⟩=some (.int .i64 x.n)/\w.cell? ⟨g,o+3,none⟩=some (.int .i64 x.l)
theorem cell4.on {w w2:World} {g o:Nat} {x:Tk} (hb:Below w.heap.size w w2) (hg:g<w.heap.size) (h:cell4 w g o x):cell4 w2 g o x:=by
 obtain⟨h0,h1,h2,h3⟩:=h;exact⟨(hb.cell (p:=⟨g,o,none⟩) hg).trans h0,(hb.cell (p:=⟨g,o+1,none⟩) hg).trans h1,(hb.cell (p:=⟨g,o+2,none⟩) hg).trans h2,(hb.cell (p:=⟨g,o+3,none⟩) hg).trans h3⟩
theorem cell4_get {w:World} {g o r:Nat} {x:Tk} (h:cell4 w g o x) (hr:r<4):w.cell? ⟨g,o+r,none⟩=some (c4 x r):=by
 obtain⟨h0,h1,h2,h3⟩:=h
 match r,hr with
 | 0,_=>exact h0
 | 1,_=>exact h1
 | 2,_=>exact h2
 | 3,_=>exact h3
theorem cell4_of {w:World} {g o:Nat} {x:Tk} (h:∀r,r<4->w.cell? ⟨g,o+r,none⟩=some (c4 x r)):cell4 w g o x:=
 ⟨h 0 (by omega),h 1 (by omega),h 2 (by omega),h 3 (by omega)⟩
def flat:List Tk->List Value
 | []=>[]
 | x::t=>.int .i64 x.k::.string x.t::.int .i64 x.n::.int .i64 x.l::flat t
theorem flat_len:∀l:List Tk,(flat l).length=l.length*4
 | []=>rfl
 | x::t=>by simp only[flat,List.length_cons,flat_len t];omega
theorem flat_app:∀a b:List Tk,flat (a++b)=flat a++flat b
 | [],b=>rfl
 | x::t,b=>by simp only[List.cons_append,flat,flat_app t b]
theorem flat_get:∀{l:List Tk} {i r:Nat} (h:i<l.length),r<4->(flat l)[i*4+r]?=some (c4 l[i] r)
 | [],i,r,h,_=>absurd h (Nat.not_lt_zero _)
 | x::t,0,r,_,hr=>by
  match r,hr with
  | 0,_=>rfl
  | 1,_=>rfl
  | 2,_=>rfl
  | 3,_=>rfl
 | x::t,i+1,r,h,hr=>by
  have e:(i+1)*4+r=(i*4+r)+1+1+1+1:=by omega
  rw[e];simp only[flat,List.getElem?_cons_succ,List.getElem_cons_succ];exact flat_get (l:=t) (by simpa using h) hr
theorem flat_one:∀l:List Tk,∀u∈flat l,u.oneCell'=true
 | [],u,hu=>by cases hu
 | x::t,u,hu=>by
  simp only[flat,List.mem_cons] at hu;rcases hu with rfl|rfl|rfl|rfl|hu
  · rfl
  · rfl
  · rfl
  · rfl
  · exact flat_one t u hu
def Toks (w:World) (p:Option Addr) (n:Nat) (l:List Tk):Prop:=
 l.length=n/\n<=9223372036854775807/\(n=0∨∃b o,p=some ⟨b,o,none⟩/\b<w.heap.size/\Hid (∀i,(h:i<l.length)->cell4 w b (o+i*4) l[i]))
theorem Toks.on {w w2:World} {p:Option Addr} {n:Nat} {l:List Tk} (hb:Below w.heap.size w w2) (h:Toks w p n l):Toks w2 p n l:=by
 obtain⟨h0,hl,h|⟨b,o,rfl,h1,h2⟩⟩:=h
 · exact⟨h0,hl,.inl h⟩
 · exact⟨h0,hl,.inr ⟨b,o,rfl,Nat.lt_of_lt_of_le h1 hb.size,hid fun i hi=>cell4.on hb h1 (h2.out i hi)⟩⟩
theorem Toks.alloc {w:World} {o:Obj} {p:Option Addr} {n:Nat} {l:List Tk} (h:Toks w p n l):Toks (w.alloc o) p n l:=h.on ((Below.refl _ _).alloc (Nat.le_refl _) o)
theorem Toks.drew {w:World} {p:Option Addr} {n:Nat} {l:List Tk} (h:Toks w p n l):Toks w.drew p n l:=h
theorem Toks.drewN {w:World} {p:Option Addr} {n:Nat} {l:List Tk} (h:Toks w p n l) (m:Nat):Toks (w.drewN m) p n l:=h
theorem Toks.nil {w:World} {p:Option Addr}:Toks w p 0 []:=⟨rfl,by omega,.inl rfl⟩
abbrev Own (lo:Nat) (w:World) (v:Value) (l:List Tk):Prop:=w.ownsRow lo 135 4 v l.length (flat l)
theorem own_below {lo:Nat} {w w2:World} {v:Value} {l:List Tk} (h:Own lo w v l) (hb:Below w.heap.size w w2):Own lo w2 v l:=
 World.ownsRow.kept h (row:=none) ⟨hb.os,hb.tape,hb.output,hb.size,fun k hk _=>hb.block k hk⟩ (by cases v.ownBlock <;> simp)
theorem own_toks {lo:Nat} {w:World} {v:Value} {l:List Tk} (h:Own lo w v l):∃p c,v=.slice p l.length c/\Toks w p l.length l/\l.length<=c/\((p=none/\c=0)∨∃g,p=some ⟨g,0,none⟩/\lo<=g):=by
 have h':=h;rcases h'.2 with⟨rfl,h0⟩|⟨g,cap,cur,rfl,hg,hcur,hc,hm,h5,h6⟩
 · have:l=[]:=List.length_eq_zero_iff.1 h0;subst this;exact⟨none,0,rfl,Toks.nil,Nat.le_refl _,.inl ⟨rfl,rfl⟩⟩
 · refine⟨_,_,rfl,⟨rfl,?_,?_⟩,hc,.inr ⟨g,rfl,hg⟩⟩
   · unfold maxLen at hm;omega
   · refine .inr ⟨g,0,rfl,(h.lt g rfl).2,hid fun i hi=>cell4_of fun r hr=>?_⟩;rw[h.cellAt (0+i*4+r) (by omega),Nat.zero_add,flat_get hi hr]
theorem parts_of {o:Option TypeInfo} {z:Value} {s b:Nat} (h:o.map (fun i=>(i.zero,i.size,i.bytes))=some (some z,s,b)):∃i,o=some i/\i.zero=some z/\i.size=s/\i.bytes=b:=by
 cases o with
 | none=>cases h
 | some i=>simp only[Option.map_some,Option.some.injEq,Prod.mk.injEq] at h;exact⟨i,rfl,h.1,h.2.1,h.2.2⟩
theorem tok_info:(Tryz.prog.info? 135).map (fun i=>(i.zero,i.size,i.bytes))=some (some (.agg #[.int .i64 0,.string ⟨#[]⟩,.int .i64 0,.int .i64 0]),4,40):=by kernel_rfl
theorem append_tok {lo:Nat} {w:World} {v:Value} {l:List Tk} (hown:Own lo w v l) {b:Nat} {x:Tk} (hb:b<w.heap.size) (hx:cell4 w b 0 x) (hn:l.length<=1000000) (hlo:lo<=w.heap.size) :
 ∃v' w',(Builtin.append_ #[81,81] 81 #[v,.slice (some ⟨b,0,none⟩) 1 1]).run Tryz.prog w=.ok v' w'/\Own lo w' v' (l++[x])/\w.grownBy w' v.ownBlock:=by
 obtain⟨i0,hi0,hz0,hz1,hz2⟩:=parts_of tok_info;have hnews:∀j u,(flat [x])[j]?=some u->w.cell? ((⟨b,0,none⟩:Addr).add j)=some u:=by
  intro j u hu;have hj:j<4:=by
   have:=(List.getElem?_eq_some_iff.1 hu).1;rwa [flat_len] at this
  have h2:=flat_get (l:=[x]) (i:=0) (r:=j) (by simp) hj;rw[Nat.zero_mul,Nat.zero_add,hu] at h2;rw[add_off,cell4_get hx hj];exact h2.symm
 obtain⟨v',w',hrun,h2,h3,-,-⟩:=run_append_own_at (P:=Tryz.prog) w lo 81 81 135 i0 _ 4 40 Tryz.underlying81 hi0 hz0 hz1 hz2 rfl (by omega) v l.length _ hown ⟨b,0,none⟩ 1 1 (flat [x]) (flat_len _) hnews (flat_one _)
  (by unfold maxLen;omega) (by omega) hlo
 rw[← flat_app] at h2;refine⟨v',w',hrun,?_,h3⟩
 show w'.ownsRow lo 135 4 v' (l++[x]).length _
 rw[List.length_append];exact h2
theorem new4 {w:World} {x:Tk} {t:TypeId}:cell4 (w.alloc (.cells #[.int .i64 x.k,.string x.t,.int .i64 x.n,.int .i64 x.l] t)) w.heap.size 0 x:=by
 refine cell4_of fun r hr=>?_;rw[World.cell?_alloc_mark,Nat.zero_add]
 match r,hr with
 | 0,_=>rfl
 | 1,_=>rfl
 | 2,_=>rfl
 | 3,_=>rfl
theorem below_grown {lo:Nat} {a w w':World} {v:Value} {l:List Tk} (hB:Below lo a w) (hlo:lo<=w.heap.size) (ho:Own lo w v l) (hg:w.grownBy w' v.ownBlock):Below lo a w':=hB.grown hg hlo fun k hk=>(ho.lt k hk).1
theorem kept_iter {w w':World} {lo:Nat} {v:Value} {l:List Tk} {k:Nat} {s:ByteArray} {pos:Nat} (ho:Own lo w v l) (hg:w.grownBy w' v.ownBlock) (hk:w.heap[k]?=some (.stringIter s pos)):w'.heap[k]?=some (.stringIter s pos):=by
 have hlt:k<w.heap.size:=(Array.getElem?_eq_some_iff.1 hk).1;rw[hg.block k hlt ?_]
 · exact hk
 · intro e;rcases ho.2 with⟨rfl,h0⟩|⟨g,cap,cur,rfl,hgg,hcur,-⟩
   · simp[Value.ownBlock] at e
   · simp[Value.ownBlock] at e
     subst e;rw[hk] at hcur;cases hcur
end Go.Proofs.YtbgodajefaahdaaGreatDoor.Lx
namespace Go.Proofs.YtbgodajefaahdaaGreatDoor.Lx
open Go.Proofs.YtbgodajefaahdaaGreatDoor.Nu
open Go.RowKit
set_option maxHeartbeats 1000000
theorem get_bang (s:ByteArray) (p:Nat) (h:p<s.size):s.get! p=s[p]'h:=by
 simp[ByteArray.get!,getElem!_pos,h]
 rfl
theorem zAW_3 {p:Prop} (h:p:=by
 exact⟨Nat.le_refl _,h,fun j h1 h2=>by omega⟩
 ):p:=h
theorem dec_more (s:ByteArray) (pos:Nat) (h:pos<s.size):1<=(Utf8.decode s pos).2/\pos+(Utf8.decode s pos).2<=s.size/\∀j,1<=j->j<(Utf8.decode s pos).2->(g:pos+j<s.size)->128<=(s[pos+j]'g).toNat:=by
 have key:∀k,(decide (pos+k<s.size)&&(s.get! (pos+k)).toNat / 64==2)=true->pos+k<s.size/\((g:pos+k<s.size)->128<=(s[pos+k]'g).toNat):=by
  intro k hk;simp only[Bool.and_eq_true,decide_eq_true_eq,beq_iff_eq] at hk;refine⟨hk.1,fun g=>?_⟩;have:=hk.2;rw[get_bang s _ g] at this;omega
 unfold Utf8.decode;simp only
 split
 · exact zAW_3
 split
 · rename_i h2
   have h2':=(Bool.and_eq_true _ _▸h2:_/\_).2;obtain⟨a1,b1⟩:=key 1 h2'
   split
   · refine⟨by omega,a1,fun j hj1 hj2 g=>?_⟩;have hj2:j<2:=hj2;obtain rfl:j=1:=by omega
     exact b1 g
   · exact zAW_3
 split
 · rename_i h2
   simp only[Bool.and_eq_true] at h2;obtain⟨a1,b1⟩:=key 1 (by simpa using h2.1.2);obtain⟨a2,b2⟩:=key 2 (by simpa using h2.2)
   split
   · refine⟨by omega,a2,fun j hj1 hj2 g=>?_⟩;have hj2:j<3:=hj2;rcases (by omega:j=1∨j=2) with rfl|rfl
     · exact b1 g
     · exact b2 g
   · exact zAW_3
 split
 · rename_i h2
   simp only[Bool.and_eq_true] at h2;obtain⟨a1,b1⟩:=key 1 (by simpa using h2.1.1.2);obtain⟨a2,b2⟩:=key 2 (by simpa using h2.1.2);obtain⟨a3,b3⟩:=key 3 (by simpa using h2.2)
   split
   · refine⟨by omega,a3,fun j hj1 hj2 g=>?_⟩;have hj2:j<4:=hj2;rcases (by omega:j=1∨j=2∨j=3) with rfl|rfl|rfl
     · exact b1 g
     · exact b2 g
     · exact b3 g
   · exact zAW_3
 · exact zAW_3
structure Fair (P:Int->Bool) (p:UInt8->Bool):Prop where
 low:∀c:UInt8,p c=P (c.toNat:Int)
 high:∀x:Int,128<=x->P x=P 128
theorem fair_ltr:Fair ltrI ltrC:=⟨fun _=>rfl,fun x hx=>by unfold ltrI;rw[decide_eq_false (by omega:¬x<=122),Bool.and_false];decide⟩
theorem fair_dig:Fair digI digC:=⟨fun _=>rfl,fun x hx=>by unfold digI;rw[decide_eq_false (by omega:¬x<=57),Bool.and_false];decide⟩
theorem fair_wrd:Fair wrdI wrdC:=⟨fun _=>rfl,fun x hx=>by unfold wrdI;rw[fair_ltr.high x hx,fair_dig.high x hx,decide_eq_false (by omega:¬x=95)];decide⟩
theorem fair_inl:Fair inlI inlC:=⟨fun _=>rfl,fun x hx=>by unfold inlI;rw[decide_eq_false (by omega:¬x=10)];decide⟩
def All (p:UInt8->Bool) (l:List UInt8) (k:Nat):Prop:=∀j,j<k->(h:j<l.length)->p l[j]=true
theorem fair_yes {P:Int->Bool} {p:UInt8->Bool} (F:Fair P p) {s:ByteArray} {pos:Nat} (h:pos<s.size) (hA:All p (bs s) pos) (e:P ((Utf8.decode s pos).1:Int)=true):All p (bs s) (pos+(Utf8.decode s pos).2):=by
 intro j hj hl;rcases Nat.lt_or_ge j pos with h1|h1
 · exact hA j h1 hl
 rw[bs_len] at hl;by_cases ha:(s[pos]'h).toNat<128
 · rw[decode_ascii s pos h ha] at e hj;have hj:j<pos+1:=hj;obtain rfl:j=pos:=by omega
   rw[F.low];exact e
 · have e1:=decode_high s pos h (by omega);rw[F.high _ (by have:=e1.1;omega)] at e;have hb:128<=(s[j]'hl).toNat:=by
    obtain⟨i,rfl⟩:∃i,j=pos+i:=⟨j-pos,by omega⟩
    by_cases hi:i=0
    · subst hi;simp only[Nat.add_zero];omega
    · exact(dec_more s pos h).2.2 i (by omega) (by omega) hl
   rw[F.low]
   show P (((s[j]'hl).toNat:Nat):Int)=true
   rw[F.high _ (by omega)];exact e
theorem fair_no {P:Int->Bool} {p:UInt8->Bool} (F:Fair P p) {s:ByteArray} {pos:Nat} (h:pos<s.size) (hA:All p (bs s) pos) (e:P ((Utf8.decode s pos).1:Int)=false):spn p (bs s)=pos:=by
 refine spn_hit (by rw[bs_len];exact h) hA ?_;rw[F.low]
 show P (((s[pos]'h).toNat:Nat):Int)=false
 by_cases ha:(s[pos]'h).toNat<128
 · rw[decode_ascii s pos h ha] at e;exact e
 · have e1:=decode_high s pos h (by omega);rw[F.high _ (by have:=e1.1;omega)] at e;rw[F.high _ (by omega)];exact e
theorem fair_end {p:UInt8->Bool} {s:ByteArray} {pos:Nat} (h:s.size<=pos) (hA:All p (bs s) pos):spn p (bs s)=s.size:=by
 rw[spn_all fun j hj=>hA j (by rw[bs_len] at hj;omega) hj,bs_len]
theorem zAW_4 {p:Prop} (h:p:=by
 go_wp2_with fail;go_ret;exact⟨rfl,rfl⟩
 ):p:=h
theorem letter_any (x:Int) (w:World):Calls Tryz.prog 177 #[.int .i32 x] w fun e w'=>e=.returned (.bool (ltrI x))/\w'=w:=by
 unfold ltrI;by_cases h1:97<=x
 · have t1:decide (97<=x)=true:=decide_eq_true h1;by_cases h2:x<=122
   · have t2:decide (x<=122)=true:=decide_eq_true h2;rw[t1,t2];go_enter Tryz.func177,Tryz.ntmps177;exact zAW_4
   · have t2:decide (x<=122)=false:=decide_eq_false h2;rw[t1,t2];go_enter Tryz.func177,Tryz.ntmps177;exact zAW_4
 · have t1:decide (97<=x)=false:=decide_eq_false h1;rw[t1,Bool.false_and];go_enter Tryz.func177,Tryz.ntmps177;exact zAW_4
theorem digit_any (x:Int) (w:World):Calls Tryz.prog 149 #[.int .i32 x] w fun e w'=>e=.returned (.bool (digI x))/\w'=w:=by
 unfold digI;by_cases h1:48<=x
 · have t1:decide (48<=x)=true:=decide_eq_true h1;by_cases h2:x<=57
   · have t2:decide (x<=57)=true:=decide_eq_true h2;rw[t1,t2];go_enter Tryz.func149,Tryz.ntmps149;exact zAW_4
   · have t2:decide (x<=57)=false:=decide_eq_false h2;rw[t1,t2];go_enter Tryz.func149,Tryz.ntmps149;exact zAW_4
 · have t1:decide (48<=x)=false:=decide_eq_false h1;rw[t1,Bool.false_and];go_enter Tryz.func149,Tryz.ntmps149;exact zAW_4
theorem letter_at {x:Int} {b:Bool} (h:ltrI x=b) (w:World):Calls Tryz.prog 177 #[.int .i32 x] w fun e w'=>e=.returned (.bool b)/\w'=w:=by rw[← h];exact letter_any x w
theorem digit_at {x:Int} {b:Bool} (h:digI x=b) (w:World):Calls Tryz.prog 149 #[.int .i32 x] w fun e w'=>e=.returned (.bool b)/\w'=w:=by rw[← h];exact digit_any x w
theorem inword_any (x:Int) (w:World):Calls Tryz.prog 178 #[.int .i32 x] w fun e w'=>e=.returned (.bool (wrdI x))/\w'=w:=by
 unfold wrdI
 cases h1:ltrI x with
 | true=>
  have I1:=letter_at h1 w;go_enter Tryz.func178,Tryz.ntmps178;go_wp2_with (go_at_call 177;refine I1.mono ?_;rintro e w1 ⟨rfl,rfl⟩)
  go_ret;exact⟨rfl,rfl⟩
 | false=>
  have I1:=letter_at h1 w
  cases h2:digI x with
  | true=>
   have I2:=digit_at h2 w;go_enter Tryz.func178,Tryz.ntmps178;go_wp2_with (first|(go_at_call 177;refine I1.mono ?_;rintro e w1 ⟨rfl,rfl⟩)|(go_at_call 149;refine I2.mono ?_;rintro e w1 ⟨rfl,rfl⟩))
   go_ret;exact⟨rfl,rfl⟩
  | false=>
   have I2:=digit_at h2 w;go_enter Tryz.func178,Tryz.ntmps178;go_wp2_with (first|(go_at_call 177;refine I1.mono ?_;rintro e w1 ⟨rfl,rfl⟩)|(go_at_call 149;refine I2.mono ?_;rintro e w1 ⟨rfl,rfl⟩))
   go_ret;exact⟨ret_bool (by by_cases h:x=95 <;> simp[h]),rfl⟩
theorem inline_any (x:Int) (w:World):Calls Tryz.prog 100 #[.int .i32 x] w fun e w'=>e=.returned (.bool (inlI x))/\w'=w:=by
 have HD:Hid (inlI x = !decide (x=10)):=hid rfl;go_enter Tryz.func100,Tryz.ntmps100;go_wp2_with fail;go_ret;exact⟨ret_bool (by rw[HD.out];by_cases h:x=10 <;> simp[h]),rfl⟩
theorem zAW_0 {p:Prop} (h:p:=by
 rw[hv] at I1;clear HY HN hv;go_wp2_with fail;refine I1.mono ?_;rintro e w1 ⟨rfl,rfl⟩;go_wp2_with fail;go_roundw
 case rel=>exact⟨pos+M,m2,rfl,HY2⟩
 case measure=>simp only[World.iterPos_iter];omega
 ):p:=h
theorem zAW_1 {p:Prop} (h:p:=by
 have hnx:=fun ty=>run_next_end (P:=Tryz.prog) w s pos ty h;have HR:=hid (fair_end (by omega) HA.out);go_wp2_with fail;go_ret;exact⟨ret_int (by rw[HR.out]),hbl⟩
 ):p:=h
theorem zAW_2 {p:Prop} (h:p:=by
 rw[hv] at I1;clear HY HN hv;go_wp2_with fail;refine I1.mono ?_;rintro e w1 ⟨rfl,rfl⟩;go_wp2_with fail;go_ret;exact⟨ret_int (by rw[HR.out]),hbl2⟩
 ):p:=h
theorem span_ltr (s:ByteArray) (w:World) (hs:s.size<=9223372036854775807):Calls Tryz.prog 99 #[.string s,.func (.func 177) #[] #[]] w (Gives (.int .i64 ((spn ltrC (bs s):Nat):Int)) w):=by
 have hs':(s.size:Int)<=9223372036854775807:=by omega
 go_enter Tryz.func99,Tryz.ntmps99;go_wp2_with fail;go_loopw [] (fun wr=>∃pos:Nat,pos<=s.size/\wr=w.iter s pos/\Hid (All ltrC (bs s) pos)) (fun wr=>s.size-wr.iterPos w.heap.size)
 case atStart=>exact⟨0,Nat.zero_le _,rfl,hid fun j hj=>absurd hj (Nat.not_lt_zero _)⟩
 case round=>
  obtain⟨pos,hp,rfl,HA⟩:=hrel;have hbl:Below w.heap.size w (w.iter s pos):=bl_alloc (Below.refl _ _);by_cases h:pos<s.size
  · have hnx:=fun ty=>run_next_any (P:=Tryz.prog) w s pos ty h;have hd:=decode_le s pos;obtain⟨m1,m2,-⟩:=dec_more s pos h;have HY:=hid (fun e=>fair_yes fair_ltr h HA.out e);have HN:=hid (fun e=>fair_no fair_ltr h HA.out e);obtain⟨R,hR⟩:∃R,(Utf8.decode s pos).1=R:=⟨_,rfl⟩
    obtain⟨M,hM⟩:∃M,(Utf8.decode s pos).2=M:=⟨_,rfl⟩
    rw[hR] at hd HY HN;rw[hM] at m1 m2 HY;simp only[hR,hM] at hnx;clear hR hM;have hbl2:Below w.heap.size w (w.iter s (pos+M)):=bl_alloc (Below.refl _ _)
    cases hv:ltrI (R:Int) with
    | true=>
     have HY2:=hid (HY.out hv);have I1:=letter_any (R:Int) (w.iter s (pos+M));exact zAW_0
    | false=>
     have HR:=hid (HN.out hv);have I1:=letter_any (R:Int) (w.iter s (pos+M));exact zAW_2
  · exact zAW_1
theorem span_dig (s:ByteArray) (w:World) (hs:s.size<=9223372036854775807):Calls Tryz.prog 99 #[.string s,.func (.func 149) #[] #[]] w (Gives (.int .i64 ((spn digC (bs s):Nat):Int)) w):=by
 have hs':(s.size:Int)<=9223372036854775807:=by omega
 go_enter Tryz.func99,Tryz.ntmps99;go_wp2_with fail;go_loopw [] (fun wr=>∃pos:Nat,pos<=s.size/\wr=w.iter s pos/\Hid (All digC (bs s) pos)) (fun wr=>s.size-wr.iterPos w.heap.size)
 case atStart=>exact⟨0,Nat.zero_le _,rfl,hid fun j hj=>absurd hj (Nat.not_lt_zero _)⟩
 case round=>
  obtain⟨pos,hp,rfl,HA⟩:=hrel;have hbl:Below w.heap.size w (w.iter s pos):=bl_alloc (Below.refl _ _);by_cases h:pos<s.size
  · have hnx:=fun ty=>run_next_any (P:=Tryz.prog) w s pos ty h;have hd:=decode_le s pos;obtain⟨m1,m2,-⟩:=dec_more s pos h;have HY:=hid (fun e=>fair_yes fair_dig h HA.out e);have HN:=hid (fun e=>fair_no fair_dig h HA.out e);obtain⟨R,hR⟩:∃R,(Utf8.decode s pos).1=R:=⟨_,rfl⟩
    obtain⟨M,hM⟩:∃M,(Utf8.decode s pos).2=M:=⟨_,rfl⟩
    rw[hR] at hd HY HN;rw[hM] at m1 m2 HY;simp only[hR,hM] at hnx;clear hR hM;have hbl2:Below w.heap.size w (w.iter s (pos+M)):=bl_alloc (Below.refl _ _)
    cases hv:digI (R:Int) with
    | true=>
     have HY2:=hid (HY.out hv);have I1:=digit_any (R:Int) (w.iter s (pos+M));exact zAW_0
    | false=>
     have HR:=hid (HN.out hv);have I1:=digit_any (R:Int) (w.iter s (pos+M));exact zAW_2
  · exact zAW_1
theorem span_wrd (s:ByteArray) (w:World) (hs:s.size<=9223372036854775807):Calls Tryz.prog 99 #[.string s,.func (.func 178) #[] #[]] w (Gives (.int .i64 ((spn wrdC (bs s):Nat):Int)) w):=by
 have hs':(s.size:Int)<=9223372036854775807:=by omega
 go_enter Tryz.func99,Tryz.ntmps99;go_wp2_with fail;go_loopw [] (fun wr=>∃pos:Nat,pos<=s.size/\wr=w.iter s pos/\Hid (All wrdC (bs s) pos)) (fun wr=>s.size-wr.iterPos w.heap.size)
 case atStart=>exact⟨0,Nat.zero_le _,rfl,hid fun j hj=>absurd hj (Nat.not_lt_zero _)⟩
 case round=>
  obtain⟨pos,hp,rfl,HA⟩:=hrel;have hbl:Below w.heap.size w (w.iter s pos):=bl_alloc (Below.refl _ _);by_cases h:pos<s.size
  · have hnx:=fun ty=>run_next_any (P:=Tryz.prog) w s pos ty h;have hd:=decode_le s pos;obtain⟨m1,m2,-⟩:=dec_more s pos h;have HY:=hid (fun e=>fair_yes fair_wrd h HA.out e);have HN:=hid (fun e=>fair_no fair_wrd h HA.out e);obtain⟨R,hR⟩:∃R,(Utf8.decode s pos).1=R:=⟨_,rfl⟩
    obtain⟨M,hM⟩:∃M,(Utf8.decode s pos).2=M:=⟨_,rfl⟩
    rw[hR] at hd HY HN;rw[hM] at m1 m2 HY;simp only[hR,hM] at hnx;clear hR hM;have hbl2:Below w.heap.size w (w.iter s (pos+M)):=bl_alloc (Below.refl _ _)
    cases hv:wrdI (R:Int) with
    | true=>
     have HY2:=hid (HY.out hv);have I1:=inword_any (R:Int) (w.iter s (pos+M));exact zAW_0
    | false=>
     have HR:=hid (HN.out hv);have I1:=inword_any (R:Int) (w.iter s (pos+M));exact zAW_2
  · exact zAW_1
theorem span_inl (s:ByteArray) (w:World) (hs:s.size<=9223372036854775807):Calls Tryz.prog 99 #[.string s,.func (.func 100) #[] #[]] w (Gives (.int .i64 ((spn inlC (bs s):Nat):Int)) w):=by
 have hs':(s.size:Int)<=9223372036854775807:=by omega
 go_enter Tryz.func99,Tryz.ntmps99;go_wp2_with fail;go_loopw [] (fun wr=>∃pos:Nat,pos<=s.size/\wr=w.iter s pos/\Hid (All inlC (bs s) pos)) (fun wr=>s.size-wr.iterPos w.heap.size)
 case atStart=>exact⟨0,Nat.zero_le _,rfl,hid fun j hj=>absurd hj (Nat.not_lt_zero _)⟩
 case round=>
  obtain⟨pos,hp,rfl,HA⟩:=hrel;have hbl:Below w.heap.size w (w.iter s pos):=bl_alloc (Below.refl _ _);by_cases h:pos<s.size
  · have hnx:=fun ty=>run_next_any (P:=Tryz.prog) w s pos ty h;have hd:=decode_le s pos;obtain⟨m1,m2,-⟩:=dec_more s pos h;have HY:=hid (fun e=>fair_yes fair_inl h HA.out e);have HN:=hid (fun e=>fair_no fair_inl h HA.out e);obtain⟨R,hR⟩:∃R,(Utf8.decode s pos).1=R:=⟨_,rfl⟩
    obtain⟨M,hM⟩:∃M,(Utf8.decode s pos).2=M:=⟨_,rfl⟩
    rw[hR] at hd HY HN;rw[hM] at m1 m2 HY;simp only[hR,hM] at hnx;clear hR hM;have hbl2:Below w.heap.size w (w.iter s (pos+M)):=bl_alloc (Below.refl _ _)
    cases hv:inlI (R:Int) with
    | true=>
     have HY2:=hid (HY.out hv);have I1:=inline_any (R:Int) (w.iter s (pos+M));exact zAW_0
    | false=>
     have HR:=hid (HN.out hv);have I1:=inline_any (R:Int) (w.iter s (pos+M));exact zAW_2
  · exact zAW_1
end Go.Proofs.YtbgodajefaahdaaGreatDoor.Lx
namespace Go.Proofs.YtbgodajefaahdaaGreatDoor.Lx
open Go.Proofs.YtbgodajefaahdaaGreatDoor.Nu
open Go.RowKit
set_option maxHeartbeats 2000000
theorem sg_yes {s:ByteArray} {c:List UInt8} (h:(s.toList==c)=true) (hc:sgl.contains c=true):true=isSg (bs s):=by
 have e:bs s=c:=by
  have g:=eq_of_beq h;rw[Lib.toList_data] at g;exact g
 unfold isSg;rw[e,hc]
theorem sg_any (s:ByteArray):isSg (bs s)=sgl.any fun c=>s.toList==c:=by
 unfold isSg;simp only[Lib.toList_data];rw[List.contains_eq_any_beq]
set_option maxRecDepth 100000 in
theorem sign_any (s:ByteArray) (w:World):Calls Tryz.prog 180 #[.string s] w fun e w'=>e=.returned (.bool (isSg (bs s)))/\w'=w:=by
 go_enter Tryz.func180,Tryz.ntmps180;go_wp2_with fail
 all_goals first
  | exact(clash (by assumption) (by assumption)).elim
  | (go_ret;exact⟨ret_bool (sg_yes (by assumption) (by decide)),rfl⟩)
  | (go_ret;exact⟨ret_bool (by rw[sg_any];simp only[sgl,List.any_cons,List.any_nil,Bool.or_false, *]),rfl⟩)
def wdN (l:List UInt8):Nat:=if spn ltrC l=0 then 0 else spn wrdC l
theorem zAY_3 {p:Prop} (h:p:=by(repeat (first|(with_reducible exact Below.refl _ _)|(with_reducible assumption)|(with_reducible apply bl_alloc)|(with_reducible apply bl_drewN)|(with_reducible apply bl_drew)|(with_reducible refine bl_set ?_ (by first|(simp;done)|(simp;omega)) _)|(with_reducible refine bl_call ?_ (by assumption))))):p:=h
theorem zAY_0 {p:Prop} (h:p:=by
 go_wp2_with fail;go_ret;exact gives_eq (by rw[HV2.out];rfl) zAY_3
 ):p:=h
theorem wordsize_any (s:ByteArray) (w:World) (hs:s.size<=9223372036854775807):Calls Tryz.prog 148 #[.string s] w (Gives (.int .i64 ((wdN (bs s):Nat):Int)) w):=by
 have I1:=span_ltr s w hs;have I2:=fun w1=>span_wrd s w1 hs;have HV:Hid (wdN (bs s)=if spn ltrC (bs s)=0 then 0 else spn wrdC (bs s)):=hid rfl;obtain⟨K,hK⟩:∃K,spn ltrC (bs s)=K:=⟨_,rfl⟩
 obtain⟨M,hM⟩:∃M,spn wrdC (bs s)=M:=⟨_,rfl⟩
 rw[hK] at I1;simp only[hM] at I2;rw[hK,hM] at HV;clear hK hM;by_cases h:K=0
 · have HV2:=hid (HV.out.trans (if_pos h));subst h;clear HV;go_enter Tryz.func148,Tryz.ntmps148;go_wp2_with fail;refine I1.mono ?_;rintro e w1 ⟨rfl,hb1⟩;exact zAY_0
 · have HV2:=hid (HV.out.trans (if_neg h));have q:((K:Int)==0)=false:=by rw[beq_eq_false_iff_ne];omega
   clear HV;go_enter Tryz.func148,Tryz.ntmps148;go_wp2_with fail;refine I1.mono ?_;rintro e w1 ⟨rfl,hb1⟩;go_wp2_with fail;refine(I2 w1).mono ?_;rintro e w2 ⟨rfl,hb2⟩;exact zAY_0
theorem wordsize_at {s:ByteArray} {k:Nat} (h:wdN (bs s)=k) (hs:s.size<=9223372036854775807) (w:World):Calls Tryz.prog 148 #[.string s] w (Gives (.int .i64 (k:Int)) w):=by rw[← h];exact wordsize_any s w hs
def sgN (l:List UInt8):Nat:=if 2<=l.length/\isSg (l.take 2)=true then 2 else if isSg (l.take 1)=true then 1 else 0
def NoSg (l:List UInt8) (k m:Nat):Prop:=∀j,k<j->j<=m->isSg (l.take j)=false
theorem sgN_hit {l:List UInt8} {k:Nat} (h0:0<k) (hk:k<=min 2 l.length) (h:NoSg l k (min 2 l.length)) (e:isSg (l.take k)=true):sgN l=k:=by
 unfold sgN;by_cases h2:k=2
 · subst h2;rw[if_pos ⟨by omega,e⟩]
 · obtain rfl:k=1:=by omega
   rw[if_neg,if_pos e];rintro⟨g1,g2⟩;rw[h 2 (by omega) (by omega)] at g2;cases g2
theorem sgN_miss {l:List UInt8} (h:NoSg l 0 (min 2 l.length)):sgN l=0:=by
 unfold sgN;rw[if_neg,if_neg]
 · intro g;by_cases h1:l.length=0
   · have:l=[]:=List.length_eq_zero_iff.1 h1;subst this
     cases (by simpa using g:isSg []=true)
   · rw[h 1 (by omega) (by omega)] at g;cases g
 · rintro⟨g1,g2⟩;rw[h 2 (by omega) (by omega)] at g2;cases g2
theorem noSg_step {l:List UInt8} {k m:Nat} (h:NoSg l (k+1) m) (e:isSg (l.take (k+1))=false):NoSg l k m:=by
 intro j h1 h2;by_cases g:j=k+1
 · subst g;exact e
 · exact h j (by omega) h2
theorem zAY_1 {p:Prop} (h:p:=by
 go_wp2_with fail;go_ret;exact gives_eq (by rw[HR.out];rfl) zAY_3
 ):p:=h
theorem signsize_any (s:ByteArray) (w:World) (hs:s.size<=9223372036854775807):Calls Tryz.prog 151 #[.string s] w (Gives (.int .i64 ((sgN (bs s):Nat):Int)) w):=by
 have hs':(s.size:Int)<=9223372036854775807:=by omega
 obtain⟨M,hM⟩:∃M,min 2 s.size=M:=⟨_,rfl⟩
 have hM2:M<=2:=by omega
 have hMs:(M:Int)<=(s.size:Int):=by omega
 have hmin:∀(ts:Array TypeId) (t:TypeId) (W:World),(Builtin.min_ ts t #[.int .i64 2,.int .i64 (s.size:Int)]).run Tryz.prog W=.ok (.int .i64 (M:Int)) W:=fun ts t W=>by
  rw[run_min_int2]
  congr 2
  split <;> omega
 have HM:Hid (min 2 (bs s).length=M):=hid (by rw[bs_len];exact hM);clear hM;go_enter Tryz.func151,Tryz.ntmps151;go_wp2_with fail;go_loop [3] (fun i=>∃k:Nat,k<=M/\i=.int .i64 (k:Nat)/\Hid (NoSg (bs s) k M)) (fun i=>(intOf i).toNat)
 case atStart=>exact⟨M,Nat.le_refl _,rfl,hid fun j h1 h2=>by omega⟩
 case round=>
  obtain⟨k,hk,rfl,HN⟩:=hrel
  cases k with
  | zero=>
   have HR:=hid (sgN_miss (by rw[HM.out];exact HN.out));exact zAY_1
  | succ k=>
   have c1:(0:Int)<((k+1:Nat):Int):=by omega
   have c2:((k+1:Nat):Int)<=(s.size:Int):=by omega
   have c3:((k+1:Nat):Int)-1=(k:Int):=by omega
   have hx:=head_mk s (k+1);have HY:=hid (fun e=>sgN_hit (k:=k+1) (Nat.succ_pos k) (by rw[HM.out];exact hk) (by rw[HM.out];exact HN.out) e);have HZ:=hid (fun e=>noSg_step HN.out e);obtain⟨K,hK⟩:∃K:Nat,k+1=K:=⟨_,rfl⟩
   have I1:=sign_any (s.extract 0 K) w;rw[hK] at c1 c2 c3 hx HY HZ hk;rw[hK];rw[hx,bs_mk,← hx] at I1;have hK1:(K:Int)-1=(k:Int):=c3;obtain⟨b,hb⟩:∃b,isSg ((bs s).take K)=b:=⟨_,rfl⟩
   rw[hb] at I1 HY HZ;clear hx hb HN
   cases b with
   | true=>
    have HR:=hid (HY.out rfl);clear HY HZ;go_wp2_with fail;refine I1.mono ?_;rintro e w1 ⟨rfl,rfl⟩;exact zAY_1
   | false=>
    have HN2:=hid (HZ.out rfl);clear HY HZ;go_wp2_with fail;refine I1.mono ?_;rintro e w1 ⟨rfl,rfl⟩;go_wp2_with fail;go_round
    case rel=>exact⟨k,by omega,by go_num,HN2⟩
    case measure=>simp[intOf];omega
theorem num_eq {s:ByteArray} {v:Int}:num v=s↔bs s=Lib.itoa v:=by
 constructor
 · rintro rfl;rfl
 · intro h;exact(bs_inj (a:=s) (b:=num v) h).symm
theorem zAY_2 {p:Prop} (h:p:=by
 go_enter Tryz.func150,Tryz.ntmps150;go_wp2_with fail;refine I1.mono ?_;rintro e w1 ⟨rfl,hb1⟩;go_wp2_with fail;go_ret2
 exact⟨rfl,hb1⟩
 ):p:=h
theorem number_yes {s:ByteArray} {v:Int} (h:numO (bs s)=some v) (w:World) (hE:Env w):Calls Tryz.prog 150 #[.string s] w (Gives (.tuple #[.int .i64 v,.bool true]) w):=by
 obtain⟨h0,h1,h2⟩:=numO_some.1 h;have e:=num_eq.2 h2;have I1:=parse_yes v (by omega) h1 w hE;rw[e] at I1;have c:decide (v<0)=false:=decide_eq_false (by omega);clear h h2 e hE;exact zAY_2
theorem number_no {s:ByteArray} (h:numO (bs s)=none) (hs:s.size<=140737488355328) (w:World) (hE:Env w):Calls Tryz.prog 150 #[.string s] w (Gives (.tuple #[.int .i64 0,.bool false]) w):=by
 by_cases hv:∃v,inB v=true/\num v=s
 · obtain⟨v,hv,e⟩:=hv;obtain⟨h0,h1⟩:=inB_true hv;have hneg:v<0:=by
    rcases Int.lt_or_le v 0 with g|g
    · exact g
    · exact absurd (num_eq.1 e) (numO_none.1 h v g h1)
   have I1:=parse_yes v h0 h1 w hE;rw[e] at I1;have c:decide (v<0)=true:=decide_eq_true hneg;clear h e hE hv;exact zAY_2
 · have I1:=parse_no s hs (fun v hi e=>hv ⟨v,hi,e⟩) w hE;clear h hE hv;exact zAY_2
theorem fst_word {l:List UInt8} {k:Nat} (h:wdN l=k) (hk:0<k):fstO l=some (⟨1,mkS (l.take k),0,0⟩,k):=by
 unfold wdN at h;unfold fstO;by_cases h1:spn ltrC l=0
 · rw[if_pos h1] at h;omega
 · rw[if_neg h1] at h ⊢; rw[h]
theorem wd_zero {l:List UInt8} (h:wdN l=0):spn ltrC l=0:=by
 unfold wdN at h;by_cases h1:spn ltrC l=0
 · exact h1
 · rw[if_neg h1] at h;obtain⟨c,t,rfl,hc⟩:=spn_pos h1;have:=spn_one (p:=wrdC) (t:=t) (wrd_ltr hc);omega
theorem fst_num {l:List UInt8} {k:Nat} {v:Int} (h:wdN l=0) (h2:spn digC l=k) (hk:0<k) (e:numO (l.take k)=some v):fstO l=some (⟨2,mt,v,0⟩,k):=by
 unfold fstO;rw[if_pos (wd_zero h),h2,if_neg (by omega),e]
theorem fst_numno {l:List UInt8} {k:Nat} (h:wdN l=0) (h2:spn digC l=k) (hk:0<k) (e:numO (l.take k)=none):fstO l=none:=by
 unfold fstO;rw[if_pos (wd_zero h),h2,if_neg (by omega),e]
theorem fst_sign {l:List UInt8} {k:Nat} (h:wdN l=0) (h2:spn digC l=0) (h3:sgN l=k):fstO l=if k=0 then none else some (⟨3,mkS (l.take k),0,0⟩,k):=by
 unfold fstO;rw[if_pos (wd_zero h),if_pos h2];unfold sgN at h3;by_cases g1:2<=l.length/\isSg (l.take 2)=true
 · rw[if_pos g1] at h3 ⊢;subst h3;rw[if_neg (by decide)]
 · rw[if_neg g1] at h3 ⊢;by_cases g2:isSg (l.take 1)=true
   · rw[if_pos g2] at h3 ⊢;subst h3;rw[if_neg (by decide)]
   · rw[if_neg g2] at h3 ⊢;subst h3;rw[if_pos rfl]
def Fst (o:Option (Tk×Nat)) (w:World) (e:Ending) (w':World):Prop:=
 ∃(x:Tk) (k:Nat),e=.returned (.tuple #[.agg #[.int .i64 x.k,.string x.t,.int .i64 x.n,.int .i64 x.l],.int .i64 (k:Int)])/\Below w.heap.size w w'/\((o=some (x,k)/\0<k)∨(o=none/\k=0))
theorem fst_mk {o:Option (Tk×Nat)} {w w':World} {e:Ending} (a:Int) (b:ByteArray) (c:Int) (d:Int) (k:Nat) (he:e=.returned (.tuple #[.agg #[.int .i64 a,.string b,.int .i64 c,.int .i64 d],.int .i64 (k:Int)])) (hb:Below w.heap.size w w') (h:(o=some (⟨a,b,c,d⟩,k)/\0<k)∨(o=none/\k=0)):Fst o w e w':=⟨⟨a,b,c,d⟩,k,he,hb,h⟩
def zb (w:World) (g:Nat):Prop:=w.cell? ⟨g,0,none⟩=some (.int .i64 0)/\w.cell? ⟨g,1,none⟩=some (.string ⟨#[]⟩)/\w.cell? ⟨g,2,none⟩=some (.int .i64 0)/\w.cell? ⟨g,3,none⟩=some (.int .i64 0)/\(∀o,w.frozen? ⟨g,o,none⟩=false)/\g<w.heap.size
theorem zb.new {w:World}:zb (w.alloc (.cells #[.int .i64 0,.string ⟨#[]⟩,.int .i64 0,.int .i64 0] 135)) w.heap.size:=by
 have h:=new4 (w:=w) (x:=⟨0,⟨#[]⟩,0,0⟩) (t:=135);exact⟨h.1,h.2.1,h.2.2.1,h.2.2.2,fun o=>frozen_of_row _ _ o _ _ (heap_alloc_new w _),by simp⟩
theorem zb.on {w w2:World} {g:Nat} (hb:Below w.heap.size w w2) (h:zb w g):zb w2 g:=by
 obtain⟨h0,h1,h2,h3,h4,h5⟩:=h;exact⟨(hb.cell (p:=⟨g,0,none⟩) h5).trans h0,(hb.cell (p:=⟨g,1,none⟩) h5).trans h1,(hb.cell (p:=⟨g,2,none⟩) h5).trans h2,(hb.cell (p:=⟨g,3,none⟩) h5).trans h3,fun o=>(hb.frozen (p:=⟨g,o,none⟩) h5).trans (h4 o),Nat.lt_of_lt_of_le h5 hb.size⟩
theorem zAY_4 {p:Prop} (h:p:=by simp[results,Tryz.results101,go_sem, *]):p:=h
set_option maxRecDepth 100000 in
theorem first_any (s:ByteArray) (w:World) (hs:s.size<=140737488355328) (hE:Env w):Calls Tryz.prog 101 #[.string s] w (Fst (fstO (bs s)) w):=by
 have hs1:s.size<=9223372036854775807:=by omega
 have hs':(s.size:Int)<=140737488355328:=by omega
 obtain⟨K,hK⟩:∃K,wdN (bs s)=K:=⟨_,rfl⟩
 have hKs:K<=s.size:=by
  rw[← hK,← bs_len];unfold wdN
  split
  · exact Nat.zero_le _
  · exact spn_le _ _
 have I1:=wordsize_at hK hs1 (w.alloc (.cells #[.int .i64 0,.string ⟨#[]⟩,.int .i64 0,.int .i64 0] 135));have Z:=zb.new (w:=w);have hB0:Below w.heap.size w (w.alloc (.cells #[.int .i64 0,.string ⟨#[]⟩,.int .i64 0,.int .i64 0] 135)):=bl_alloc (Below.refl _ _);have q0:(0:Int)<=(K:Int):=by omega
 have q1:(K:Int)<=(s.size:Int):=by omega
 by_cases h:0<K
 · have HF:=hid (fst_word hK h);have hx:=head_mk s K;rw[← hx] at HF;have q2:decide ((0:Int)<(K:Int))=true:=decide_eq_true (by omega);have HP:Hid (0<K):=hid h;clear hK hx h hKs hE;go_enter Tryz.func101,Tryz.ntmps101;go_wp2_with fail;refine I1.mono ?_;rintro e w1 ⟨rfl,hb1⟩;have Z1:=zb.on hb1 Z;obtain⟨z0,z1,z2,z3,z4,z5⟩:=Z1;clear Z;go_wp2_with fail;exact bodyPost_ret (v:=.tuple #[.agg #[.int .i64 1,.string (s.extract 0 K),.int .i64 0,.int .i64 0],.int .i64 (K:Int)]) zAY_4 rfl (fst_mk _ _ _ _ K rfl zAY_3 (.inl ⟨HF.out,HP.out⟩))
 · obtain rfl:K=0:=by omega
   obtain⟨D,hD⟩:∃D,spn digC (bs s)=D:=⟨_,rfl⟩
   have hDs:D<=s.size:=by rw[← hD,← bs_len];exact spn_le _ _
   have I2:=fun w1=>span_dig s w1 hs1;simp only[hD] at I2;have d0:(0:Int)<=(D:Int):=by omega
   have d1:(D:Int)<=(s.size:Int):=by omega
   by_cases g:0<D
   · have d2:decide ((0:Int)<(D:Int))=true:=decide_eq_true (by omega);have hx:=head_mk s D;have hxs:(s.extract 0 D).size<=140737488355328:=by rw[ByteArray.size_extract];omega
     have hxb:bs (s.extract 0 D)=(bs s).take D:=by rw[hx,bs_mk]
     cases hv:numO ((bs s).take D) with
     | some v=>
      have HF:=hid (fst_num hK hD g hv);have HP:=hid g;have I3:=fun w1 hE=>number_yes (s:=s.extract 0 D) (v:=v) (by rw[hxb];exact hv) w1 hE;clear hK hD hx hxs hxb hv h;have I3':=hid fun w1 (hb:Below w.heap.size w w1)=>I3 w1 (hE.below hb);clear I3 hE;go_enter Tryz.func101,Tryz.ntmps101;go_wp2_with fail;refine I1.mono ?_;rintro e w1 ⟨rfl,hb1⟩;have Z1:=zb.on hb1 Z;clear Z;go_wp2_with fail;refine(I2 w1).mono ?_;rintro e w2 ⟨rfl,hb2⟩;have Z2:=zb.on hb2 Z1;clear Z1;go_wp2_with fail;refine(I3'.out w2 zAY_3).mono ?_;rintro e w3 ⟨rfl,hb3⟩;have Z3:=zb.on hb3 Z2;clear Z2;obtain⟨z0,z1,z2,z3,z4,z5⟩:=Z3;go_wp2_with fail;exact bodyPost_ret (v:=.tuple #[.agg #[.int .i64 2,.string (⟨#[]⟩),.int .i64 v,.int .i64 0],.int .i64 (D:Int)]) zAY_4 rfl (fst_mk _ _ _ _ D rfl zAY_3 (.inl ⟨HF.out,HP.out⟩))
     | none=>
      have HF:=hid (fst_numno hK hD g hv);have I3:=fun w1 hE=>number_no (s:=s.extract 0 D) (by rw[hxb];exact hv) hxs w1 hE;clear hK hD hx hxs hxb hv h;have I3':=hid fun w1 (hb:Below w.heap.size w w1)=>I3 w1 (hE.below hb);clear I3 hE;go_enter Tryz.func101,Tryz.ntmps101;go_wp2_with fail;refine I1.mono ?_;rintro e w1 ⟨rfl,hb1⟩;have Z1:=zb.on hb1 Z;clear Z;go_wp2_with fail;refine(I2 w1).mono ?_;rintro e w2 ⟨rfl,hb2⟩;have Z2:=zb.on hb2 Z1;clear Z1;go_wp2_with fail;refine(I3'.out w2 zAY_3).mono ?_;rintro e w3 ⟨rfl,hb3⟩;have Z3:=zb.on hb3 Z2;clear Z2;obtain⟨z0,z1,z2,z3,z4,z5⟩:=Z3;go_wp2_with fail;exact bodyPost_ret (v:=.tuple #[.agg #[.int .i64 0,.string (⟨#[]⟩),.int .i64 0,.int .i64 0],.int .i64 0]) zAY_4 rfl (fst_mk _ _ _ _ 0 rfl zAY_3 (.inr ⟨HF.out,rfl⟩))
   · obtain rfl:D=0:=by omega
     obtain⟨G,hG⟩:∃G,sgN (bs s)=G:=⟨_,rfl⟩
     have hGs:G<=s.size:=by
      rw[← hG,← bs_len];unfold sgN
      split
      · omega
      · split
        · rename_i g2
          have:=isSg_len g2;rw[List.length_take] at this;omega
        · omega
     have HF:=fst_sign hK hD hG;have hx:=head_mk s G;rw[← hx] at HF;have HF':=hid HF;have I3:=fun w1=>signsize_any s w1 hs1;simp only[hG] at I3;have g0:(0:Int)<=(G:Int):=by omega
     have g1:(G:Int)<=(s.size:Int):=by omega
     clear hK hD hG hx HF g h hE hGs;go_enter Tryz.func101,Tryz.ntmps101;go_wp2_with fail;refine I1.mono ?_;rintro e w1 ⟨rfl,hb1⟩;have Z1:=zb.on hb1 Z;clear Z;go_wp2_with fail;refine(I2 w1).mono ?_;rintro e w2 ⟨rfl,hb2⟩;have Z2:=zb.on hb2 Z1;clear Z1;go_wp2_with fail;refine(I3 w2).mono ?_;rintro e w3 ⟨rfl,hb3⟩;have Z3:=zb.on hb3 Z2;clear Z2;obtain⟨z0,z1,z2,z3,z4,z5⟩:=Z3;go_wp2_with fail;exact bodyPost_ret (v:=.tuple #[.agg #[.int .i64 3,.string (s.extract 0 G),.int .i64 0,.int .i64 0],.int .i64 (G:Int)]) zAY_4 rfl (fst_mk _ _ _ _ G rfl zAY_3 (by
      have h:=HF'.out;by_cases e:G=0
      · rw[if_pos e] at h;exact .inr ⟨h,e⟩
      · rw[if_neg e] at h;exact .inl ⟨h,by omega⟩))
end Go.Proofs.YtbgodajefaahdaaGreatDoor.Lx
namespace Go.Proofs.YtbgodajefaahdaaGreatDoor.Lx
open Go.Proofs.YtbgodajefaahdaaGreatDoor.Nu
open Go.RowKit
set_option maxHeartbeats 2000000
def fmB (x:Tk):Bool:=if x.k=1 then isWd (bs x.t)&&decide (x.n=0) else if x.k=2 then decide (x.t.size=0)&&(decide (0<=x.n)&&decide (x.n<=1000000000000)) else if x.k=3 then isSg (bs x.t)&&decide (x.n=0) else decide (x.n=0)&&decide (x.t.size=0)
def box4 (w':World) (g:Nat) (k:Int) (t:ByteArray) (n ln:Int):Prop:=w'.cell? ⟨g,0,none⟩=some (.int .i64 k)/\w'.cell? ⟨g,1,none⟩=some (.string t)/\w'.cell? ⟨g,2,none⟩=some (.int .i64 n)/\w'.cell? ⟨g,3,none⟩=some (.int .i64 ln)
theorem box4.new {w:World} {k:Int} {t:ByteArray} {n ln:Int}:box4 (w.alloc (.cells #[.int .i64 k,.string t,.int .i64 n,.int .i64 ln] 135)) w.heap.size k t n ln:=by
 have h:=new4 (w:=w) (x:=⟨k,t,n,ln⟩) (t:=135);exact⟨h.1,h.2.1,h.2.2.1,h.2.2.2⟩
theorem box4.on {w w2:World} {g:Nat} {k:Int} {t:ByteArray} {n ln:Int} (hb:Below w.heap.size w w2) (hg:g<w.heap.size) (h:box4 w g k t n ln):box4 w2 g k t n ln:=by
 obtain⟨h0,h1,h2,h3⟩:=h;exact⟨(hb.cell (p:=⟨g,0,none⟩) hg).trans h0,(hb.cell (p:=⟨g,1,none⟩) hg).trans h1,(hb.cell (p:=⟨g,2,none⟩) hg).trans h2,(hb.cell (p:=⟨g,3,none⟩) hg).trans h3⟩
theorem box4.drew {w:World} {g:Nat} {k:Int} {t:ByteArray} {n ln:Int} (h:box4 w g k t n ln):box4 w.drew g k t n ln:=h
theorem box4.keep {w':World} {g:Nat} {k:Int} {t:ByteArray} {n ln:Int} (h:box4 w' g k t n ln):w'.cell? ⟨g,0,none⟩=some (.int .i64 k)/\w'.cell? ⟨g,1,none⟩=some (.string t)/\w'.cell? ⟨g,2,none⟩=some (.int .i64 n)/\w'.cell? ⟨g,3,none⟩=some (.int .i64 ln):=h
end Go.Proofs.YtbgodajefaahdaaGreatDoor.Lx
namespace Go.Proofs.YtbgodajefaahdaaGreatDoor.Lx
open Go.Proofs.YtbgodajefaahdaaGreatDoor.Nu
open Go.RowKit
set_option maxHeartbeats 2000000
theorem opn_snoc (m:List Tk) (x:Tk):opn (m++[x])=decide (x.k≠4):=by unfold opn;rw[List.getLast?_concat]
theorem endL_line (m:List Tk) (x:Tk) (n:Nat) (h:x.k=4):endL (m++[x]) n=m++[x]:=by unfold endL;rw[opn_snoc,if_neg (by simp[h])]
theorem endL_open (m:List Tk) (x:Tk) (n:Nat) (h:¬x.k=4):endL (m++[x]) n=m++[x]++[⟨4,mt,0,(n:Int)⟩]:=by unfold endL;rw[opn_snoc,if_pos (by simp[h])]
theorem endL_len (a:List Tk) (n:Nat):(endL a n).length<=a.length+1:=by
 unfold endL
 split
 · simp
 · omega
def Grew (lo:Nat) (v:Value) (l:List Tk) (w:World) (e:Ending) (w':World):Prop:=∃v',e=.returned v'/\Own lo w' v' l/\w.grownBy w' v.ownBlock
theorem Grew.same {lo:Nat} {v:Value} {l:List Tk} {w:World} (h:Own lo w v l):Grew lo v l w (.returned v) w:=⟨v,rfl,h,⟨rfl,rfl,rfl,Nat.le_refl _,fun _ _ _=>rfl⟩⟩
theorem grown_alloc {w w':World} {o:Obj} {row:Option Nat} (h:(w.alloc o).grownBy w' row):w.grownBy w' row:=((World.grownBy_alloc w o none).but row).trans h
set_option maxRecDepth 100000 in
theorem endline_any {lo:Nat} {v:Value} {l:List Tk} (n:Nat) (w:World) (ho:Own lo w v l) (hlo:lo<=w.heap.size) (hl:l.length<=1000000):Calls Tryz.prog 56 #[v,.int .i64 (n:Int)] w (Grew lo v (endL l n) w):=by
 obtain⟨p,c,rfl,hT,hc,hp⟩:=own_toks ho;rcases List.eq_nil_or_concat l with rfl|⟨m,x,rfl⟩
 · have HG:=hid (Grew.same ho);clear hT hp ho;go_enter Tryz.func56,Tryz.ntmps56;go_wp2_with fail;go_ret;exact HG.out
 · rw[List.concat_eq_append] at *
   obtain⟨-,-,h0|⟨b,o,rfl,hb,hcell⟩⟩:=hT
   · rw[List.length_append] at h0;simp at h0
   · have hx:=hcell.out m.length (by simp);rw[List.getElem_concat_length rfl] at hx;have e1:=hx.1;obtain⟨N,hN⟩:∃N,(m++[x]).length=N:=⟨_,rfl⟩
     have hN1:m.length+1=N:=by rw[← hN,List.length_append];rfl
     have ho':=ho;have hl':=hl;rw[hN] at hc hl;obtain⟨M,hM⟩:∃M,m.length=M:=⟨_,rfl⟩
     rw[hM] at e1 hN1;have c0:((N:Int)==0)=false:=by rw[beq_eq_false_iff_ne];omega
     have c1:(N:Int)-1=(M:Int):=by omega
     have c2:(0:Int)<=(M:Int):=by omega
     have c3:(M:Int)<(N:Int):=by omega
     by_cases hk:x.k=4
     · rw[hk] at e1;have HG:Hid (Grew lo _ (endL (m++[x]) n) w _ w):=hid (by rw[endL_line m x n hk];exact Grew.same ho);rw[hN] at HG;rw[hN];clear ho ho' hx hcell hN hM hp hk;go_enter Tryz.func56,Tryz.ntmps56;go_wp2_with fail;go_ret;exact HG.out
     · have q1:(x.k==4)=false:=beq_eq_false_iff_ne.2 hk;have hB:Below w.heap.size w (w.alloc (.cells #[.int .i64 4,.string ⟨#[]⟩,.int .i64 0,.int .i64 (n:Int)] 135)):=bl_alloc (Below.refl _ _);obtain⟨v2,w2,hrun,ho2,hg2⟩:=append_tok (own_below ho hB) (by simp) (new4 (w:=w) (x:=⟨4,mt,0,(n:Int)⟩) (t:=135)) hl' (by have:=hB.size;omega);have HG:Hid (Grew lo _ (endL (m++[x]) n) w (.returned v2) w2):=hid (by rw[endL_open m x n hk];exact⟨v2,rfl,ho2,grown_alloc hg2⟩);rw[hN] at HG hrun;rw[hN];clear ho ho' hx hcell hN hM hp hk ho2 hg2 hB;go_enter Tryz.func56,Tryz.ntmps56;go_wp2_with (at_builtin;refine Lib.wpList_append_run _ rfl _ _ _ _ rfl _ _ rfl rfl _ _ hrun ?_)
       go_ret;exact HG.out
end Go.Proofs.YtbgodajefaahdaaGreatDoor.Lx
namespace Go.Proofs.YtbgodajefaahdaaGreatDoor.Lx
open Go.Proofs.YtbgodajefaahdaaGreatDoor.Nu
open Go.RowKit
set_option maxHeartbeats 2000000
def plB (bk xk:Int) (last:Bool):Bool:=if xk=4 then !decide (bk=4) else if xk=0 then decide (bk=4)&&last else true
def orB (first:Bool) (bk bl xk xl:Int):Bool:=if first=true then decide (1<=xl) else if ¬bk=4 then decide (xl=bl) else if xk=0 then decide (bl<=xl) else decide (bl<xl)
def chkA (first:Bool) (b x:Tk) (last:Bool):Int:=
 if x.k<0∨4<x.k then 1 else if (fmB x&&plB b.k x.k last)=false then 8 else if orB first b.k b.l x.k x.l=false then 12 else 0
def bef (l:List Tk) (k:Nat):Tk:=if k=0 then ⟨4,mt,0,0⟩ else l.getD (k-1) ⟨4,mt,0,0⟩
theorem bef_succ {l:List Tk} {j:Nat} (h:j<l.length):bef l (j+1)=l[j]:=by
 unfold bef;rw[if_neg (by omega),Nat.add_sub_cancel];simp[List.getD,List.getElem?_eq_getElem h]
def chkK (l:List Tk) (k:Nat):Int:=chkA (decide (k=0)) (bef l k) (l.getD k ⟨4,mt,0,0⟩) (decide (k+1=l.length))
theorem getD_at {l:List Tk} {k:Nat} (h:k<l.length):l.getD k ⟨4,mt,0,0⟩=l[k]:=by simp[List.getD,List.getElem?_eq_getElem h]
def orF (V:Nat->Int):Nat->Int
 | 0=>0
 | n+1=>if orF V n=0 then V n else orF V n
theorem orF_iff {V:Nat->Int} {n:Nat}:orF V n=0 ↔ ∀i,i<n->V i=0:=by
 induction n with
 | zero=>exact⟨fun _ i hi=>absurd hi (Nat.not_lt_zero _),fun _=>rfl⟩
 | succ m ih=>
  show(if orF V m=0 then V m else orF V m)=0↔_
  constructor
  · intro h
    split at h
    · rename_i h0
      intro i hi;by_cases e:i=m
      · subst e;exact h
      · exact ih.1 h0 i (by omega)
    · rename_i h0;exact absurd h h0
  · intro h;rw[if_pos (ih.2 fun i hi=>h i (by omega))];exact h m (by omega)
def chkL (l:List Tk):Int:=if orF (chkK l) l.length=0 then (if (bef l l.length).k=0 then 0 else 8) else orF (chkK l) l.length
end Go.Proofs.YtbgodajefaahdaaGreatDoor.Lx
namespace Go.Proofs.YtbgodajefaahdaaGreatDoor.Lx
open Go.Proofs.YtbgodajefaahdaaGreatDoor.Nu
open Go.RowKit
set_option maxHeartbeats 8000000
def bx (w':World) (g:Nat) (x:Tk):Prop:=w'.cell? ⟨g,0,none⟩=some (.int .i64 x.k)/\w'.cell? ⟨g,1,none⟩=some (.string x.t)/\w'.cell? ⟨g,2,none⟩=some (.int .i64 x.n)/\w'.cell? ⟨g,3,none⟩=some (.int .i64 x.l)/\(∀o,w'.frozen? ⟨g,o,none⟩=false)/\g<w'.heap.size
theorem bx.new {w:World} {x:Tk}:bx (w.alloc (.cells #[.int .i64 x.k,.string x.t,.int .i64 x.n,.int .i64 x.l] 135)) w.heap.size x:=by
 have h:=new4 (w:=w) (x:=x) (t:=135);exact⟨h.1,h.2.1,h.2.2.1,h.2.2.2,fun o=>frozen_of_row _ _ o _ _ (heap_alloc_new w _),by simp⟩
theorem bx.on {w w2:World} {g:Nat} {x:Tk} (hb:Below w.heap.size w w2) (h:bx w g x):bx w2 g x:=by
 obtain⟨h0,h1,h2,h3,h4,h5⟩:=h;exact⟨(hb.cell (p:=⟨g,0,none⟩) h5).trans h0,(hb.cell (p:=⟨g,1,none⟩) h5).trans h1,(hb.cell (p:=⟨g,2,none⟩) h5).trans h2,(hb.cell (p:=⟨g,3,none⟩) h5).trans h3,fun o=>(hb.frozen (p:=⟨g,o,none⟩) h5).trans (h4 o),Nat.lt_of_lt_of_le h5 hb.size⟩
end Go.Proofs.YtbgodajefaahdaaGreatDoor.Lx
