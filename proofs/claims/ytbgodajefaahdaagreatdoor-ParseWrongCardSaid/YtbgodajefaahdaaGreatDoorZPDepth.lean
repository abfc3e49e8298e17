/-
  Parts of this proof: The contract of Depth. The contracts of the small functions of the prog. The contract of checkNode.
-/
import Derived.Test.YtbgodajefaahdaaGreatDoorZPBase
import Derived.Laws.Cover1
import Derived.Test.YtbgodajefaahdaaGreatDoorZTEat
set_option linter.unusedVariables false
open Go.Lib (hid)
namespace Go.Proofs.YtbgodajefaahdaaGreatDoor.Sm
open Go.RowKit
open Go.Proofs.YtbgodajefaahdaaGreatDoor.Ex (Gives)
attribute [local go_sem] cs0 cs1 cs2 cs3 cs4 cs5 cs6 cs7 cs8 cs9 cs10 cs11 cs12 cs13 cs14 cs15 cs16 cs17 cs18 cs19 cs20
set_option maxHeartbeats 1000000
theorem keep2 {w':World} {g:Nat} {x:St} {P:Pl} (h:box21 w' g x P):w'.cell? ⟨g,19,none⟩=some (.slice P.bp P.bm P.bc)/\w'.cell? ⟨g,20,none⟩=some (.slice P.lp P.lm P.lc):=⟨h.c19,h.c20⟩
set_option maxRecDepth 100000 in
theorem depth_any (sl:List St):∀(p:Option Addr) (m c:Nat) (w:World),LIn w sl p m->cnL sl<=4000000->Calls Tryz.prog 43 #[.slice p m c] w (Gives (.int .i64 (dpL sl:Nat)) w):=by
 induction sl using lst_ind with
 | h sl ih=>
  intro p m c w h hc;have HH:=hid h;have HI:=hid ih;obtain⟨hl,hm⟩:=h.len;have HL:=hid hl;have HC:=hid hc;clear ih h hl hc;rcases Nat.eq_zero_or_pos m with h0|h0
  · have hz:sl=[]:=List.length_eq_zero_iff.1 (by rw[HL.out,h0]);subst h0;rw[show dpL sl=0 by rw[hz,dpL]];clear hz;go_enter Tryz.func43,Tryz.ntmps43;go_wp2_with fail;go_ret;exact⟨rfl,bl⟩
  have hd:=dpL_inL (l:=sl) (by rw[HL.out];exact h0);rw[hd];clear hd;have t0:((m:Int)==0)=false:=beq_eq_false_iff_ne.2 (by omega);obtain⟨n21,hn21⟩:∃n:Nat,21=n:=⟨_,rfl⟩
  have hsz:∀w,(sizeOf 60).run Tryz.prog w=.ok n21 w:=fun w=>by rw[Tryz.sizeOf60,hn21]
  have HN21:=hid hn21;clear hn21;go_enter Tryz.func43,Tryz.ntmps43;go_wp2_with fail;go_loopw [3,11] (fun d i wr=>∃k:Nat,k<=m/\d=.int .i64 (inL (sl.take k):Nat)/\i=.int .i64 (k:Nat)/\Hid (Below w.heap.size w wr)) (fun d i _=>m-(intOf i).toNat)
  case atStart=>exact⟨0,Nat.zero_le _,rfl,rfl,hid bl⟩
  case round=>
   obtain⟨k,hk,rfl,rfl,HW⟩:=hrel;have k0:(0:Int)<=(k:Int):=by omega
   rcases Nat.lt_or_ge k m with h|h
   · have k1:(k:Int)<(m:Int):=by omega
     obtain⟨b,o',rfl,-,hG,hcell⟩:=HH.out.rows (by omega);have hkl:k<sl.length:=by rw[HL.out];omega
     obtain⟨P,hc21,hsin⟩:=hcell.out k hkl;have hmem:sl[k]∈sl:=List.getElem_mem hkl;have hgx:sl[k]?=some sl[k]:=List.getElem?_eq_getElem hkl;obtain⟨x,hx⟩:∃x,sl[k]=x:=⟨_,rfl⟩
     rw[hx] at hc21 hsin hmem hgx;have HSIN:=hid hsin;have HX:=hid hgx;have HM:=hid hmem;have hcw:=(hc21.on HW.out hG).at HN21.out;have hbr:b<wr.heap.size:=Nat.lt_of_lt_of_le hG HW.out.size;have hcsz:(cs x P).size=n21:=HN21.out;have ld1:=(hcw).ldN HN21.out;have ld2:=(hcw).loadVar;have ld3:=(hcw).loadAt;have st1:=st_store x P;have st2:=st_storeVar x P;have st3:=st_storeAt x P;have HCW:=hid hcw;clear hcell hc21 hsin hx hmem hgx hkl hcw;have d1:=inL_cap sl k;have HK:=hid (inL_take HX.out);obtain⟨i1,i2⟩:=HI.out x HM.out;have d2:=cn_mem HM.out;rw[cn_one] at d2;have c1:=dpL_le_cnL x.bo;have c2:=dpL_le_cnL x.el;obtain⟨D,hD⟩:∃D,inL (sl.take k)=D:=⟨_,rfl⟩
     obtain⟨E,hE⟩:∃E,dpL x.bo=E:=⟨_,rfl⟩
     obtain⟨F,hF⟩:∃F,dpL x.el=F:=⟨_,rfl⟩
     have hcc:=HC.out;have F1:=hid (fun W hi=>i1 P.bp P.bm P.bc W hi (by omega));have F2:=hid (fun W hi=>i2 P.lp P.lm P.lc W hi (by omega));rw[hD] at d1 HK ⊢;rw[hE] at c1 HK F1;rw[hF] at c2 HK F2;have d3:D<=4000000:=by omega
     have d4:E<=4000000:=by omega
     have d5:F<=4000000:=by omega
     clear hD hE hF i1 i2 c1 c2 d1 d2 hcc;have HBX:Hid (∀W,Below (wr.alloc (.cells (cs x P) 60)).heap.size (wr.alloc (.cells (cs x P) 60)) W->box21 W wr.heap.size x P):=hid fun W hb=>box_new21.on hb;obtain⟨M,hM⟩:∃M,max D (max E F)=M:=⟨_,rfl⟩
     have hmx:∀(ts:Array TypeId) (t:TypeId) (W:World),(Builtin.max_ ts t #[.int .i64 (D:Int),.int .i64 (E:Int),.int .i64 (F:Int)]).run Tryz.prog W=.ok (.int .i64 (M:Int)) W:=fun ts t W=>by
      rw[run_max_int3]
      congr 2
      rw[← hM]
      split <;> split at * <;> omega
     rw[hM] at HK;have hM2:M<=4000000:=by omega
     clear hM d3 d4 d5;go_wp2_with fail;go_region_held3 (fun w'=>w'.cell? ⟨wr.heap.size,19,none⟩=some (.slice P.bp P.bm P.bc)/\w'.cell? ⟨wr.heap.size,20,none⟩=some (.slice P.lp P.lm P.lc)) (first|(refine keep2 (HBX.out _ ?_);exact bl;done)|(go_keep;done)) (first|(have t:=hb1;go_at_call 43;refine(F2.out _ (HSIN.out.el.on (by have HBB:=HW.out;exact bl))).mono ?_;rintro e w2 ⟨rfl,hb2⟩)|(go_at_call 43;refine(F1.out _ (HSIN.out.bo.on (by have HBB:=HW.out;exact bl))).mono ?_;rintro e w1 ⟨rfl,hb1⟩))
     all_goals
      have HWz:Hid (Below w.heap.size w w2):=hid (by have HBB:=HW.out;exact bl);go_wp2_with fail;go_roundw
      case rel=>exact⟨k+1,by omega,by rw[HK.out],by go_num,HWz⟩
      case measure=>simp[intOf];omega
   · obtain rfl:m=k:=by omega
     have HT:Hid (sl.take m=sl):=hid (List.take_of_length_le (by rw[HL.out];exact Nat.le_refl _));have d1:=inL_cap sl m;have d2:=HC.out;rw[HT.out] at d1 ⊢;have d9:=inL_le sl;have d8:=dpL_le_cnL sl;obtain⟨D,hD⟩:∃D,inL sl=D:=⟨_,rfl⟩
     rw[hD] at d1 d9 ⊢;have d3:D<=4000000:=by omega
     have HD:=hid hD;clear hD d1 d2 d8 d9;go_wp2_with fail;go_ret;exact⟨by rw[HD.out];go_num,HW.out⟩
end Go.Proofs.YtbgodajefaahdaaGreatDoor.Sm
namespace Go.Proofs.YtbgodajefaahdaaGreatDoor.Ex
open Go.RowKit
set_option maxHeartbeats 1000000
set_option linter.unusedSimpArgs false
theorem zDP_2 {p:Prop} (h:p:=by
 go_wp2_with fail;go_ret;exact⟨rfl,rfl⟩
 ):p:=h
theorem in_any (n:Int) (w:World):Calls Tryz.prog 107 #[.int .i64 n] w fun e w'=>e=.returned (.bool (inI n))/\w'=w:=by
 unfold inI;by_cases h1:-1000000000000<=n
 · by_cases h2:n<=1000000000000
   · rw[decide_eq_true h1,decide_eq_true h2];go_enter Tryz.func107,Tryz.ntmps107;exact zDP_2
   · rw[decide_eq_true h1,decide_eq_false h2];have h3:1000000000000<n:=by omega
     go_enter Tryz.func107,Tryz.ntmps107;exact zDP_2
 · rw[decide_eq_false h1,Bool.false_and];have h3:n < -1000000000000:=by omega
   go_enter Tryz.func107,Tryz.ntmps107;exact zDP_2
def idx (n z:Int):Bool:=decide (0<=n)&&decide (n<z)
theorem index_any (n z:Int) (w:World):Calls Tryz.prog 176 #[.int .i64 n,.int .i64 z] w fun e w'=>e=.returned (.bool (idx n z))/\w'=w:=by
 unfold idx;by_cases h1:0<=n
 · by_cases h2:n<z
   · rw[decide_eq_true h1,decide_eq_true h2];go_enter Tryz.func176,Tryz.ntmps176;exact zDP_2
   · rw[decide_eq_true h1,decide_eq_false h2];have h3:z<=n:=by omega
     go_enter Tryz.func176,Tryz.ntmps176;exact zDP_2
 · rw[decide_eq_false h1,Bool.false_and];have h3:n<0:=by omega
   go_enter Tryz.func176,Tryz.ntmps176;exact zDP_2
def usK (o:Int):Int:=if 5<=o/\o<=8 then 1 else if 9<=o/\o<=21 then 2 else 0
theorem form_cases (o:Int):(o=1∨o=2∨o=3∨o=4∨o=5∨o=6∨o=7∨o=8∨o=9∨o=10∨o=11∨o=12∨o=13∨o=14∨o=15∨o=16∨o=17∨o=18∨o=19∨o=20∨o=21∨o=22∨o=23∨o=24∨o=25∨o=26)∨(o<1∨26<o):=by omega
def usN (c:Bool) (o:Int):Bool:=decide (o=3) || !c&&obj o
def usB (c:Bool) (o:Int):Bool:=decide (o=1)||decide (o=2)||c&&obj o||decide (o=25)||decide (o=26)
def usV (c:Bool) (o:Int):Value:=.tuple #[.agg #[.int .i64 (usK o),.bool (usN c o),.bool (usB c o)],.bool (known c o)]
theorem zDP_3 {p:Prop} (h:p:=by omega):p:=h
set_option maxRecDepth 100000 in
theorem usage_any (c:Bool) (o:Int) (w:World):Calls Tryz.prog 146 #[.int .i64 o,.bool c] w (Gives (usV c o) w):=by
 rcases form_cases o with h|h
 · rcases h with rfl|rfl|rfl|rfl|rfl|rfl|rfl|rfl|rfl|rfl|rfl|rfl|rfl|rfl|rfl|rfl|rfl|rfl|rfl|rfl|rfl|rfl|rfl|rfl|rfl|rfl
   all_goals
    cases c <;>
    · go_enter Tryz.func146,Tryz.ntmps146;go_wp2_with fail;exact bodyPost_ret (v:=usV _ _) (by simp[results,Tryz.results146,go_sem,usV,usK,usN,usB,known,ari,obj]) rfl ⟨rfl,bl⟩
 · have hk:known c o=false:=by unfold known ari;rw[if_pos h];rfl
   have hn:usN c o=false:=by unfold usN obj;rw[decide_eq_false (by omega:¬o=3)];rcases h with h|h <;> simp <;> omega
   have hc:usB c o=false:=by unfold usB obj;rcases h with h|h <;> simp <;> omega
   have hu:usK o=0:=by unfold usK;rw[if_neg zDP_3,if_neg zDP_3]
   have HV:Hid (usV c o=.tuple #[.agg #[.int .i64 0,.bool false,.bool false],.bool false]):=hid (by unfold usV;rw[hk,hn,hc,hu]);have t1:(o==1)=false:=beq_eq_false_iff_ne.2 zDP_3;have t2:(o==2)=false:=beq_eq_false_iff_ne.2 zDP_3;have t3:(o==3)=false:=beq_eq_false_iff_ne.2 zDP_3;have t4:(o==4)=false:=beq_eq_false_iff_ne.2 zDP_3;have t5:(o==5)=false:=beq_eq_false_iff_ne.2 zDP_3;have t6:(o==6)=false:=beq_eq_false_iff_ne.2 zDP_3;have t7:(o==7)=false:=beq_eq_false_iff_ne.2 zDP_3;have t8:(o==8)=false:=beq_eq_false_iff_ne.2 zDP_3;have t9:(o==9)=false:=beq_eq_false_iff_ne.2 zDP_3;have t10:(o==10)=false:=beq_eq_false_iff_ne.2 zDP_3;have t11:(o==11)=false:=beq_eq_false_iff_ne.2 zDP_3;have t12:(o==12)=false:=beq_eq_false_iff_ne.2 zDP_3;have t13:(o==13)=false:=beq_eq_false_iff_ne.2 zDP_3;have t14:(o==14)=false:=beq_eq_false_iff_ne.2 zDP_3;have t15:(o==15)=false:=beq_eq_false_iff_ne.2 zDP_3;have t16:(o==16)=false:=beq_eq_false_iff_ne.2 zDP_3;have t17:(o==17)=false:=beq_eq_false_iff_ne.2 zDP_3;have t18:(o==18)=false:=beq_eq_false_iff_ne.2 zDP_3;have t19:(o==19)=false:=beq_eq_false_iff_ne.2 zDP_3;have t20:(o==20)=false:=beq_eq_false_iff_ne.2 zDP_3;have t21:(o==21)=false:=beq_eq_false_iff_ne.2 zDP_3;have t22:(o==22)=false:=beq_eq_false_iff_ne.2 zDP_3;have t23:(o==23)=false:=beq_eq_false_iff_ne.2 zDP_3;have t24:(o==24)=false:=beq_eq_false_iff_ne.2 zDP_3;have t25:(o==25)=false:=beq_eq_false_iff_ne.2 zDP_3;have t26:(o==26)=false:=beq_eq_false_iff_ne.2 zDP_3;clear hk hn hc hu h;rw[HV.out];go_enter Tryz.func146,Tryz.ntmps146;go_wp2_with fail;exact bodyPost_ret (v:=.tuple #[.agg #[.int .i64 0,.bool false,.bool false],.bool false]) (by simp[results,Tryz.results146,go_sem]) rfl ⟨rfl,bl⟩
def rgV (o n:Int):Bool:=if o=1 then inI n else if o=2 then idx n 2 else if obj o then idx n 64 else if o=25 then idx n 16 else if o=26 then idx n 32 else true
theorem rg_else {o n:Int} (h1:¬o=1) (h2:¬o=2) (h3:¬o=22) (h4:¬o=23) (h5:¬o=24) (h6:¬o=25) (h7:¬o=26):rgV o n=true:=by
 unfold rgV;rw[if_neg h1,if_neg h2,if_neg (by unfold obj;simp;omega),if_neg h6,if_neg h7]
theorem zDP_0 {p:Prop} (h:p:=by
 rintro e w1 ⟨rfl,rfl⟩;go_wp2_with fail;go_ret;exact⟨rfl,bl⟩
 ):p:=h
theorem zDP_1 {p:Prop} (h:p:=by
 go_enter Tryz.func147,Tryz.ntmps147;go_wp2_with fail;refine(index_any n 64 _).mono ?_;exact zDP_0
 ):p:=h
set_option maxRecDepth 100000 in
theorem range_any (o:Int) (s:ByteArray) (n:Int) (p:Option Addr) (m c:Nat) (w:World):Calls Tryz.prog 147 #[.agg #[.int .i64 o,.string s,.int .i64 n,.slice p m c]] w (Gives (.bool (rgV o n)) w):=by
 by_cases h1:o=1
 · subst h1;go_enter Tryz.func147,Tryz.ntmps147;go_wp2_with fail;refine(in_any n _).mono ?_;exact zDP_0
 by_cases h2:o=2
 · subst h2;go_enter Tryz.func147,Tryz.ntmps147;go_wp2_with fail;refine(index_any n 2 _).mono ?_;exact zDP_0
 by_cases h3:o=22
 · subst h3;exact zDP_1
 by_cases h4:o=23
 · subst h4;exact zDP_1
 by_cases h5:o=24
 · subst h5;exact zDP_1
 by_cases h6:o=25
 · subst h6;go_enter Tryz.func147,Tryz.ntmps147;go_wp2_with fail;refine(index_any n 16 _).mono ?_;exact zDP_0
 by_cases h7:o=26
 · subst h7;go_enter Tryz.func147,Tryz.ntmps147;go_wp2_with fail;refine(index_any n 32 _).mono ?_;exact zDP_0
 rw[rg_else h1 h2 h3 h4 h5 h6 h7];have t1:(o==1)=false:=beq_eq_false_iff_ne.2 h1;have t2:(o==2)=false:=beq_eq_false_iff_ne.2 h2;have t3:(o==22)=false:=beq_eq_false_iff_ne.2 h3;have t4:(o==23)=false:=beq_eq_false_iff_ne.2 h4;have t5:(o==24)=false:=beq_eq_false_iff_ne.2 h5;have t6:(o==25)=false:=beq_eq_false_iff_ne.2 h6;have t7:(o==26)=false:=beq_eq_false_iff_ne.2 h7;clear h1 h2 h3 h4 h5 h6 h7;go_enter Tryz.func147,Tryz.ntmps147;go_wp2_with fail;go_ret;exact⟨rfl,bl⟩
theorem kids_ari {c:Bool} {o:Int} (h:known c o=true):ari o=usK o:=by
 unfold known at h;unfold ari at h ⊢;unfold usK;by_cases g:o<1∨26<o
 · rw[if_pos g] at h;cases h
 · rw[if_neg g]
theorem us_named {c:Bool} {o:Int} (h:known c o=true):usN c o=named c o:=by
 unfold known at h;unfold usN named;cases c
 · simp
 · by_cases g:o=3
   · subst g;revert h;decide
   · simp[g]
theorem us_numbered {c:Bool} {o:Int} (h:known c o=true):usB c o=numbered c o:=by
 unfold known at h;unfold usB numbered counted;cases c
 · have h2:o<=24:=by
    simp at h
    exact h.2
   have g1:¬o=25:=by omega
   have g2:¬o=26:=by omega
   simp[g1,g2]
 · simp[Bool.or_assoc]
theorem rg_bad {c:Bool} {o n:Int} {s:List UInt8} {m:Nat} (h:badF c o s n m=false):rgV o n = !badR c o n:=by
 unfold badF at h;simp only[Bool.or_eq_false_iff] at h;obtain⟨⟨⟨hk,-⟩,hn⟩,-⟩:=h;have hk:known c o=true:=by simpa using hk
 rcases form_cases o with h|h
 · rcases h with rfl|rfl|rfl|rfl|rfl|rfl|rfl|rfl|rfl|rfl|rfl|rfl|rfl|rfl|rfl|rfl|rfl|rfl|rfl|rfl|rfl|rfl|rfl|rfl|rfl|rfl
   all_goals cases c
   all_goals
    simp[known,ari,numbered,counted,obj,rgV,badR,idx,most] at hk hn ⊢
   all_goals first|done|(subst hn;decide)|(by_cases a1:0<=n <;> by_cases a2:n<2 <;> simp[a1,a2] <;> omega)|(by_cases a1:0<=n <;> by_cases a2:n<64 <;> simp[a1,a2] <;> omega)|(by_cases a1:0<=n <;> by_cases a2:n<16 <;> simp[a1,a2] <;> omega)|(by_cases a1:0<=n <;> by_cases a2:n<32 <;> simp[a1,a2] <;> omega)|trace_state
 · unfold known ari at hk;rw[if_pos h] at hk;cases hk
end Go.Proofs.YtbgodajefaahdaaGreatDoor.Ex
namespace Go.Proofs.YtbgodajefaahdaaGreatDoor.Ex
open Go.RowKit
open Go.Proofs.YtbgodajefaahdaaGreatDoor.Na (bs chk)
set_option maxHeartbeats 2000000
theorem nd_bad {c:Bool} {o n:Int} {s:List UInt8} {m:Nat} (h:badF c o s n m=true):nd c o s n m=1:=by unfold nd;rw[if_pos h]
theorem nd_one {c:Bool} {o n:Int} {s:List UInt8} {m:Nat} (h:known c o=false):nd c o s n m=1:=nd_bad (by unfold badF;rw[h];simp)
theorem nd_two {c:Bool} {o n:Int} {s:List UInt8} {m:Nat} (h:known c o=true) (g:¬(m:Int)=usK o):nd c o s n m=1:=nd_bad (by unfold badF;rw[kids_ari h,decide_eq_false g];simp)
theorem nd_three {c:Bool} {o n:Int} {s:List UInt8} {m:Nat} (h:known c o=true) (g:usN c o=false) (g2:¬s=[]):nd c o s n m=1:=nd_bad (by unfold badF;rw[← us_named h,g,decide_eq_false g2];simp)
theorem nd_four {c:Bool} {o n:Int} {s:List UInt8} {m:Nat} (h:known c o=true) (g:usB c o=false) (g2:¬n=0):nd c o s n m=1:=nd_bad (by unfold badF;rw[← us_numbered h,g,decide_eq_false g2];simp)
theorem nd_fair {c:Bool} {o n:Int} {s:List UInt8} {m:Nat} (h:known c o=true) (h1:(m:Int)=usK o) (h2:usN c o=true∨s=[]) (h3:usB c o=true∨n=0):nd c o s n m=if rgV o n=false then 2 else if usN c o=true then chk s else 0:=by
 have hf:badF c o s n m=false:=by
  unfold badF;rw[h,← us_named h,← us_numbered h,kids_ari h,decide_eq_true h1];rcases h2 with h2|h2 <;> rcases h3 with h3|h3 <;> simp[h2,h3]
 unfold nd;rw[if_neg (by rw[hf];decide),rg_bad hf,us_named h]
 cases badR c o n <;> simp
theorem emp_no {s:ByteArray} (h:¬bs s=[]):s.toList.isEmpty=false:=by
 rw[Lib.toList_data]
 show(bs s).isEmpty=false
 cases g:bs s with
 | nil=>exact absurd g h
 | cons x t=>rfl
theorem emp_yes {s:ByteArray} (h:bs s=[]):s.toList.isEmpty=true:=by
 rw[Lib.toList_data]
 show(bs s).isEmpty=true
 rw[h];rfl
theorem check_gives {s:ByteArray} {x:Int} (h:chk (bs s)=x) (hs:s.size<=9223372036854775807) (w:World):Calls Tryz.prog 35 #[.string s] w (Gives (.int .i64 x) w):=by rw[← h];exact Na.check_any s w hs
theorem usage_gives {c:Bool} {o K:Int} {a b kn:Bool} (h1:usK o=K) (h2:usN c o=a) (h3:usB c o=b) (h4:known c o=kn) (w:World):Calls Tryz.prog 146 #[.int .i64 o,.bool c] w (Gives (.tuple #[.agg #[.int .i64 K,.bool a,.bool b],.bool kn]) w):=by
 rw[← h1,← h2,← h3,← h4];exact usage_any c o w
theorem range_gives {o n:Int} {v:Bool} (h:rgV o n=v) (s:ByteArray) (p:Option Addr) (m c:Nat) (w:World):Calls Tryz.prog 147 #[.agg #[.int .i64 o,.string s,.int .i64 n,.slice p m c]] w (Gives (.bool v) w):=by
 rw[← h];exact range_any o s n p m c w
theorem zDQ_0 {p:Prop} (h:p:=by
 go_enter Tryz.func98,Tryz.ntmps98;go_wp2_with fail;refine(HU.out _).mono ?_;rintro e w1 ⟨rfl,hb1⟩;have q1:w.heap.size<w1.heap.size:=by have:=hb1.size;simp at this;omega
 have cc1:=(hb1.cell (p:=⟨w.heap.size,1,none⟩) (by simp)).trans box_new.2.1;have cc0:=(hb1.cell (p:=⟨w.heap.size,0,none⟩) (by simp)).trans box_new.1;have cc2:=(hb1.cell (p:=⟨w.heap.size,2,none⟩) (by simp)).trans box_new.2.2.1;have cc3:=(hb1.cell (p:=⟨w.heap.size,3,none⟩) (by simp)).trans box_new.2.2.2;go_wp2_with fail;go_ret;exact⟨rfl,bl⟩
 ):p:=h
theorem zDQ_1 {p:Prop} (h:p:=by
 go_enter Tryz.func98,Tryz.ntmps98;go_wp2_with fail;refine(HU.out _).mono ?_;rintro e w1 ⟨rfl,hb1⟩;have q1:w.heap.size<w1.heap.size:=by have:=hb1.size;simp at this;omega
 have cc1:=(hb1.cell (p:=⟨w.heap.size,1,none⟩) (by simp)).trans box_new.2.1;have cc0:=(hb1.cell (p:=⟨w.heap.size,0,none⟩) (by simp)).trans box_new.1;have cc2:=(hb1.cell (p:=⟨w.heap.size,2,none⟩) (by simp)).trans box_new.2.2.1;have cc3:=(hb1.cell (p:=⟨w.heap.size,3,none⟩) (by simp)).trans box_new.2.2.2;go_wp2_with fail;refine(HR.out _).mono ?_;rintro e w2 ⟨rfl,hb2⟩;go_wp2_with fail;go_ret;exact⟨rfl,bl⟩
 ):p:=h
theorem zDQ_2 {p:Prop} (h:p:=by
 clear hK ha hb hk h3 h4 key hv hx
 cases v with
 | false=>
  exact zDQ_1
 | true=>
  go_enter Tryz.func98,Tryz.ntmps98;go_wp2_with fail;refine(HU.out _).mono ?_;rintro e w1 ⟨rfl,hb1⟩;have q1:w.heap.size<w1.heap.size:=by have:=hb1.size;simp at this;omega
  have cc1:=(hb1.cell (p:=⟨w.heap.size,1,none⟩) (by simp)).trans box_new.2.1;have cc0:=(hb1.cell (p:=⟨w.heap.size,0,none⟩) (by simp)).trans box_new.1;have cc2:=(hb1.cell (p:=⟨w.heap.size,2,none⟩) (by simp)).trans box_new.2.2.1;have cc3:=(hb1.cell (p:=⟨w.heap.size,3,none⟩) (by simp)).trans box_new.2.2.2;go_wp2_with fail;refine(HR.out _).mono ?_;rintro e w2 ⟨rfl,hb2⟩;have q2:w1.heap.size<w2.heap.size:=by have:=hb2.size;simp at this;omega
  have dd1:w2.cell? ⟨w1.heap.size,1,none⟩=some (.bool true):=(hb2.cell (by simp)).trans (by simp);have dd2:w2.cell? ⟨w.heap.size,1,none⟩=some (.string s):=(hb2.cell (by simp;omega)).trans ((((Below.refl _ w1).alloc (Nat.le_refl _) _).cell (by simp;omega)).trans cc1);go_wp2_with fail;refine(HC.out _).mono ?_;rintro e w3 ⟨rfl,hb3⟩;go_wp2_with fail;go_ret;exact⟨rfl,bl⟩
 ):p:=h
theorem zDQ_3 {p:Prop} (h:p:=by
 clear hK ha hb hk h3 h4 key hv hx
 cases v with
 | false=>
  exact zDQ_1
 | true=>
  go_enter Tryz.func98,Tryz.ntmps98;go_wp2_with fail;refine(HU.out _).mono ?_;rintro e w1 ⟨rfl,hb1⟩;have q1:w.heap.size<w1.heap.size:=by have:=hb1.size;simp at this;omega
  have cc1:=(hb1.cell (p:=⟨w.heap.size,1,none⟩) (by simp)).trans box_new.2.1;have cc0:=(hb1.cell (p:=⟨w.heap.size,0,none⟩) (by simp)).trans box_new.1;have cc2:=(hb1.cell (p:=⟨w.heap.size,2,none⟩) (by simp)).trans box_new.2.2.1;have cc3:=(hb1.cell (p:=⟨w.heap.size,3,none⟩) (by simp)).trans box_new.2.2.2;go_wp2_with fail;refine(HR.out _).mono ?_;rintro e w2 ⟨rfl,hb2⟩;have q2:w1.heap.size<w2.heap.size:=by have:=hb2.size;simp at this;omega
  have dd1:w2.cell? ⟨w1.heap.size,1,none⟩=some (.bool false):=(hb2.cell (by simp)).trans (by simp);go_wp2_with fail;go_ret;exact⟨rfl,bl⟩
 ):p:=h
set_option maxRecDepth 100000 in
theorem cn_any (c:Bool) (o:Int) (s:ByteArray) (n:Int) (p:Option Addr) (m c':Nat) (w:World) (hs:s.size<=140737488355328):Calls Tryz.prog 98 #[.agg #[.int .i64 o,.string s,.int .i64 n,.slice p m c'],.bool c] w (Gives (.int .i64 (nd c o (bs s) n m)) w):=by
 obtain⟨K,hK⟩:∃K,usK o=K:=⟨_,rfl⟩
 obtain⟨a,ha⟩:∃a,usN c o=a:=⟨_,rfl⟩
 obtain⟨b,hb⟩:∃b,usB c o=b:=⟨_,rfl⟩
 obtain⟨kn,hk⟩:∃kn,known c o=kn:=⟨_,rfl⟩
 have HU:=hid (fun W=>usage_gives hK ha hb hk W)
 cases kn with
 | false=>
  rw[nd_one hk];clear hK ha hb hk;exact zDQ_0
 | true=>
  by_cases h1:(m:Int)=K
  · subst h1;have t1:((m:Int)==(m:Int))=true:=beq_self_eq_true _;have key:∀(aa:a=true∨bs s=[]) (bb:b=true∨n=0),nd c o (bs s) n m=if rgV o n=false then 2 else if usN c o=true then chk (bs s) else 0:=fun aa bb=>nd_fair hk hK.symm (by rw[ha];exact aa) (by rw[hb];exact bb)
    by_cases h3:a=false/\¬bs s=[]
    · rw[nd_three hk (by rw[ha];exact h3.1) h3.2];obtain⟨rfl,h3⟩:=h3;have t3:=emp_no h3;clear hK ha hb hk h3 key;exact zDQ_0
    · by_cases h4:b=false/\¬n=0
      · rw[nd_four hk (by rw[hb];exact h4.1) h4.2];obtain⟨rfl,h4⟩:=h4;have t4:(n==0)=false:=beq_eq_false_iff_ne.2 h4
        cases a with
        | true=>
         clear hK ha hb hk h3 h4 key;exact zDQ_0
        | false=>
         have t3:=emp_yes (s:=s) (Classical.byContradiction fun h=>h3 ⟨rfl,h⟩);clear hK ha hb hk h3 h4 key;exact zDQ_0
      · rw[key (by cases a with|true=>exact .inl rfl|false=>exact .inr (Classical.byContradiction fun h=>h3 ⟨rfl,h⟩)) (by cases b with|true=>exact .inl rfl|false=>exact .inr (Classical.byContradiction fun h=>h4 ⟨rfl,h⟩)),ha];obtain⟨v,hv⟩:∃v,rgV o n=v:=⟨_,rfl⟩
        have HR:=hid (fun W=>range_gives hv s p m c' W);have HC:=hid (fun W=>check_gives (s:=s) rfl (by omega) W);obtain⟨x,hx⟩:∃x,chk (bs s)=x:=⟨_,rfl⟩
        rw[hx] at HC ⊢;rw[hv]
        cases a with
        | true=>
         cases b with
         | true=>
          exact zDQ_2
         | false=>
          obtain rfl:n=0:=Classical.byContradiction fun h=>h4 ⟨rfl,h⟩;exact zDQ_2
        | false=>
         have t3:=emp_yes (s:=s) (Classical.byContradiction fun h=>h3 ⟨rfl,h⟩)
         cases b with
         | true=>
          exact zDQ_3
         | false=>
          obtain rfl:n=0:=Classical.byContradiction fun h=>h4 ⟨rfl,h⟩;exact zDQ_3
  · rw[nd_two hk (by rw[hK];exact h1)];have t1:((m:Int)==K)=false:=beq_eq_false_iff_ne.2 h1;have t2:((m:Int) != K)=true:=bne_iff_ne.2 h1;clear hK ha hb hk h1;exact zDQ_0
end Go.Proofs.YtbgodajefaahdaaGreatDoor.Ex
