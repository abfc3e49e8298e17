/-
  Parts of this proof: The contracts of Depth. The contracts of the small functions of the prog.
-/
import Derived.Test.YtbgodajefaahdaaGreatDoorYNuMath
set_option linter.unusedVariables false
open Go.Lib (hid)
namespace Go.Proofs.YtbgodajefaahdaaGreatDoor
namespace Ex
open Go.RowKit
set_option maxHeartbeats 1000000
theorem agb {p:Prop} (h:p:=by
 go_wp2_with fail;go_roundw
 case rel=>exact⟨k+1,by omega,by rw[HK.out];go_num,by go_num,HW2⟩
 case measure=>simp[intOf];omega
 ):p:=h
set_option maxRecDepth 100000 in
theorem SQ (e:Ex):∀(p:Option Addr) (m c:Nat) (w:World),In w e p m->cnt e<=1000000->Calls Tryz.prog 96 #[.agg #[.int .i64 e.o,.string e.s,.int .i64 e.n,.slice p m c]] w (Gives (.int .i64 (dep e:Nat)) w):=by
 induction e using Ex.ind with
 | h o s n l ih=>
  intro p m c w h hc;rw[NQ] at hc;have HH:=hid h;have HI:=hid ih;obtain⟨hl,hm⟩:=h.len;have HL:=hid hl;have HC:=hid hc;simp only[Ex.o,Ex.s,Ex.n];clear ih h hl hc;rw[SV];go_enter Tryz.func96,Tryz.ntmps96;go_wp2_with fail;go_loopw [3,9] (fun d i wr=>∃k:Nat,k<=m/\d=.int .i64 (l_ (l.take k):Nat)/\i=.int .i64 (k:Nat)/\Hid (Below w.heap.size w wr)) (fun d i _=>m-(intOf i).toNat)
  case atStart=>exact⟨0,Nat.zero_le _,rfl,rfl,hid bl⟩
  case round=>
   obtain⟨k,hk,rfl,rfl,HW⟩:=hrel;have k0:(0:Int)<=(k:Int):=by omega
   rcases Nat.lt_or_ge k m with h|h
   · have k1:(k:Int)<(m:Int):=by omega
     obtain⟨b,o',rfl,-,hG,hcell⟩:=HH.out.kids (by omega);have hkl:k<l.length:=by rw[HL.out];omega
     obtain⟨q,j,c',hc4,kL⟩:=hcell.out k hkl;have hmem:l[k]∈l:=List.getElem_mem hkl;have hgx:l[k]?=some l[k]:=List.getElem?_eq_getElem hkl;obtain⟨x,hx⟩:∃x,l[k]=x:=⟨_,rfl⟩
     rw[hx] at hc4 kL hmem hgx;obtain⟨e0,e1,e2,e3⟩:=hc4.on HW.out hG;have Ad:=hid kL;have HX:=hid hgx;have HM:=hid hmem;clear hcell hc4 kL hx hmem hgx hkl;obtain⟨d1,d2⟩:=akN k HM.out HC.out;have HK:=hid (akM HX.out);have HB:=hid (akz k HX.out HC.out);obtain⟨D,hD⟩:∃D,l_ (l.take k)=D:=⟨_,rfl⟩
     obtain⟨E,hE⟩:∃E,dep x=E:=⟨_,rfl⟩
     rw[hD] at d1 HK ⊢;have HI1:=HI.out x HM.out q j c';rw[hE] at d2 HK HI1;have HI2:=hid HI1;clear HI1 hD hE;go_wp2_with fail;refine(HI2.out _ (Ad.out.on (by have bU:=HW.out;exact bl)) HB.out.2).mono ?_;rintro e w2 ⟨rfl,hb2⟩;have HW2:Hid (Below w.heap.size w w2):=hid (by have bU:=HW.out;exact bl);clear hb2;by_cases hDE:D<E
     · have m1:(D:Int)<(E:Int):=by omega
       exact agb
     · have m1:(E:Int)<=(D:Int):=by omega
       exact agb
   · obtain rfl:m=k:=by omega
     have HT:Hid (l.take m=l):=hid (List.take_of_length_le (by rw[HL.out];exact Nat.le_refl _));have d1:=akO HC.out;rw[HT.out];obtain⟨D,hD⟩:∃D,l_ l=D:=⟨_,rfl⟩
     rw[hD] at d1 ⊢;have HD:=hid hD;clear hD;go_wp2_with fail;go_ret;exact⟨by rw[HD.out];go_num,HW.out⟩
end Ex
namespace Ex
open Go.RowKit
set_option maxHeartbeats 1000000
set_option linter.unusedSimpArgs false
theorem Ic {p:Prop} (h:p:=by
 go_wp2_with fail;go_ret;exact⟨rfl,rfl⟩
 ):p:=h
theorem EB (n:Int) (w:World):Calls Tryz.prog 107 #[.int .i64 n] w fun e w'=>e=.returned (.bool (OG n))/\w'=w:=by
 unfold OG;by_cases h1:-1000000000000<=n
 · by_cases h2:n<=1000000000000
   · rw[decide_eq_true h1,decide_eq_true h2];go_enter Tryz.func107,Tryz.ntmps107;exact Ic
   · rw[decide_eq_true h1,decide_eq_false h2];have h3:1000000000000<n:=by omega
     go_enter Tryz.func107,Tryz.ntmps107;exact Ic
 · rw[decide_eq_false h1,Bool.false_and];have h3:n < -1000000000000:=by omega
   go_enter Tryz.func107,Tryz.ntmps107;exact Ic
def idx (n z:Int):Bool:=decide (0<=n)&&decide (n<z)
theorem GA (n z:Int) (w:World):Calls Tryz.prog 176 #[.int .i64 n,.int .i64 z] w fun e w'=>e=.returned (.bool (idx n z))/\w'=w:=by
 unfold idx;by_cases h1:0<=n
 · by_cases h2:n<z
   · rw[decide_eq_true h1,decide_eq_true h2];go_enter Tryz.func176,Tryz.ntmps176;exact Ic
   · rw[decide_eq_true h1,decide_eq_false h2];have h3:z<=n:=by omega
     go_enter Tryz.func176,Tryz.ntmps176;exact Ic
 · rw[decide_eq_false h1,Bool.false_and];have h3:n<0:=by omega
   go_enter Tryz.func176,Tryz.ntmps176;exact Ic
def zW (o:Int):Int:=if 5<=o/\o<=8 then 1 else if 9<=o/\o<=21 then 2 else 0
theorem abE (o:Int):(o=1∨o=2∨o=3∨o=4∨o=5∨o=6∨o=7∨o=8∨o=9∨o=10∨o=11∨o=12∨o=13∨o=14∨o=15∨o=16∨o=17∨o=18∨o=19∨o=20∨o=21∨o=22∨o=23∨o=24∨o=25∨o=26)∨(o<1∨26<o):=by omega
def xF (c:Bool) (o:Int):Bool:=decide (o=3) || !c&&obj o
def zV (c:Bool) (o:Int):Bool:=decide (o=1)||decide (o=2)||c&&obj o||decide (o=25)||decide (o=26)
def yP (c:Bool) (o:Int):Value:=.tuple #[.agg #[.int .i64 (zW o),.bool (xF c o),.bool (zV c o)],.bool (known c o)]
theorem jW {p:Prop} (h:p:=by omega):p:=h
set_option maxRecDepth 100000 in
theorem WX (c:Bool) (o:Int) (w:World):Calls Tryz.prog 146 #[.int .i64 o,.bool c] w (Gives (yP c o) w):=by
 rcases abE o with h|h
 · rcases h with rfl|rfl|rfl|rfl|rfl|rfl|rfl|rfl|rfl|rfl|rfl|rfl|rfl|rfl|rfl|rfl|rfl|rfl|rfl|rfl|rfl|rfl|rfl|rfl|rfl|rfl
   all_goals
    cases c <;>
    · go_enter Tryz.func146,Tryz.ntmps146;go_wp2_with fail;exact bodyPost_ret (v:=yP _ _) (by simp[results,Tryz.results146,go_sem,yP,zW,xF,zV,known,Ca,obj]) rfl ⟨rfl,bl⟩
 · have hk:known c o=false:=by unfold known Ca;rw[if_pos h];rfl
   have hn:xF c o=false:=by unfold xF obj;rw[decide_eq_false (by omega:¬o=3)];rcases h with h|h <;> simp <;> omega
   have hc:zV c o=false:=by unfold zV obj;rcases h with h|h <;> simp <;> omega
   have hu:zW o=0:=by unfold zW;rw[if_neg jW,if_neg jW]
   have HV:Hid (yP c o=.tuple #[.agg #[.int .i64 0,.bool false,.bool false],.bool false]):=hid (by unfold yP;rw[hk,hn,hc,hu]);have t1:(o==1)=false:=beq_eq_false_iff_ne.2 jW;have t2:(o==2)=false:=beq_eq_false_iff_ne.2 jW;have t3:(o==3)=false:=beq_eq_false_iff_ne.2 jW;have t4:(o==4)=false:=beq_eq_false_iff_ne.2 jW;have t5:(o==5)=false:=beq_eq_false_iff_ne.2 jW;have t6:(o==6)=false:=beq_eq_false_iff_ne.2 jW;have t7:(o==7)=false:=beq_eq_false_iff_ne.2 jW;have t8:(o==8)=false:=beq_eq_false_iff_ne.2 jW;have t9:(o==9)=false:=beq_eq_false_iff_ne.2 jW;have t10:(o==10)=false:=beq_eq_false_iff_ne.2 jW;have t11:(o==11)=false:=beq_eq_false_iff_ne.2 jW;have t12:(o==12)=false:=beq_eq_false_iff_ne.2 jW;have t13:(o==13)=false:=beq_eq_false_iff_ne.2 jW;have t14:(o==14)=false:=beq_eq_false_iff_ne.2 jW;have t15:(o==15)=false:=beq_eq_false_iff_ne.2 jW;have t16:(o==16)=false:=beq_eq_false_iff_ne.2 jW;have t17:(o==17)=false:=beq_eq_false_iff_ne.2 jW;have t18:(o==18)=false:=beq_eq_false_iff_ne.2 jW;have t19:(o==19)=false:=beq_eq_false_iff_ne.2 jW;have t20:(o==20)=false:=beq_eq_false_iff_ne.2 jW;have t21:(o==21)=false:=beq_eq_false_iff_ne.2 jW;have t22:(o==22)=false:=beq_eq_false_iff_ne.2 jW;have t23:(o==23)=false:=beq_eq_false_iff_ne.2 jW;have t24:(o==24)=false:=beq_eq_false_iff_ne.2 jW;have t25:(o==25)=false:=beq_eq_false_iff_ne.2 jW;have t26:(o==26)=false:=beq_eq_false_iff_ne.2 jW;clear hk hn hc hu h;rw[HV.out];go_enter Tryz.func146,Tryz.ntmps146;go_wp2_with fail;exact bodyPost_ret (v:=.tuple #[.agg #[.int .i64 0,.bool false,.bool false],.bool false]) (by simp[results,Tryz.results146,go_sem]) rfl ⟨rfl,bl⟩
def Bh (o n:Int):Bool:=if o=1 then OG n else if o=2 then idx n 2 else if obj o then idx n 64 else if o=25 then idx n 16 else if o=26 then idx n 32 else true
theorem aqa {o n:Int} (h1:¬o=1) (h2:¬o=2) (h3:¬o=22) (h4:¬o=23) (h5:¬o=24) (h6:¬o=25) (h7:¬o=26):Bh o n=true:=by
 unfold Bh;rw[if_neg h1,if_neg h2,if_neg (by unfold obj;simp;omega),if_neg h6,if_neg h7]
theorem LZ {p:Prop} (h:p:=by
 rintro e w1 ⟨rfl,rfl⟩;go_wp2_with fail;go_ret;exact⟨rfl,bl⟩
 ):p:=h
theorem XV {p:Prop} (h:p:=by
 go_enter Tryz.func147,Tryz.ntmps147;go_wp2_with fail;refine(GA n 64 _).mono ?_;exact LZ
 ):p:=h
set_option maxRecDepth 100000 in
theorem apP (o:Int) (s:ByteArray) (n:Int) (p:Option Addr) (m c:Nat) (w:World):Calls Tryz.prog 147 #[.agg #[.int .i64 o,.string s,.int .i64 n,.slice p m c]] w (Gives (.bool (Bh o n)) w):=by
 by_cases h1:o=1
 · subst h1;go_enter Tryz.func147,Tryz.ntmps147;go_wp2_with fail;refine(EB n _).mono ?_;exact LZ
 by_cases h2:o=2
 · subst h2;go_enter Tryz.func147,Tryz.ntmps147;go_wp2_with fail;refine(GA n 2 _).mono ?_;exact LZ
 by_cases h3:o=22
 · subst h3;exact XV
 by_cases h4:o=23
 · subst h4;exact XV
 by_cases h5:o=24
 · subst h5;exact XV
 by_cases h6:o=25
 · subst h6;go_enter Tryz.func147,Tryz.ntmps147;go_wp2_with fail;refine(GA n 16 _).mono ?_;exact LZ
 by_cases h7:o=26
 · subst h7;go_enter Tryz.func147,Tryz.ntmps147;go_wp2_with fail;refine(GA n 32 _).mono ?_;exact LZ
 rw[aqa h1 h2 h3 h4 h5 h6 h7];have t1:(o==1)=false:=beq_eq_false_iff_ne.2 h1;have t2:(o==2)=false:=beq_eq_false_iff_ne.2 h2;have t3:(o==22)=false:=beq_eq_false_iff_ne.2 h3;have t4:(o==23)=false:=beq_eq_false_iff_ne.2 h4;have t5:(o==24)=false:=beq_eq_false_iff_ne.2 h5;have t6:(o==25)=false:=beq_eq_false_iff_ne.2 h6;have t7:(o==26)=false:=beq_eq_false_iff_ne.2 h7;clear h1 h2 h3 h4 h5 h6 h7;go_enter Tryz.func147,Tryz.ntmps147;go_wp2_with fail;go_ret;exact⟨rfl,bl⟩
theorem adO {c:Bool} {o:Int} (h:known c o=true):Ca o=zW o:=by
 unfold known at h;unfold Ca at h ⊢;unfold zW;by_cases g:o<1∨26<o
 · rw[if_pos g] at h;cases h
 · rw[if_neg g]
theorem WW {c:Bool} {o:Int} (h:known c o=true):xF c o=named c o:=by
 unfold known at h;unfold xF named;cases c
 · simp
 · by_cases g:o=3
   · subst g;revert h;decide
   · simp[g]
theorem afw {c:Bool} {o:Int} (h:known c o=true):zV c o=numbered c o:=by
 unfold known at h;unfold zV numbered counted;cases c
 · have h2:o<=24:=by
    simp at h
    exact h.2
   have g1:¬o=25:=by omega
   have g2:¬o=26:=by omega
   simp[g1,g2]
 · simp[Bool.or_assoc]
theorem ap_ {c:Bool} {o n:Int} {s:List UInt8} {m:Nat} (h:y7 c o s n m=false):Bh o n = !M_ c o n:=by
 unfold y7 at h;simp only[Bool.or_eq_false_iff] at h;obtain⟨⟨⟨hk,-⟩,hn⟩,-⟩:=h;have hk:known c o=true:=by simpa using hk
 rcases abE o with h|h
 · rcases h with rfl|rfl|rfl|rfl|rfl|rfl|rfl|rfl|rfl|rfl|rfl|rfl|rfl|rfl|rfl|rfl|rfl|rfl|rfl|rfl|rfl|rfl|rfl|rfl|rfl|rfl
   all_goals cases c
   all_goals
    simp[known,Ca,numbered,counted,obj,Bh,M_,idx,most] at hk hn ⊢
   all_goals first|done|(subst hn;decide)|(by_cases a1:0<=n <;> by_cases a2:n<2 <;> simp[a1,a2] <;> omega)|(by_cases a1:0<=n <;> by_cases a2:n<64 <;> simp[a1,a2] <;> omega)|(by_cases a1:0<=n <;> by_cases a2:n<16 <;> simp[a1,a2] <;> omega)|(by_cases a1:0<=n <;> by_cases a2:n<32 <;> simp[a1,a2] <;> omega)|trace_state
 · unfold known Ca at hk;rw[if_pos h] at hk;cases hk
end Ex
end Go.Proofs.YtbgodajefaahdaaGreatDoor
