/-
  Parts of this proof: The contracts of the small functions of the prog.
-/
import Derived.Test.YtkpekhpgdajabaaGreatDoorYTWrG
open Go.Proofs.Tryz
open Go.Proofs.Tryz renaming prog->ae
set_option linter.unusedVariables false
set_option maxRecDepth 100000
set_option maxHeartbeats 1000000
namespace Go.Proofs.YtkpekhpgdajabaaGreatDoor
namespace Ex
open Go.RowKit
set_option linter.unusedSimpArgs false
theorem qE {p:Prop} (h:p:=by
 exact Ea
 ):p:=h
theorem FR {p:Prop} (h:p:=by
 go_enter func43,ntmps43;exact qE
 ):p:=h
theorem aeD (o:Int) (w:World):Calls ae 43 #[.int .i64 o] w fun e w'=>e=.returned (.int .i64 (fH o))/\w'=w:=by
 unfold fH;by_cases h1:o<1∨26<o
 · rw[if_pos h1];by_cases g:o<1
   · clear h1;exact FR
   · have g1:26<o:=by omega
     have g2:1<=o:=by omega
     clear h1 g;exact FR
 · rw[if_neg h1];have a1:1<=o:=by omega
   have a2:o<=26:=by omega
   clear h1;by_cases h2:5<=o/\o<=8
   · rw[if_pos h2];obtain⟨g1,g2⟩:=h2;exact FR
   · rw[if_neg h2];by_cases h3:9<=o/\o<=21
     · rw[if_pos h3];obtain⟨g1,g2⟩:=h3;have g3:8<o:=by omega
       have g4:5<=o:=by omega
       clear h2;exact FR
     · rw[if_neg h3];by_cases h4:o<5
       · have g1:o<9:=by omega
         clear h2 h3;exact FR
       · have g1:5<=o:=by omega
         have g2:8<o:=by omega
         have g3:9<=o:=by omega
         have g4:21<o:=by omega
         clear h2 h3 h4;exact FR
theorem akJ (o:Int) (w:World):Calls ae 44 #[.int .i64 o] w fun e w'=>e=.returned (.bool (obj o))/\w'=w:=by
 unfold obj;by_cases h1:22<=o
 · by_cases h2:o<=24
   · rw[decide_eq_true h1,decide_eq_true h2];go_enter func44,ntmps44;exact qE
   · rw[decide_eq_true h1,decide_eq_false h2];have h3:24<o:=by omega
     go_enter func44,ntmps44;exact qE
 · rw[decide_eq_false h1,Bool.false_and];have h3:o<22:=by omega
   go_enter func44,ntmps44;exact qE
theorem aki (o:Int) (w:World):Calls ae 46 #[.int .i64 o] w fun e w'=>e=.returned (.int .i64 (most o))/\w'=w:=by
 unfold most;by_cases h1:o=25
 · subst h1;go_enter func46,ntmps46;exact qE
 · rw[if_neg h1];have t1:(o==25)=false:=beq_eq_false_iff_ne.2 h1;by_cases h2:o=26
   · subst h2;go_enter func46,ntmps46;exact qE
   · rw[if_neg h2];have t2:(o==26)=false:=beq_eq_false_iff_ne.2 h2;clear h1 h2;go_enter func46,ntmps46;exact qE
theorem alZ (n:Int) (w:World):Calls ae 45 #[.int .i64 n] w fun e w'=>e=.returned (.bool (wQ n))/\w'=w:=by
 unfold wQ;by_cases h1:-1000000000000<=n
 · by_cases h2:n<=1000000000000
   · rw[decide_eq_true h1,decide_eq_true h2];go_enter func45,ntmps45;exact qE
   · rw[decide_eq_true h1,decide_eq_false h2];have h3:1000000000000<n:=by omega
     go_enter func45,ntmps45;exact qE
 · rw[decide_eq_false h1,Bool.false_and];have h3:n < -1000000000000:=by omega
   go_enter func45,ntmps45;exact qE
theorem Cw (n:Int) (w:World):Calls ae 129 #[.int .i64 n] w fun e w'=>e=.returned (.bool (wQ n))/\w'=w:=by
 unfold wQ;by_cases h1:-1000000000000<=n
 · by_cases h2:n<=1000000000000
   · rw[decide_eq_true h1,decide_eq_true h2];go_enter func129,ntmps129;exact qE
   · rw[decide_eq_true h1,decide_eq_false h2];have h3:1000000000000<n:=by omega
     go_enter func129,ntmps129;exact qE
 · rw[decide_eq_false h1,Bool.false_and];have h3:n < -1000000000000:=by omega
   go_enter func129,ntmps129;exact qE
def idx (n z:Int):Bool:=decide (0<=n)&&decide (n<z)
theorem EL (n z:Int) (w:World):Calls ae 167 #[.int .i64 n,.int .i64 z] w fun e w'=>e=.returned (.bool (idx n z))/\w'=w:=by
 unfold idx;by_cases h1:0<=n
 · by_cases h2:n<z
   · rw[decide_eq_true h1,decide_eq_true h2];go_enter func167,ntmps167;exact qE
   · rw[decide_eq_true h1,decide_eq_false h2];have h3:z<=n:=by omega
     go_enter func167,ntmps167;exact qE
 · rw[decide_eq_false h1,Bool.false_and];have h3:n<0:=by omega
   go_enter func167,ntmps167;exact qE
def yX (o:Int):Int:=if 5<=o/\o<=8 then 1 else if 9<=o/\o<=21 then 2 else 0
theorem Yv (o:Int):(o=1∨o=2∨o=3∨o=4∨o=5∨o=6∨o=7∨o=8∨o=9∨o=10∨o=11∨o=12∨o=13∨o=14∨o=15∨o=16∨o=17∨o=18∨o=19∨o=20∨o=21∨o=22∨o=23∨o=24∨o=25∨o=26)∨(o<1∨26<o):=by omega
def vP (c:Bool) (o:Int):Bool:=decide (o=3) || !c&&obj o
def yV (c:Bool) (o:Int):Bool:=decide (o=1)||decide (o=2)||c&&obj o||decide (o=25)||decide (o=26)
def xU (c:Bool) (o:Int):Value:=.tuple #[.agg #[.int .i64 (yX o),.bool (vP c o),.bool (yV c o)],.bool (known c o)]
theorem jy {p:Prop} (h:p:=by omega):p:=h
theorem TE (c:Bool) (o:Int) (w:World):Calls ae 120 #[.int .i64 o,.bool c] w (Gives (xU c o) w):=by
 rcases Yv o with h|h
 · rcases h with rfl|rfl|rfl|rfl|rfl|rfl|rfl|rfl|rfl|rfl|rfl|rfl|rfl|rfl|rfl|rfl|rfl|rfl|rfl|rfl|rfl|rfl|rfl|rfl|rfl|rfl
   all_goals
    cases c <;>
    · go_enter func120,ntmps120;go_wp2_with fail;exact bodyPost_ret (v:=xU _ _) (by simp[results,results120,go_sem,xU,yX,vP,yV,known,fH,obj]) rfl ⟨rfl,bl⟩
 · have hk:known c o=false:=by unfold known fH;rw[if_pos h];rfl
   have hn:vP c o=false:=by unfold vP obj;rw[decide_eq_false (by omega:¬o=3)];rcases h with h|h <;> simp <;> omega
   have hc:yV c o=false:=by unfold yV obj;rcases h with h|h <;> simp <;> omega
   have hu:yX o=0:=by unfold yX;rw[if_neg jy,if_neg jy]
   have HV:Hid (xU c o=.tuple #[.agg #[.int .i64 0,.bool false,.bool false],.bool false]):=Lib.hid (by unfold xU;rw[hk,hn,hc,hu]);have t1:(o==1)=false:=beq_eq_false_iff_ne.2 jy;have t2:(o==2)=false:=beq_eq_false_iff_ne.2 jy;have t3:(o==3)=false:=beq_eq_false_iff_ne.2 jy;have t4:(o==4)=false:=beq_eq_false_iff_ne.2 jy;have t5:(o==5)=false:=beq_eq_false_iff_ne.2 jy;have t6:(o==6)=false:=beq_eq_false_iff_ne.2 jy;have t7:(o==7)=false:=beq_eq_false_iff_ne.2 jy;have t8:(o==8)=false:=beq_eq_false_iff_ne.2 jy;have t9:(o==9)=false:=beq_eq_false_iff_ne.2 jy;have t10:(o==10)=false:=beq_eq_false_iff_ne.2 jy;have t11:(o==11)=false:=beq_eq_false_iff_ne.2 jy;have t12:(o==12)=false:=beq_eq_false_iff_ne.2 jy;have t13:(o==13)=false:=beq_eq_false_iff_ne.2 jy;have t14:(o==14)=false:=beq_eq_false_iff_ne.2 jy;have t15:(o==15)=false:=beq_eq_false_iff_ne.2 jy;have t16:(o==16)=false:=beq_eq_false_iff_ne.2 jy;have t17:(o==17)=false:=beq_eq_false_iff_ne.2 jy;have t18:(o==18)=false:=beq_eq_false_iff_ne.2 jy;have t19:(o==19)=false:=beq_eq_false_iff_ne.2 jy;have t20:(o==20)=false:=beq_eq_false_iff_ne.2 jy;have t21:(o==21)=false:=beq_eq_false_iff_ne.2 jy;have t22:(o==22)=false:=beq_eq_false_iff_ne.2 jy;have t23:(o==23)=false:=beq_eq_false_iff_ne.2 jy;have t24:(o==24)=false:=beq_eq_false_iff_ne.2 jy;have t25:(o==25)=false:=beq_eq_false_iff_ne.2 jy;have t26:(o==26)=false:=beq_eq_false_iff_ne.2 jy;clear hk hn hc hu h;rw[HV.out];go_enter func120,ntmps120;go_wp2_with fail;exact bodyPost_ret (v:=.tuple #[.agg #[.int .i64 0,.bool false,.bool false],.bool false]) (by simp[results,results120,go_sem]) rfl ⟨rfl,bl⟩
def zT (o n:Int):Bool:=if o=1 then wQ n else if o=2 then idx n 2 else if obj o then idx n 64 else if o=25 then idx n 16 else if o=26 then idx n 32 else true
theorem alY {o n:Int} (h1:¬o=1) (h2:¬o=2) (h3:¬o=22) (h4:¬o=23) (h5:¬o=24) (h6:¬o=25) (h7:¬o=26):zT o n=true:=by
 unfold zT;rw[if_neg h1,if_neg h2,if_neg (by unfold obj;simp;omega),if_neg h6,if_neg h7]
theorem Jl {p:Prop} (h:p:=by
 rintro e w1 ⟨rfl,rfl⟩;exact dX
 ):p:=h
theorem Uf {p:Prop} (h:p:=by
 go_enter func121,ntmps121;go_wp2_with fail;refine(EL n 64 _).mono ?_;exact Jl
 ):p:=h
theorem alz (o:Int) (s:ByteArray) (n:Int) (p:Option Addr) (m c:Nat) (w:World):Calls ae 121 #[.agg #[.int .i64 o,.string s,.int .i64 n,.slice p m c]] w (Gives (.bool (zT o n)) w):=by
 by_cases h1:o=1
 · subst h1;go_enter func121,ntmps121;go_wp2_with fail;refine(Cw n _).mono ?_;exact Jl
 by_cases h2:o=2
 · subst h2;go_enter func121,ntmps121;go_wp2_with fail;refine(EL n 2 _).mono ?_;exact Jl
 by_cases h3:o=22
 · subst h3;exact Uf
 by_cases h4:o=23
 · subst h4;exact Uf
 by_cases h5:o=24
 · subst h5;exact Uf
 by_cases h6:o=25
 · subst h6;go_enter func121,ntmps121;go_wp2_with fail;refine(EL n 16 _).mono ?_;exact Jl
 by_cases h7:o=26
 · subst h7;go_enter func121,ntmps121;go_wp2_with fail;refine(EL n 32 _).mono ?_;exact Jl
 rw[alY h1 h2 h3 h4 h5 h6 h7];have t1:(o==1)=false:=beq_eq_false_iff_ne.2 h1;have t2:(o==2)=false:=beq_eq_false_iff_ne.2 h2;have t3:(o==22)=false:=beq_eq_false_iff_ne.2 h3;have t4:(o==23)=false:=beq_eq_false_iff_ne.2 h4;have t5:(o==24)=false:=beq_eq_false_iff_ne.2 h5;have t6:(o==25)=false:=beq_eq_false_iff_ne.2 h6;have t7:(o==26)=false:=beq_eq_false_iff_ne.2 h7;clear h1 h2 h3 h4 h5 h6 h7;go_enter func121,ntmps121;exact dX
theorem aaq {c:Bool} {o:Int} (h:known c o=true):fH o=yX o:=by
 unfold known at h;unfold fH at h ⊢;unfold yX;by_cases g:o<1∨26<o
 · rw[if_pos g] at h;cases h
 · rw[if_neg g]
theorem TD {c:Bool} {o:Int} (h:known c o=true):vP c o=named c o:=by
 unfold known at h;unfold vP named;cases c
 · simp
 · by_cases g:o=3
   · subst g;revert h;decide
   · simp[g]
theorem aca {c:Bool} {o:Int} (h:known c o=true):yV c o=numbered c o:=by
 unfold known at h;unfold yV numbered counted;cases c
 · have h2:o<=24:=by
    simp at h
    exact h.2
   have g1:¬o=25:=by omega
   have g2:¬o=26:=by omega
   simp[g1,g2]
 · simp[Bool.or_assoc]
theorem alX {c:Bool} {o n:Int} {s:List UInt8} {m:Nat} (h:nY c o s n m=false):zT o n = !eG c o n:=by
 unfold nY at h;simp only[Bool.or_eq_false_iff] at h;obtain⟨⟨⟨hk,-⟩,hn⟩,-⟩:=h;have hk:known c o=true:=by simpa using hk
 rcases Yv o with h|h
 · rcases h with rfl|rfl|rfl|rfl|rfl|rfl|rfl|rfl|rfl|rfl|rfl|rfl|rfl|rfl|rfl|rfl|rfl|rfl|rfl|rfl|rfl|rfl|rfl|rfl|rfl|rfl
   all_goals cases c
   all_goals
    simp[known,fH,numbered,counted,obj,zT,eG,idx,most] at hk hn ⊢
   all_goals first|done|(subst hn;decide)|(by_cases a1:0<=n <;> by_cases a2:n<2 <;> simp[a1,a2] <;> omega)|(by_cases a1:0<=n <;> by_cases a2:n<64 <;> simp[a1,a2] <;> omega)|(by_cases a1:0<=n <;> by_cases a2:n<16 <;> simp[a1,a2] <;> omega)|(by_cases a1:0<=n <;> by_cases a2:n<32 <;> simp[a1,a2] <;> omega)|trace_state
 · unfold known fH at hk;rw[if_pos h] at hk;cases hk
end Ex
end Go.Proofs.YtkpekhpgdajabaaGreatDoor
