/-
  Parts of this proof: Plain definitions and facts about the integers t. The contracts of package num's integer functions. Plain facts about decimal numerals. The library functions that this program calls, c. The contracts of Text and Parse of package num. What the listed library variables give the walks. Mathematics of tokens. Mathematics of lists of names. Plain facts about fractions, about division by d. The number of a text. The contracts of the reference's Number and long. The contract of the reference's longest.
-/
import Derived.Test.YtbgodajefaahdaaGreatDoorRows
import Derived.WalkKit
import Derived.WalkSpells
import Derived.Lib.Hide
import Derived.WalkLawsBesides
import Derived.Lib.AtoiAll
import Derived.Lib.ItoaNum
import Derived.Shelf.Strconv.Atoi
import Derived.Shelf.Strconv.Itoa0
import Derived.Shelf.Strconv.Itoa1
import Derived.Shelf.LaysM
import Derived.Shelf.Strconv.Itoa2
import Derived.Shelf.Strconv.Itoa3
import Derived.Shelf.Strconv.AtoiErrFast
import Derived.Shelf.Strconv.ParseIntEmpty
import Derived.Shelf.Strconv.AtoiFail
import Derived.Shelf.Strconv.Clone
import Derived.Shelf.Strconv.SyntaxError
import Derived.Shelf.LaysC
import Derived.Shelf.Strconv.ToError
import Derived.Shelf.Strconv.Lower
import Derived.Shelf.Strconv.ParseUint10
import Derived.Shelf.Strconv.ParseUint10Empty
import Derived.Shelf.Strconv.ParseUint10Any
import Derived.Shelf.Strconv.ParseInt10
import Derived.Shelf.Strconv.AtoiLong
import Derived.Shelf.Strconv.AtoiInnerAll
import Derived.Shelf.Strconv.RangeError
import Derived.Shelf.Strconv.ToErrorRange
import Derived.Shelf.Strconv.AtoiAll
import Derived.Shelf.Strconv.ErrVarAll
import Derived.Test.YtbgodajefaahdaaGreatDoorProg
import Derived.ProofKit
import Derived.LaidMore
import Derived.LaidHandle
import Derived.MakeChecks
import Derived.OpenShut
import Derived.Stop.Joined
import Derived.Lib.LaidTab
import Derived.Lib.Bytealg
import Derived.Laws.Strings3
import Derived.Lib.SlicesCompact
import Derived.Lib.RowBridge
import Derived.LoopTactic
import Derived.RegionTactic
import Derived.Deep.QuietTactic
import Derived.BigQuiet
import Derived.Outline
import Derived.Deep.DeepCutAuto
import Derived.Deep.CutBlock
import Derived.Deep.RegionHeld3
import Derived.StillTailTactics
import Derived.Maps.AppendAt
import Derived.Laws.OwnMore
import Derived.OwnWalk
import Derived.ArgAppend
import Derived.Lib.SliceRun
import Derived.Lib.AppendZeros
import Derived.Lib.OthersKept
import Derived.Maps.RangeWalk
set_option linter.unusedVariables false
namespace Go.Proofs.YtbgodajefaahdaaGreatDoor.Nu
def inB (n:Int):Bool:=decide (-1000000000000<=n/\n<=1000000000000)
theorem inB_yes {n:Int} (h0:-1000000000000<=n) (h1:n<=1000000000000):inB n=true:=by unfold inB;simp;omega
theorem inB_no {n:Int} (h:n < -1000000000000∨1000000000000<n):inB n=false:=by unfold inB;simp;omega
theorem inB_true {n:Int} (h:inB n=true):-1000000000000<=n/\n<=1000000000000:=by unfold inB at h;simpa using h
def absZ (n:Int):Int:=if n<0 then -n else n
theorem absZ_pos {n:Int} (h:0<=n):absZ n=n:=by unfold absZ;rw[if_neg (by omega)]
theorem ret_int {k:IntKind} {a b:Int} (h:a=b):Ending.returned (.int k a)=.returned (.int k b):=by rw[h]
theorem ret_bool {a b:Bool} (h:a=b):Ending.returned (.bool a)=.returned (.bool b):=by rw[h]
end Go.Proofs.YtbgodajefaahdaaGreatDoor.Nu
namespace Go.Proofs.YtbgodajefaahdaaGreatDoor.Nu
open Go.RowKit
set_option maxHeartbeats 400000
theorem zAB_0 {p:Prop} (h:p:=by
 go_enter Tryz.func107,Tryz.ntmps107
 go_wp2
 go_ret;exact⟨ret_bool (by simp;try omega),rfl⟩
 ):p:=h
theorem in_any (n:Int) (w:World):Calls Tryz.prog 107 #[.int .i64 n] w fun e w'=>e=.returned (.bool (inB n))/\w=w':=by
 rcases Int.lt_or_le 1000000000000 n with h|h
 · rw[inB_no (Or.inr h)];exact zAB_0
 · rcases Int.lt_or_le n (-1000000000000) with h'|h'
   · rw[inB_no (Or.inl h')];exact zAB_0
   · rw[inB_yes h' h];exact zAB_0
end Go.Proofs.YtbgodajefaahdaaGreatDoor.Nu
namespace Go.Proofs.YtbgodajefaahdaaGreatDoor.Nu
open Go.Lib
theorem digit_nat (d:Nat) (h:d<10):(UInt8.ofNat (48+d)).toNat=48+d:=by
 rw[UInt8.toNat_ofNat'];omega
theorem dec_small {u:Nat} (h:u<10):decDigits u=[UInt8.ofNat (48+u)]:=by rw[decDigits,dif_pos h]
theorem dec_big {u:Nat} (h:¬u<10):decDigits u=decDigits (u / 10)++[UInt8.ofNat (48+u % 10)]:=by rw[decDigits,dif_neg h]
theorem parse_append (l m:List UInt8):∀a,parseUint10 a (l++m)=match parseUint10 a l with|.ok b=>parseUint10 b m|r=>r:=by
 induction l with
 | nil=>intro a;rfl
 | cons c l ih=>
  intro a;simp only[List.cons_append,parseUint10]
  split
  · split
    · rfl
    · split
      · rfl
      · exact ih _
  · rfl
theorem zAC_0 {p:Prop} (h:p:=by omega):p:=h
theorem parse_digit (a d:Nat) (ha:a<=922337203685477580) (h:d<10):parseUint10 a [UInt8.ofNat (48+d)]=.ok (a*10+d):=by
 simp only[parseUint10,digit_nat d h];rw[if_pos zAC_0,if_neg zAC_0,if_neg zAC_0]
 congr 1
 omega
theorem parse_dec (u:Nat) (hu:u<=9223372036854775808):parseUint10 0 (decDigits u)=.ok u:=by
 induction u using Nat.strongRecOn with
 | _ u ih=>
  by_cases h:u<10
  · rw[dec_small h,parse_digit 0 u zAC_0 h,Nat.zero_mul,Nat.zero_add]
  · rw[dec_big h,parse_append,ih (u / 10) zAC_0 zAC_0];simp only;rw[parse_digit (u / 10) (u % 10) zAC_0 zAC_0]
    congr 1
    omega
theorem dec_digits (u:Nat):∀c∈decDigits u,48<=c.toNat/\c.toNat<=57:=by
 induction u using Nat.strongRecOn with
 | _ u ih=>
  by_cases h:u<10
  · rw[dec_small h];intro c hc;rw[List.mem_singleton] at hc;subst hc;rw[digit_nat u h];omega
  · rw[dec_big h];intro c hc;rcases List.mem_append.1 hc with hc|hc
    · exact ih (u / 10) zAC_0 c hc
    · rw[List.mem_singleton] at hc;subst hc;rw[digit_nat _ zAC_0];omega
theorem dec_cons (u:Nat):∃c r,decDigits u=c::r/\48<=c.toNat/\c.toNat<=57:=by
 have hl:=decDigits_length u;have hp:=nDigits_pos u
 match hd:decDigits u with
 | []=>rw[hd] at hl;simp at hl;omega
 | c::r=>exact⟨c,r,rfl,dec_digits u c (by rw[hd];exact List.mem_cons_self)⟩
theorem atoi_itoa (v:Int) (h0:-9223372036854775808<=v) (h1:v<=9223372036854775807):atoiAll (itoa v)=.ok v:=by
 unfold itoa
 split
 · rename_i h
   obtain⟨c,r,e,-,-⟩:=dec_cons v.natAbs;have hp:=parse_dec v.natAbs zAC_0;have hm:parseMag (decDigits v.natAbs)=.ok v.natAbs:=by unfold parseMag;rw[if_neg (by rw[e];simp)];exact hp
   unfold atoiAll;simp only[show(45:UInt8).toNat=45 from rfl];rw[if_pos (Or.inr trivial),hm];simp
   rw[if_neg zAC_0]
   congr 1
   omega
 · rename_i h
   obtain⟨c,r,e,h2,h3⟩:=dec_cons v.toNat;have hp:=parse_dec v.toNat zAC_0;have hm:parseMag (decDigits v.toNat)=.ok v.toNat:=by unfold parseMag;rw[if_neg (by rw[e];simp)];exact hp
   rw[e] at hm ⊢;unfold atoiAll;simp only;rw[if_neg zAC_0,hm];have h4:¬c.toNat=45:=by omega
   simp[h4]
   rw[if_neg zAC_0]
   congr 1
   omega
theorem nDigits_le:∀(k u:Nat),u<10 ^ (k+1)->nDigits u<=k+1
 | 0,u,h=>by rw[nDigits_small (by simpa using h)];exact Nat.le_refl _
 | k+1,u,h=>by
  by_cases hs:u<10
  · rw[nDigits_small hs];omega
  · rw[nDigits_big hs];have:=nDigits_le k (u / 10) (by rw[Nat.pow_succ] at h;omega);omega
theorem itoa_length (v:Int) (h0:-1000000000000<=v) (h1:v<=1000000000000):(itoa v).length<=14:=by
 unfold itoa
 split
 · rw[List.length_cons,decDigits_length];have:=nDigits_le 12 v.natAbs zAC_0;omega
 · rw[decDigits_length];have:=nDigits_le 12 v.toNat zAC_0;omega
theorem itoa_small (n:Int) (h0:0<=n) (h1:n<10):itoa n=[UInt8.ofNat (48+n.toNat)]:=by
 unfold itoa;rw[if_neg zAC_0,dec_small zAC_0]
theorem itoa_big (n:Int) (h:10<=n):itoa n=itoa (n / 10)++itoa (n % 10):=by
 rw[itoa_small (n % 10) zAC_0 zAC_0];unfold itoa;rw[if_neg zAC_0,if_neg zAC_0,dec_big zAC_0,show(n / 10).toNat=n.toNat / 10 by omega,show(n % 10).toNat=n.toNat % 10 by omega]
def fold1 (n:Int) (c:UInt8):Int:=if 48<=c.toNat/\c.toNat<=57 then 10*n+(c.toNat-48) else n
def foldD (l:List UInt8):Int:=l.foldl fold1 0
theorem fold_append (l m:List UInt8) (a:Int):(l++m).foldl fold1 a=m.foldl fold1 (l.foldl fold1 a):=List.foldl_append
theorem fold_dec (u:Nat):foldD (decDigits u)=u:=by
 unfold foldD
 induction u using Nat.strongRecOn with
 | _ u ih=>
  by_cases h:u<10
  · rw[dec_small h];simp only[List.foldl_cons,List.foldl_nil,fold1,digit_nat u h];rw[if_pos zAC_0];omega
  · rw[dec_big h,fold_append,ih (u / 10) zAC_0];simp only[List.foldl_cons,List.foldl_nil,fold1,digit_nat (u % 10) zAC_0];rw[if_pos zAC_0];omega
theorem fold_neg (l:List UInt8):foldD (45::l)=foldD l:=by
 unfold foldD;rw[List.foldl_cons];rfl
theorem foldD_snoc (l:List UInt8) (c:UInt8):foldD (l++[c])=fold1 (foldD l) c:=by unfold foldD;rw[fold_append];rfl
theorem fold_itoa (v:Int):foldD (itoa v)=absZ v:=by
 unfold itoa absZ
 split
 · rw[fold_neg,fold_dec];omega
 · rw[fold_dec];omega
end Go.Proofs.YtbgodajefaahdaaGreatDoor.Nu
namespace Go.Proofs
open Go.Shelf
def Tryz.laysM171_ren:Go.Shelf.Ren:=⟨fun|171=>206|243=>214|246=>227|283=>235|284=>236|285=>237|286=>238|129=>240|317=>239|318=>241|319=>242|320=>243|337=>244|338=>245|n=>n,fun|3=>3|9=>9|2=>2|4=>4|171=>311|0=>0|53=>296|37=>150|5=>5|173=>314|212=>318|51=>319|20=>20|213=>320|46=>299|232=>323|233=>324|n=>n,fun|17=>2|18=>3|19=>4|n=>n⟩
theorem zAD_0 {p:Prop} (h:p:=by kernel_rfl):p:=h
theorem Tryz.laysM171:Go.Proofs.LaysM.n171 Tryz.prog Tryz.laysM171_ren:={
 mixed:=by kernel_rfl
 f129:=Tryz.func240.trans (congrArg some zAD_0)
 f171:=Tryz.func206.trans (congrArg some zAD_0)
 f243:=Tryz.func214.trans (congrArg some zAD_0)
 f246:=Tryz.func227.trans (congrArg some zAD_0)
 f283:=Tryz.func235.trans (congrArg some zAD_0)
 f284:=Tryz.func236.trans (congrArg some zAD_0)
 f285:=Tryz.func237.trans (congrArg some zAD_0)
 f286:=Tryz.func238.trans (congrArg some zAD_0)
 f317:=Tryz.func239.trans (congrArg some zAD_0)
 f318:=Tryz.func241.trans (congrArg some zAD_0)
 f319:=Tryz.func242.trans (congrArg some zAD_0)
 f320:=Tryz.func243.trans (congrArg some zAD_0)
 f337:=Tryz.func244.trans (congrArg some zAD_0)
 f338:=Tryz.func245.trans (congrArg some zAD_0)
 t0:=Tryz.underlying0
 a0:=Tryz.isAgg0
 z0:=Tryz.sizeOf0
 v0:=Tryz.zeroValue0
 t2:=Tryz.underlying2
 a2:=Tryz.isAgg2
 z2:=Tryz.sizeOf2
 v2:=Tryz.zeroValue2
 t3:=Tryz.underlying3
 a3:=Tryz.isAgg3
 z3:=Tryz.sizeOf3
 v3:=Tryz.zeroValue3
 t4:=Tryz.underlying4
 a4:=Tryz.isAgg4
 z4:=Tryz.sizeOf4
 v4:=Tryz.zeroValue4
 t5:=Tryz.underlying5
 a5:=Tryz.isAgg5
 z5:=Tryz.sizeOf5
 v5:=Tryz.zeroValue5
 t9:=Tryz.underlying9
 a9:=Tryz.isAgg9
 z9:=Tryz.sizeOf9
 v9:=Tryz.zeroValue9
 t20:=Tryz.underlying20
 a20:=Tryz.isAgg20
 z20:=Tryz.sizeOf20
 v20:=Tryz.zeroValue20
 t37:=Tryz.underlying150
 a37:=Tryz.isAgg150
 z37:=Tryz.sizeOf150
 v37:=Tryz.zeroValue150
 t46:=Tryz.underlying299
 a46:=Tryz.isAgg299
 z46:=Tryz.sizeOf299
 v46:=Tryz.zeroValue299
 t51:=Tryz.underlying319
 a51:=Tryz.isAgg319
 z51:=Tryz.sizeOf319
 v51:=Tryz.zeroValue319
 t53:=Tryz.underlying296
 a53:=Tryz.isAgg296
 z53:=Tryz.sizeOf296
 v53:=Tryz.zeroValue296
 t171:=Tryz.underlying311
 a171:=Tryz.isAgg311
 z171:=Tryz.sizeOf311
 v171:=Tryz.zeroValue311
 t173:=Tryz.underlying314
 a173:=Tryz.isAgg314
 z173:=Tryz.sizeOf314
 v173:=Tryz.zeroValue314
 t212:=Tryz.underlying318
 a212:=Tryz.isAgg318
 z212:=Tryz.sizeOf318
 v212:=Tryz.zeroValue318
 t213:=Tryz.underlying320
 a213:=Tryz.isAgg320
 z213:=Tryz.sizeOf320
 t232:=Tryz.underlying323
 a232:=Tryz.isAgg323
 z232:=Tryz.sizeOf323
 v232:=Tryz.zeroValue323
 t233:=Tryz.underlying324
 a233:=Tryz.isAgg324
 z233:=Tryz.sizeOf324
 v233:=Tryz.zeroValue324
 g17:=by kernel_rfl
 g18:=by kernel_rfl
 g19:=by kernel_rfl
 i0:=by kernel_rfl
 i2:=by kernel_rfl
 i3:=by kernel_rfl
 i4:=by kernel_rfl
 i5:=by kernel_rfl
 i9:=by kernel_rfl
 i20:=by kernel_rfl
 i37:=by kernel_rfl
 i46:=by kernel_rfl
 i51:=by kernel_rfl
 i53:=by kernel_rfl
 i171:=by kernel_rfl
 i173:=by kernel_rfl
 i212:=by kernel_rfl
 i232:=by kernel_rfl
 i233:=by kernel_rfl
 m17:=by kernel_rfl
 m18:=by kernel_rfl
 m19:=by kernel_rfl }
def Tryz.laysC172_ren:Go.Shelf.Ren:=⟨fun|172=>198|244=>204|245=>205|247=>209|279=>210|280=>211|281=>212|282=>213|287=>224|316=>225|171=>206|205=>226|321=>233|322=>234|243=>214|246=>227|283=>235|284=>236|285=>237|286=>238|129=>240|317=>239|318=>241|319=>242|320=>243|337=>244|338=>245|n=>n,fun|9=>9|3=>3|75=>272|76=>273|4=>4|5=>5|167=>280|37=>150|0=>0|85=>281|2=>2|168=>283|53=>296|175=>297|46=>299|210=>301|127=>307|145=>310|143=>308|21=>21|171=>311|173=>314|212=>318|51=>319|20=>20|213=>320|232=>323|233=>324|80=>142|n=>n,fun|15=>0|16=>1|17=>2|18=>3|19=>4|n=>n⟩
theorem Tryz.laysC172:Go.Proofs.LaysC.n172 Tryz.prog Tryz.laysC172_ren:={
 mixed:=by kernel_rfl
 f129:=Tryz.func240.trans (congrArg some zAD_0)
 f171:=Tryz.func206.trans (congrArg some zAD_0)
 f172:=Tryz.func198.trans (congrArg some zAD_0)
 f205:=Tryz.func226.trans (congrArg some zAD_0)
 f243:=Tryz.func214.trans (congrArg some zAD_0)
 f244:=Tryz.func204.trans (congrArg some zAD_0)
 f245:=Tryz.func205.trans (congrArg some zAD_0)
 f246:=Tryz.func227.trans (congrArg some zAD_0)
 f247:=Tryz.func209.trans (congrArg some zAD_0)
 f279:=Tryz.func210.trans (congrArg some zAD_0)
 f280:=Tryz.func211.trans (congrArg some zAD_0)
 f281:=Tryz.func212.trans (congrArg some zAD_0)
 f282:=Tryz.func213.trans (congrArg some zAD_0)
 f283:=Tryz.func235.trans (congrArg some zAD_0)
 f284:=Tryz.func236.trans (congrArg some zAD_0)
 f285:=Tryz.func237.trans (congrArg some zAD_0)
 f286:=Tryz.func238.trans (congrArg some zAD_0)
 f287:=Tryz.func224.trans (congrArg some zAD_0)
 f316:=Tryz.func225.trans (congrArg some zAD_0)
 f317:=Tryz.func239.trans (congrArg some zAD_0)
 f318:=Tryz.func241.trans (congrArg some zAD_0)
 f319:=Tryz.func242.trans (congrArg some zAD_0)
 f320:=Tryz.func243.trans (congrArg some zAD_0)
 f321:=Tryz.func233.trans (congrArg some zAD_0)
 f322:=Tryz.func234.trans (congrArg some zAD_0)
 f337:=Tryz.func244.trans (congrArg some zAD_0)
 f338:=Tryz.func245.trans (congrArg some zAD_0)
 t0:=Tryz.underlying0
 a0:=Tryz.isAgg0
 z0:=Tryz.sizeOf0
 v0:=Tryz.zeroValue0
 t2:=Tryz.underlying2
 a2:=Tryz.isAgg2
 z2:=Tryz.sizeOf2
 v2:=Tryz.zeroValue2
 t3:=Tryz.underlying3
 a3:=Tryz.isAgg3
 z3:=Tryz.sizeOf3
 v3:=Tryz.zeroValue3
 t4:=Tryz.underlying4
 a4:=Tryz.isAgg4
 z4:=Tryz.sizeOf4
 v4:=Tryz.zeroValue4
 t5:=Tryz.underlying5
 a5:=Tryz.isAgg5
 z5:=Tryz.sizeOf5
 v5:=Tryz.zeroValue5
 t9:=Tryz.underlying9
 a9:=Tryz.isAgg9
 z9:=Tryz.sizeOf9
 v9:=Tryz.zeroValue9
 t20:=Tryz.underlying20
 a20:=Tryz.isAgg20
 z20:=Tryz.sizeOf20
 v20:=Tryz.zeroValue20
 t21:=Tryz.underlying21
 a21:=Tryz.isAgg21
 z21:=Tryz.sizeOf21
 v21:=Tryz.zeroValue21
 t37:=Tryz.underlying150
 a37:=Tryz.isAgg150
 z37:=Tryz.sizeOf150
 v37:=Tryz.zeroValue150
 t46:=Tryz.underlying299
 a46:=Tryz.isAgg299
 z46:=Tryz.sizeOf299
 v46:=Tryz.zeroValue299
 t51:=Tryz.underlying319
 a51:=Tryz.isAgg319
 z51:=Tryz.sizeOf319
 v51:=Tryz.zeroValue319
 t53:=Tryz.underlying296
 a53:=Tryz.isAgg296
 z53:=Tryz.sizeOf296
 v53:=Tryz.zeroValue296
 t75:=Tryz.underlying272
 a75:=Tryz.isAgg272
 z75:=Tryz.sizeOf272
 v75:=Tryz.zeroValue272
 t76:=Tryz.underlying273
 a76:=Tryz.isAgg273
 z76:=Tryz.sizeOf273
 v76:=Tryz.zeroValue273
 t85:=Tryz.underlying281
 a85:=Tryz.isAgg281
 z85:=Tryz.sizeOf281
 v85:=Tryz.zeroValue281
 t127:=Tryz.underlying307
 a127:=Tryz.isAgg307
 z127:=Tryz.sizeOf307
 v127:=Tryz.zeroValue307
 t143:=Tryz.underlying308
 a143:=Tryz.isAgg308
 z143:=Tryz.sizeOf308
 v143:=Tryz.zeroValue308
 t145:=Tryz.underlying310
 a145:=Tryz.isAgg310
 z145:=Tryz.sizeOf310
 v145:=Tryz.zeroValue310
 t167:=Tryz.underlying280
 a167:=Tryz.isAgg280
 z167:=Tryz.sizeOf280
 v167:=Tryz.zeroValue280
 t168:=Tryz.underlying283
 a168:=Tryz.isAgg283
 z168:=Tryz.sizeOf283
 v168:=Tryz.zeroValue283
 t171:=Tryz.underlying311
 a171:=Tryz.isAgg311
 z171:=Tryz.sizeOf311
 v171:=Tryz.zeroValue311
 t173:=Tryz.underlying314
 a173:=Tryz.isAgg314
 z173:=Tryz.sizeOf314
 v173:=Tryz.zeroValue314
 t175:=Tryz.underlying297
 a175:=Tryz.isAgg297
 z175:=Tryz.sizeOf297
 v175:=Tryz.zeroValue297
 t210:=Tryz.underlying301
 a210:=Tryz.isAgg301
 z210:=Tryz.sizeOf301
 v210:=Tryz.zeroValue301
 t212:=Tryz.underlying318
 a212:=Tryz.isAgg318
 z212:=Tryz.sizeOf318
 v212:=Tryz.zeroValue318
 t213:=Tryz.underlying320
 a213:=Tryz.isAgg320
 z213:=Tryz.sizeOf320
 t232:=Tryz.underlying323
 a232:=Tryz.isAgg323
 z232:=Tryz.sizeOf323
 v232:=Tryz.zeroValue323
 t233:=Tryz.underlying324
 a233:=Tryz.isAgg324
 z233:=Tryz.sizeOf324
 v233:=Tryz.zeroValue324
 g15:=by kernel_rfl
 g16:=by kernel_rfl
 g17:=by kernel_rfl
 g18:=by kernel_rfl
 g19:=by kernel_rfl
 t80:=Tryz.underlying142
 a80:=Tryz.isAgg142
 z80:=Tryz.sizeOf142
 v80:=Tryz.zeroValue142
 i0:=by kernel_rfl
 i2:=by kernel_rfl
 i3:=by kernel_rfl
 i4:=by kernel_rfl
 i5:=by kernel_rfl
 i9:=by kernel_rfl
 i20:=by kernel_rfl
 i21:=by kernel_rfl
 i37:=by kernel_rfl
 i46:=by kernel_rfl
 i51:=by kernel_rfl
 i53:=by kernel_rfl
 i75:=by kernel_rfl
 i76:=by kernel_rfl
 i80:=by kernel_rfl
 i85:=by kernel_rfl
 i127:=by kernel_rfl
 i143:=by kernel_rfl
 i145:=by kernel_rfl
 i167:=by kernel_rfl
 i168:=by kernel_rfl
 i171:=by kernel_rfl
 i173:=by kernel_rfl
 i175:=by kernel_rfl
 i210:=by kernel_rfl
 i212:=by kernel_rfl
 i232:=by kernel_rfl
 i233:=by kernel_rfl
 m15:=by kernel_rfl
 m16:=by kernel_rfl
 m17:=by kernel_rfl
 m18:=by kernel_rfl
 m19:=by kernel_rfl
 c0:=by kernel_rfl
 c2:=by kernel_rfl
 c3:=by kernel_rfl
 c4:=by kernel_rfl
 c5:=by kernel_rfl
 c9:=by kernel_rfl
 c20:=by kernel_rfl
 c21:=by kernel_rfl
 c37:=by kernel_rfl
 c46:=by kernel_rfl
 c51:=by kernel_rfl
 c53:=by kernel_rfl
 c75:=by kernel_rfl
 c76:=by kernel_rfl
 c80:=by kernel_rfl
 c85:=by kernel_rfl
 c127:=by kernel_rfl
 c143:=by kernel_rfl
 c145:=by kernel_rfl
 c167:=by kernel_rfl
 c168:=by kernel_rfl
 c171:=by kernel_rfl
 c173:=by kernel_rfl
 c175:=by kernel_rfl
 c210:=by kernel_rfl
 c212:=by kernel_rfl
 c213:=by kernel_rfl
 c232:=by kernel_rfl
 c233:=by kernel_rfl }
end Go.Proofs
namespace Go.Proofs.YtbgodajefaahdaaGreatDoor.Nu
open Go.RowKit
set_option maxHeartbeats 400000
structure Env (w:World):Prop where
 zTab:2<w.heap.size
 zRng:1<w.heap.size
 zSyn:0<w.heap.size
 tab:Lib.TabIs Tryz.prog w "internal/strconv.uint64pow10" .u64 Lib.pow10Tab
 syn:∃tp p,w.var? Tryz.prog "strconv.ErrSyntax" = some #[.iface tp p]
 rng:∃tp p,w.var? Tryz.prog "strconv.ErrRange" = some #[.iface tp p]
theorem Env.below {w w':World} (h:Env w) (hb:Below w.heap.size w w'):Env w':=by
 obtain⟨tp,p,h1⟩:=h.syn;obtain⟨tq,q,h2⟩:=h.rng;exact⟨Nat.lt_of_lt_of_le h.zTab hb.size,Nat.lt_of_lt_of_le h.zRng hb.size,Nat.lt_of_lt_of_le h.zSyn hb.size,var?_below hb (by kernel_rfl) h.zTab h.tab,
  ⟨tp,p,var?_below hb (by kernel_rfl) h.zSyn h1⟩,⟨tq,q,var?_below hb (by kernel_rfl) h.zRng h2⟩⟩
theorem grow_below (w:World) (k:Nat) (os:Array Obj):Below w.heap.size w (Sort.grow (w.drewN k) os):=
 ⟨rfl,rfl,rfl,by rw[Sort.size_grow];exact Nat.le_add_right _ _,fun j hj=>Sort.heap_grow_old (w.drewN k) os hj⟩
def num (v:Int):ByteArray:=⟨(Lib.itoa v).toArray⟩
theorem num_list (v:Int):(num v).data.toList=Lib.itoa v:=rfl
theorem itoa_any (n:Int) (h0:-9223372036854775808<=n) (h1:n<=9223372036854775807) (w:World) (hE:Env w) :
 Calls Tryz.prog 206 #[.int .i64 n] w fun e w'=>e=.returned (.string (num n))/\Below w.heap.size w w':=
 (show Calls Tryz.prog 206 #[.int .i64 n] w fun e w' => e = .returned (.string (num n)) ∧ ∃ k os, w' = Sort.grow (w.drewN k) os from Any.strconv_Itoa Tryz.laysM171 n h0 h1 w hE.tab).mono
   fun _ _ ⟨he,k,os,hw⟩=>⟨he,by rw[hw];exact grow_below w k os⟩
theorem text_any (n:Int) (h0:-9223372036854775808<=n) (h1:n<=9223372036854775807) (w:World) (hE:Env w) :
 Calls Tryz.prog 199 #[.int .i64 n] w fun e w'=>e=.returned (.string (num n))/\Below w.heap.size w w':=by
 go_enter Tryz.func199,Tryz.ntmps199;go_wp2_with (go_at_call 206;refine(itoa_any n h0 h1 _ hE).mono ?_;rintro e w' ⟨rfl,hb⟩)
 go_ret;exact⟨rfl,hb⟩
def AtoiOk (v:Int) (w:World) (e:Ending) (w':World):Prop:=e=.returned (.tuple #[.int .i64 v,.nilIface])/\Below w.heap.size w w'
def AtoiBad (w:World) (e:Ending) (w':World):Prop:=∃v:Int,∃M:Nat,e=.returned (.tuple #[.int .i64 v,.iface 283 (.pointer (some ⟨M,0,none⟩))])/\Below w.heap.size w w'
theorem atoi_ok (s:ByteArray) (hs:s.size<=140737488355328) (v:Int) (h:Lib.atoiAll s.data.toList=.ok v) (w:World) :
 Calls Tryz.prog 198 #[.string s] w (AtoiOk v w):=
 (show Calls Tryz.prog 198 #[.string s] w fun e w' => e = .returned (.tuple #[.int .i64 v, .nilIface]) ∧ (w' = w ∨ ∃ t, w' = Lib.bytesWorld w 5 t) from Any.strconv_Atoi_ok Tryz.laysC172 s (by omega) v h w).mono
   fun _ _ ⟨he,hw⟩=>⟨he,by rcases hw with rfl|⟨t,rfl⟩;exact Below.refl _ _;exact Lib.bytesWorld_below _ _ _⟩
theorem atoi_bad (s:ByteArray) (hs:s.size<=140737488355328) (h:∀v,Lib.atoiAll s.data.toList ≠ .ok v) (w:World) (hE:Env w) :
 Calls Tryz.prog 198 #[.string s] w (AtoiBad w):=by
 cases hr:Lib.atoiAll s.data.toList
 · exact absurd hr (h _)
 · obtain⟨tp,p,hv⟩:=hE.syn;exact(Any.strconv_Atoi_syntax_var Tryz.laysC172 s (by omega) hr tp p w hv).mono fun _ _ ⟨N,he,_,_,hb⟩=>⟨_,N,he,hb⟩
 · obtain⟨tp,p,hv⟩:=hE.rng;exact(Any.strconv_Atoi_range_var Tryz.laysC172 s (by omega) hr tp p w hv).mono fun _ _ ⟨N,he,_,_,hb⟩=>⟨_,N,he,hb⟩
theorem num_size (v:Int) (h0:-1000000000000<=v) (h1:v<=1000000000000):(num v).size<=14:=by
 have:=itoa_length v h0 h1
 show(Lib.itoa v).toArray.size<=14
 simpa using this
theorem zAE_0 {p:Prop} (h:p:=by
 rintro e w1 ⟨rfl,hb1⟩;go_wp2_with (first|(go_at_call 107;refine(in_any _ _).mono ?_;rintro e w' ⟨rfl,rfl⟩)|(go_at_call 199;refine(text_any _ (by omega) (by omega) _ (hE.below hb1)).mono ?_;rintro e w2 ⟨rfl,hb2⟩))
 go_ret2
 exact⟨rfl,hb1.trans (hb2.mono hb1.size)⟩
 ):p:=h
theorem parse_yes (v:Int) (h0:-1000000000000<=v) (h1:v<=1000000000000) (w:World) (hE:Env w) :
 Calls Tryz.prog 179 #[.string (num v)] w fun e w'=>e=.returned (.tuple #[.int .i64 v,.bool true])/\Below w.heap.size w w':=by
 have hi:=inB_yes h0 h1;go_enter Tryz.func179,Tryz.ntmps179;go_wp2_with fail;refine(atoi_ok _ (by have:=num_size v h0 h1;omega) v (by rw[num_list];exact atoi_itoa v (by omega) (by omega)) _).mono ?_;exact zAE_0
theorem toList_ne {a b:ByteArray} (h:a≠b):(a.toList==b.toList)=false:=by
 rw[beq_eq_false_iff_ne,Lib.toList_data,Lib.toList_data];exact fun e=>h (WideShapes.bytes_inj e)
theorem parse_no (s:ByteArray) (hs:s.size<=140737488355328) (h:∀v,inB v=true->num v≠s) (w:World) (hE:Env w) :
 Calls Tryz.prog 179 #[.string s] w fun e w'=>e=.returned (.tuple #[.int .i64 0,.bool false])/\Below w.heap.size w w':=by
 by_cases hv:∃v,Lib.atoiAll s.data.toList=.ok v
 · obtain⟨v,hv⟩:=hv
   cases hi:inB v
   · have Hi:=Lib.hid hi;clear hi;go_enter Tryz.func179,Tryz.ntmps179;go_wp2_with fail;refine(atoi_ok _ hs v hv _).mono ?_;rintro e w1 ⟨rfl,hb1⟩;go_wp2_with (go_at_call 107;refine(in_any _ _).mono ?_;rintro e w' ⟨rfl,rfl⟩;rw[Hi.out])
     go_ret2
     exact⟨rfl,hb1⟩
   · obtain⟨h0,h1⟩:=inB_true hi;have hne:((num v).toList==s.toList)=false:=toList_ne (h v hi);go_enter Tryz.func179,Tryz.ntmps179;go_wp2_with fail;refine(atoi_ok _ hs v hv _).mono ?_;exact zAE_0
 · go_enter Tryz.func179,Tryz.ntmps179;go_wp2_with fail;refine(atoi_bad _ hs (fun v e=>hv ⟨v,e⟩) _ hE).mono ?_;rintro e w1 ⟨_,_,rfl,hb1⟩;go_wp2_with fail;go_ret2
   exact⟨rfl,hb1⟩
end Go.Proofs.YtbgodajefaahdaaGreatDoor.Nu
namespace Go.Proofs.YtbgodajefaahdaaGreatDoor.Nu
open Go.ChangeShapes Go.WideShapes Go.ChangeAt Go.RowKit
section
variable {H:Type} {enc:TypeId×Value->H}
theorem law_post {f:Func} {s:ChangeSpec} {W W':World} {args:Array Value} {b:Bool} {ds:List (DataW H)} {before:List MemPlace}
 (hW:DataW.Whole enc Tryz.prog f.params.toList s.vars false W args.toList ds [] before)
 (hres:DataW.TrodAll enc Tryz.prog W' W.heap.size (fun _=>false) false f.resultTypes.toList ((Value.bool b).resultList f.resultTypes.size) (s.fn H (ds++[])).results [])
 (hargs:DataW.TrodAll enc Tryz.prog W' 0 (fun k=>decide (k<W.heap.size)) true f.params.toList args.toList (s.fn H (ds++[])).args before)
 (hvars:DataW.TrodVars enc Tryz.prog W' (fun k=>decide (k<W.heap.size)) s.vars (s.fn H (ds++[])).vars [])
 (hb:Below W.heap.size W W'):s.post enc Tryz.prog f false true false false W args (.bool b) W':=
 ⟨ds,[],before,[],before,[],hW,hres,hargs,hvars,World.keptBut_mono (fun _ hp=>⟨hp,Or.inr (Or.inl hp)⟩) (hb.frame (· ∈ before)),fun h=>by cases h⟩
end
theorem own:ownKnob Tryz.prog.godebug=none:=by kernel_rfl
def laidAll:List (String×DataW Unit):=[("math/bits.deBruijn32tab",Rows.laid_math_bits_deBruijn32tab),("math/bits.deBruijn64tab",Rows.laid_math_bits_deBruijn64tab),("internal/strconv.uint64pow10",Rows.laid_internal_strconv_uint64pow10),("strconv.ErrRange",Rows.laid_strconv_ErrRange),("strconv.ErrSyntax",Rows.laid_strconv_ErrSyntax)]
theorem door_met (os:Os) (args:Array Value):laidMetH Tryz.prog laidAll ((World.doorLaid Tryz.prog 62 os).forCall (fun _ _=>0) ⟨#[],args,[]⟩).memory:=
 laidMetH_of_parts3 (fuel:=8) (laidMet_of_run' 8 (by kernel_rfl) (by kernel_rfl)) (by kernel_rfl) (by kernel_rfl)
theorem var_lt {P:Program} {w:World} {n:String} {cs:Array Value} {g:Nat} (hg:P.globalNamed n=some g) (hv:w.var? P n=some cs):g<w.heap.size:=by
 unfold World.var? at hv;rw[hg] at hv;simp only[Option.bind_some] at hv;rcases Nat.lt_or_ge g w.heap.size with h|h
 · exact h
 · rw[Array.getElem?_eq_none h] at hv;cases hv
theorem pow_tab:(Rows.laid_internal_strconv_uint64pow10:DataW Unit)=Lib.tabData .u64 Lib.pow10Tab:=by kernel_rfl
theorem c_tab:Tryz.prog.cellsOf 318=20:=by kernel_rfl
theorem c_u64:Tryz.prog.cellsOf 296=1:=by kernel_rfl
theorem g_tab:Tryz.prog.globalNamed "internal/strconv.uint64pow10" = some 2:=by kernel_rfl
theorem g_rng:Tryz.prog.globalNamed "strconv.ErrRange" = some 1:=by kernel_rfl
theorem g_syn:Tryz.prog.globalNamed "strconv.ErrSyntax" = some 0:=by kernel_rfl
theorem t_tab:(Tryz.prog.globals[2]?).map (·.type)=some 318:=by kernel_rfl
theorem t_rng:(Tryz.prog.globals[1]?).map (·.type)=some 272:=by kernel_rfl
theorem t_syn:(Tryz.prog.globals[0]?).map (·.type)=some 272:=by kernel_rfl
theorem cs_one {cs:Array Value} {x:Value} (h:cs.toList=[x]):cs=#[x]:=by cases cs;simp at h;rw[h]
theorem env_of_laid {W:World} (h:laidMetH Tryz.prog laidAll W):Env W:=by
 rw[MakeChecks.laidMetH_plain _ _ _ (by kernel_rfl)] at h;obtain⟨ps,⟨g0,t0,c0,f0,p0,q0,_,_,_,_,⟨g1,t1,c1,f1,p1,q1,_,_,_,_,⟨g2,t2,c2,f2,p2,q2,hg2,ht2,hv2,hd2,⟨g3,t3,c3,f3,p3,q3,hg3,ht3,hv3,hd3,⟨g4,t4,c4,f4,p4,q4,hg4,ht4,hv4,hd4,_,_⟩,_⟩,_⟩,_⟩,_⟩,_,_⟩:=h;obtain rfl:=Option.some.inj (g_tab.symm.trans hg2);obtain rfl:=Option.some.inj (g_rng.symm.trans hg3);obtain rfl:=Option.some.inj (g_syn.symm.trans hg4);obtain rfl:=Option.some.inj (t_tab.symm.trans ht2);obtain rfl:=Option.some.inj (t_rng.symm.trans ht3);obtain rfl:=Option.some.inj (t_syn.symm.trans ht4);rw[pow_tab] at hd2;have e2:=Lib.cells_of_tab Tryz.underlying318 Tryz.underlying296 c_u64 c_tab hd2;obtain⟨_,u3,v3,e3,_,_⟩:=iface_of_trod Tryz.underlying272 hd3;obtain⟨_,u4,v4,e4,_,_⟩:=iface_of_trod Tryz.underlying272 hd4;exact⟨var_lt g_tab hv2,var_lt g_rng hv3,var_lt g_syn hv4,by unfold Lib.TabIs;rw[hv2,← e2],⟨u4,v4,by rw[hv4,cs_one e4]⟩,⟨u3,v3,by rw[hv3,cs_one e3]⟩⟩
end Go.Proofs.YtbgodajefaahdaaGreatDoor.Nu
namespace Go.Proofs.YtbgodajefaahdaaGreatDoor.Lx
open Go.Proofs.YtbgodajefaahdaaGreatDoor.Nu
abbrev bs (s:ByteArray):List UInt8:=s.data.toList
theorem bs_len (s:ByteArray):(bs s).length=s.size:=by simp[bs]
theorem bs_inj {a b:ByteArray} (h:bs a=bs b):a=b:=by
 cases a;cases b
 simp only[bs,ByteArray.mk.injEq] at *
 exact Array.ext' h
theorem bs_cut (s:ByteArray) (a b:Nat):bs (s.extract a b)=((bs s).drop a).take (b-a):=by
 show(s.extract a b).data.toList=_
 rw[ByteArray.data_extract,Array.toList_extract]
def mkS (l:List UInt8):ByteArray:=⟨l.toArray⟩
theorem bs_mk (l:List UInt8):bs (mkS l)=l:=rfl
abbrev mt:ByteArray:=⟨#[]⟩
theorem head_mk (s:ByteArray) (n:Nat):s.extract 0 n=mkS ((bs s).take n):=by
 apply bs_inj
 rw[bs_cut,bs_mk,List.drop_zero,Nat.sub_zero]
theorem tail_mk (s:ByteArray) (a:Nat):s.extract a s.size=mkS ((bs s).drop a):=by
 apply bs_inj
 rw[bs_cut,bs_mk,List.take_of_length_le (by rw[List.length_drop,bs_len];exact Nat.le_refl _)]
def ltrI (x:Int):Bool:=decide (97<=x)&&decide (x<=122)
def digI (x:Int):Bool:=decide (48<=x)&&decide (x<=57)
def wrdI (x:Int):Bool:=ltrI x||digI x||decide (x=95)
def inlI (x:Int):Bool:=!decide (x=10)
def ltrC (c:UInt8):Bool:=ltrI (c.toNat:Int)
def digC (c:UInt8):Bool:=digI (c.toNat:Int)
def wrdC (c:UInt8):Bool:=wrdI (c.toNat:Int)
def inlC (c:UInt8):Bool:=inlI (c.toNat:Int)
def spn (p:UInt8->Bool) (l:List UInt8):Nat:=(l.takeWhile p).length
theorem spn_le (p:UInt8->Bool) (l:List UInt8):spn p l<=l.length:=by
 unfold spn
 induction l with
 | nil=>simp
 | cons c t ih=>
  rw[List.takeWhile_cons]
  split
  · simp only[List.length_cons];omega
  · simp
theorem spn_nil (p:UInt8->Bool):spn p []=0:=rfl
theorem spn_yes {p:UInt8->Bool} {c:UInt8} {t:List UInt8} (h:p c=true):spn p (c::t)=spn p t+1:=by unfold spn;rw[List.takeWhile_cons,if_pos h];rfl
theorem spn_no {p:UInt8->Bool} {c:UInt8} {t:List UInt8} (h:p c=false):spn p (c::t)=0:=by unfold spn;rw[List.takeWhile_cons,if_neg (by simp[h])];rfl
theorem spn_hit {p:UInt8->Bool}:∀{l:List UInt8} {k:Nat} (hk:k<l.length),(∀j,j<k->(h:j<l.length)->p l[j]=true)->p l[k]=false->spn p l=k
 | [],k,hk,_,_=>absurd hk (Nat.not_lt_zero _)
 | c::t,0,_,_,e=>spn_no e
 | c::t,k+1,hk,h,e=>by
  rw[spn_yes (c:=c) (h 0 (Nat.succ_pos _) (by simp)),spn_hit (l:=t) (k:=k) (by simpa using hk) (fun j hj hl=>h (j+1) (by omega) (by simpa using hl)) e]
theorem spn_all {p:UInt8->Bool}:∀{l:List UInt8},(∀j,(h:j<l.length)->p l[j]=true)->spn p l=l.length
 | [],_=>rfl
 | c::t,h=>by
  rw[spn_yes (c:=c) (h 0 (by simp)),spn_all (l:=t) (fun j hl=>h (j+1) (by simpa using hl))];rfl
theorem spn_in {p:UInt8->Bool}:∀{l:List UInt8} {j:Nat},j<spn p l->(h:j<l.length)->p l[j]=true
 | [],j,_,h=>absurd h (Nat.not_lt_zero _)
 | c::t,j,hj,h=>by
  cases hc:p c with
  | false=>rw[spn_no hc] at hj;omega
  | true=>
   rw[spn_yes hc] at hj
   cases j with
   | zero=>exact hc
   | succ j=>exact spn_in (l:=t) (by omega) (by simpa using h)
theorem spn_at {p:UInt8->Bool}:∀{l:List UInt8} (h:spn p l<l.length),p (l[spn p l])=false
 | [],h=>absurd h (Nat.not_lt_zero _)
 | c::t,h=>by
  cases hc:p c with
  | false=>
   have e:=spn_no (t:=t) hc;simp only[e,List.getElem_cons_zero,hc]
  | true=>
   have e:=spn_yes (t:=t) hc;simp only[e,List.getElem_cons_succ];rw[e] at h;exact spn_at (l:=t) (by simpa using h)
theorem spn_app {p:UInt8->Bool}:∀{l e:List UInt8},(∀c,e.head?=some c->p c=false)->spn p (l++e)=spn p l
 | [],e,h=>by
  cases e with
  | nil=>rfl
  | cons c t=>rw[List.nil_append,spn_no (h c rfl)];rfl
 | c::t,e,h=>by
  rw[List.cons_append]
  cases hc:p c with
  | false=>rw[spn_no hc,spn_no hc]
  | true=>rw[spn_yes hc,spn_yes hc,spn_app h]
theorem spn_long {p:UInt8->Bool}:∀{l e:List UInt8},spn p l=l.length->spn p (l++e)=l.length+spn p e
 | [],e,_=>by simp
 | c::t,e,h=>by
  cases hc:p c with
  | false=>rw[spn_no hc] at h;simp at h
  | true=>
   rw[spn_yes hc] at h;rw[List.cons_append,spn_yes hc,spn_long (by simpa using h),List.length_cons];omega
theorem spn_short {p:UInt8->Bool}:∀{l e:List UInt8},spn p l<l.length->spn p (l++e)=spn p l
 | [],e,h=>absurd h (Nat.not_lt_zero _)
 | c::t,e,h=>by
  rw[List.cons_append]
  cases hc:p c with
  | false=>rw[spn_no hc,spn_no hc]
  | true=>
   rw[spn_yes hc] at h;rw[spn_yes hc,spn_yes hc,spn_short (by simpa using h)]
theorem spn_take {p:UInt8->Bool} {l:List UInt8}:∀c∈l.take (spn p l),p c=true:=by
 intro c hc;obtain⟨j,hj,rfl⟩:=List.getElem_of_mem hc;rw[List.length_take] at hj;rw[List.getElem_take];exact spn_in (by omega) (by omega)
def sgl:List (List UInt8):=[[43],[45],[42],[47],[37],[61],[33,61],[60],[60,61],[62],[62,61],[40],[41],[44],[58],[46]]
def isSg (l:List UInt8):Bool:=sgl.contains l
def isWd (l:List UInt8):Bool:=decide (spn ltrC l≠0)&&decide (spn wrdC l=l.length)
def isDg (l:List UInt8):Bool:=decide (l ≠ [])&&l.all digC
def numO (l:List UInt8):Option Int:=if l.length=0∨13<l.length∨(1<l.length/\l.headD 0=48)∨l.all digC=false∨1000000000000<foldD l then none else some (foldD l)
structure Tk where
 k:Int
 t:ByteArray
 n:Int
 l:Int
def fstO (l:List UInt8):Option (Tk×Nat):=
 if spn ltrC l=0 then
  if spn digC l=0 then
   if 2<=l.length/\isSg (l.take 2)=true then some (⟨3,mkS (l.take 2),0,0⟩,2)
   else if isSg (l.take 1)=true then some (⟨3,mkS (l.take 1),0,0⟩,1) else none
  else match numO (l.take (spn digC l)) with
   | some v=>some (⟨2,mt,v,0⟩,spn digC l)
   | none=>none
 else some (⟨1,mkS (l.take (spn wrdC l)),0,0⟩,spn wrdC l)
theorem isSg_len {l:List UInt8} (h:isSg l=true):1<=l.length/\l.length<=2:=by
 unfold isSg sgl at h;simp only[List.contains_eq_mem,List.mem_cons,List.not_mem_nil,or_false,decide_eq_true_eq] at h;rcases h with rfl|rfl|rfl|rfl|rfl|rfl|rfl|rfl|rfl|rfl|rfl|rfl|rfl|rfl|rfl|rfl <;> decide
theorem wrd_ltr {c:UInt8} (h:ltrC c=true):wrdC c=true:=by unfold wrdC wrdI;unfold ltrC at h;rw[h];rfl
theorem spn_pos {p:UInt8->Bool} {l:List UInt8} (h:spn p l≠0):∃c t,l=c::t/\p c=true:=by
 cases l with
 | nil=>exact absurd rfl h
 | cons c t=>
  cases hc:p c with
  | false=>exact absurd (spn_no hc) h
  | true=>exact⟨c,t,rfl,hc⟩
theorem spn_one {p:UInt8->Bool} {c:UInt8} {t:List UInt8} (h:p c=true):1<=spn p (c::t):=by rw[spn_yes h];omega
theorem fst_size {l:List UInt8} {x:Tk} {k:Nat} (h:fstO l=some (x,k)):1<=k/\k<=l.length:=by
 unfold fstO at h;by_cases h1:spn ltrC l=0
 · rw[if_pos h1] at h;by_cases h2:spn digC l=0
   · rw[if_pos h2] at h;by_cases h3:2<=l.length/\isSg (l.take 2)=true
     · rw[if_pos h3] at h;cases h;exact⟨by omega,h3.1⟩
     · rw[if_neg h3] at h;by_cases h4:isSg (l.take 1)=true
       · rw[if_pos h4] at h;cases h;have:=isSg_len h4;rw[List.length_take] at this;omega
       · rw[if_neg h4] at h;cases h
   · rw[if_neg h2] at h
     split at h
     · cases h;exact⟨by omega,spn_le _ _⟩
     · cases h
 · rw[if_neg h1] at h;cases h
   obtain⟨c,t,rfl,hc⟩:=spn_pos h1;exact⟨spn_one (wrd_ltr hc),spn_le _ _⟩
def opn (a:List Tk):Bool:=match a.getLast? with|none=>false|some x=>decide (x.k≠4)
def endL (a:List Tk) (n:Nat):List Tk:=if opn a=true then a++[⟨4,mt,0,(n:Int)⟩] else a
structure Res where
 a:List Tk
 n:Nat
 bad:Bool
def setL (x:Tk) (n:Nat):Tk:=⟨x.k,x.t,x.n,(n:Int)⟩
def lexF:Nat->List UInt8->List Tk->Nat->Res
 | 0,_,a,n=>⟨a,n,false⟩
 | _+1,[],a,n=>⟨a,n,false⟩
 | f+1,c::t,a,n=>
  if c=32∨c=9 then lexF f t a n
  else if c=35 then lexF f ((c::t).drop (spn inlC (c::t))) a n
  else if c=10 then lexF f t (endL a n) (n+1)
  else match fstO (c::t) with
   | none=>⟨a,n,true⟩
   | some (x,k)=>lexF f ((c::t).drop k) (a++[setL x n]) n
def lexL (l:List UInt8) (a:List Tk) (n:Nat):Res:=lexF l.length l a n
theorem inl_35:inlC 35=true:=by decide
theorem zAK_0 {p:Prop} (h:p:=by rw[List.length_drop,List.length_cons];omega):p:=h
theorem lexF_more:∀(f:Nat) (l:List UInt8) (a:List Tk) (n:Nat),l.length<=f->lexF f l a n=lexF l.length l a n:=by
 intro f
 induction f using Nat.strongRecOn with
 | _ f ih=>
  intro l a n hf
  cases l with
  | nil=>cases f <;> rfl
  | cons c t=>
   obtain⟨g,rfl⟩:∃g,f=g+1:=⟨f-1,by simp only[List.length_cons] at hf;omega⟩
   have hg:t.length<=g:=by simpa using hf
   by_cases e:g=t.length
   · subst e;rfl
   have hlt:t.length<g+1:=by omega
   have key:∀m (b:List Tk) q,m.length<=t.length->lexF g m b q=lexF t.length m b q:=fun m b q hm=>by
    rw[ih g (by omega) m b q (by omega),ih t.length (by omega) m b q hm]
   show lexF (g+1) (c::t) a n=lexF (t.length+1) (c::t) a n
   unfold lexF;by_cases h1:c=32∨c=9
   · rw[if_pos h1,if_pos h1];exact key _ _ _ (Nat.le_refl _)
   rw[if_neg h1,if_neg h1];by_cases h2:c=35
   · rw[if_pos h2,if_pos h2];refine key _ _ _ ?_;have:=spn_one (p:=inlC) (c:=c) (t:=t) (by rw[h2];exact inl_35);rw[List.length_drop,List.length_cons];omega
   rw[if_neg h2,if_neg h2];by_cases h3:c=10
   · rw[if_pos h3,if_pos h3];exact key _ _ _ (Nat.le_refl _)
   rw[if_neg h3,if_neg h3]
   cases h4:fstO (c::t) with
   | none=>rfl
   | some y=>
    obtain⟨x,k⟩:=y;have:=fst_size h4;exact key _ _ _ zAK_0
theorem lexL_nil (a:List Tk) (n:Nat):lexL [] a n=⟨a,n,false⟩:=rfl
theorem lexL_cons (c:UInt8) (t:List UInt8) (a:List Tk) (n:Nat):lexL (c::t) a n =
 if c=32∨c=9 then lexL t a n
 else if c=35 then lexL ((c::t).drop (spn inlC (c::t))) a n
 else if c=10 then lexL t (endL a n) (n+1)
 else match fstO (c::t) with
  | none=>⟨a,n,true⟩
  | some (x,k)=>lexL ((c::t).drop k) (a++[setL x n]) n:=by
 show lexF (t.length+1) (c::t) a n=_
 unfold lexF lexL;by_cases h1:c=32∨c=9
 · rw[if_pos h1,if_pos h1]
 rw[if_neg h1,if_neg h1];by_cases h2:c=35
 · rw[if_pos h2,if_pos h2];have:=spn_one (p:=inlC) (c:=c) (t:=t) (by rw[h2];exact inl_35);exact lexF_more _ _ _ _ zAK_0
 rw[if_neg h2,if_neg h2];by_cases h3:c=10
 · rw[if_pos h3,if_pos h3]
 rw[if_neg h3,if_neg h3]
 cases h4:fstO (c::t) with
 | none=>rfl
 | some y=>
  obtain⟨x,k⟩:=y;have:=fst_size h4;exact lexF_more _ _ _ _ zAK_0
theorem lex_blank {c:UInt8} {t:List UInt8} {a:List Tk} {n:Nat} (h:c=32∨c=9):lexL (c::t) a n=lexL t a n:=by rw[lexL_cons,if_pos h]
theorem lex_note {t:List UInt8} {a:List Tk} {n:Nat}:lexL (35::t) a n=lexL ((35::t).drop (spn inlC (35::t))) a n:=by rw[lexL_cons,if_neg (by decide),if_pos rfl]
theorem lex_line {t:List UInt8} {a:List Tk} {n:Nat}:lexL (10::t) a n=lexL t (endL a n) (n+1):=by rw[lexL_cons,if_neg (by decide),if_neg (by decide),if_pos rfl]
def tokC (c:UInt8):Prop:=¬(c=32∨c=9)/\¬c=35/\¬c=10
theorem lex_bad {c:UInt8} {t:List UInt8} {a:List Tk} {n:Nat} (h:tokC c) (e:fstO (c::t)=none):lexL (c::t) a n=⟨a,n,true⟩:=by rw[lexL_cons,if_neg h.1,if_neg h.2.1,if_neg h.2.2,e]
theorem lex_tok {c:UInt8} {t:List UInt8} {a:List Tk} {n:Nat} {x:Tk} {k:Nat} (h:tokC c) (e:fstO (c::t)=some (x,k)):lexL (c::t) a n=lexL ((c::t).drop k) (a++[setL x n]) n:=by rw[lexL_cons,if_neg h.1,if_neg h.2.1,if_neg h.2.2,e]
end Go.Proofs.YtbgodajefaahdaaGreatDoor.Lx
namespace Go.Proofs.YtbgodajefaahdaaGreatDoor.Ex
abbrev Nm:=List UInt8
end Go.Proofs.YtbgodajefaahdaaGreatDoor.Ex
namespace Go.Proofs.YtbgodajefaahdaaGreatDoor
def okF (n d:Int):Bool:=decide (1<=d/\d<=1000000000000000/\-4611686018427387904<=n/\n<=4611686018427387904/\Nat.gcd n.natAbs d.natAbs=1)
def cut (n:Int) (d:Nat):Option (Int×Int):=if n.natAbs<=4611686018427387904/\d<=1000000000000000 then some (n,(d:Int)) else none
def keep (r:Rat):Option (Int×Int):=cut r.num r.den
def qv (n d:Int):Rat:=mkRat n d.natAbs
def uN (n d:Int):Int:=if okF n d then n else 0
def uD (n d:Int):Int:=if okF n d then d else 1
def qz (n d:Int):Rat:=qv (uN n d) (uD n d)
end Go.Proofs.YtbgodajefaahdaaGreatDoor
namespace Go.Proofs.YtbgodajefaahdaaGreatDoor.Lx
open Go.Proofs.YtbgodajefaahdaaGreatDoor.Nu
open Go.Lib
theorem dig_nat {c:UInt8} (h:digC c=true):48<=c.toNat/\c.toNat<=57:=by
 unfold digC digI at h;simp only[Bool.and_eq_true,decide_eq_true_eq] at h;omega
theorem dig_of {c:UInt8} (h0:48<=c.toNat) (h1:c.toNat<=57):digC c=true:=by
 unfold digC digI;simp only[Bool.and_eq_true,decide_eq_true_eq];omega
theorem itoa_nat (v:Int) (h:0<=v):itoa v=decDigits v.toNat:=by unfold itoa;rw[if_neg (by omega)]
theorem itoa_dig {v:Int} (h:0<=v):(itoa v).all digC=true:=by
 rw[itoa_nat v h,List.all_eq_true];intro c hc;have:=dec_digits v.toNat c hc;exact dig_of this.1 this.2
theorem itoa_ne {v:Int} (h:0<=v):itoa v ≠ []:=by
 rw[itoa_nat v h];obtain⟨c,r,e,-⟩:=dec_cons v.toNat;rw[e];exact List.cons_ne_nil _ _
theorem dec_head:∀u:Nat,10<=u->(decDigits u).headD 0≠48:=by
 intro u
 induction u using Nat.strongRecOn with
 | _ u ih=>
  intro h;rw[dec_big (by omega)];by_cases h2:u / 10<10
  · rw[dec_small h2];intro e;have e2:(UInt8.ofNat (48+u / 10)).toNat=48:=by
     have:UInt8.ofNat (48+u / 10)=48:=e;rw[this];rfl
    rw[digit_nat _ h2] at e2;omega
  · obtain⟨c,r,e,-⟩:=dec_cons (u / 10);have:=ih (u / 10) (by omega) (by omega);rw[e] at this ⊢;exact this
theorem foldD_itoa {v:Int} (h:0<=v):foldD (itoa v)=v:=by rw[fold_itoa,absZ_pos h]
theorem itoa_foldD (l:List UInt8):l ≠ []->(1<l.length->l.headD 0≠48)->l.all digC=true->0<=foldD l/\(1<l.length->1<=foldD l)/\itoa (foldD l)=l:=by
 generalize hn:l.length=n
 induction n generalizing l with
 | zero=>intro h;exact absurd (List.length_eq_zero_iff.1 hn) h
 | succ n ih=>
  rcases List.eq_nil_or_concat l with rfl|⟨m,c,rfl⟩
  · simp at hn
  · rw[List.concat_eq_append] at hn ⊢;intro _ h1 h2;rw[List.all_append,Bool.and_eq_true] at h2;have hc:digC c=true:=by simpa using h2.2
    obtain⟨c1,c2⟩:=dig_nat hc;have e:foldD (m++[c])=10*foldD m+(c.toNat-48):=by rw[foldD_snoc,fold1,if_pos ⟨c1,c2⟩]
    have ec:UInt8.ofNat (48+(c.toNat-48))=c:=by rw[show 48+(c.toNat-48)=c.toNat by omega];exact UInt8.ofNat_toNat
    by_cases hm:m=[]
    · subst hm;have e0:foldD ([]:List UInt8)=0:=rfl;rw[e0] at e;rw[e];refine⟨by omega,fun h=>by simp at hn;omega,?_⟩;rw[itoa_small _ (by omega) (by omega),show(10*0+((c.toNat:Int)-48)).toNat=c.toNat-48 by omega,ec];rfl
    · have hml:m.length=n:=by simpa using hn
      have hpos:1<=m.length:=by cases m with|nil=>exact absurd rfl hm|cons _ _=>simp
      have hh:m.headD 0≠48:=by
       have:=h1 (by omega)
       cases m with
       | nil=>exact absurd rfl hm
       | cons d t=>exact this
      obtain⟨i1,i2,i3⟩:=ih m hml hm (fun _=>hh) h2.1;have hone:1<=foldD m:=by
       by_cases hl:1<n
       · exact i2 hl
       · cases m with
         | nil=>exact absurd rfl hm
         | cons d t=>
          have ht:t=[]:=List.length_eq_zero_iff.1 (by simp at hml;omega);subst ht;have hd:digC d=true:=by simpa using h2.1
          obtain⟨d1,d2⟩:=dig_nat hd;have e3:foldD [d]=10*0+(d.toNat-48):=by
           have:foldD ([]++[d])=fold1 (foldD []) d:=foldD_snoc [] d;rw[List.nil_append] at this;rw[this,fold1,if_pos ⟨d1,d2⟩];rfl
          have hd0:d.toNat≠48:=fun g=>hh (by
           show d=48
           apply UInt8.toNat_inj.1
           rw[g];rfl)
          rw[e3];omega
      rw[e];refine⟨by omega,fun _=>by omega,?_⟩;rw[itoa_big _ (by omega),show(10*foldD m+((c.toNat:Int)-48)) / 10=foldD m by omega,show(10*foldD m+((c.toNat:Int)-48)) % 10=(c.toNat:Int)-48 by omega,i3,
       itoa_small _ (by omega) (by omega),show((c.toNat:Int)-48).toNat=c.toNat-48 by omega,ec]
theorem numO_some {l:List UInt8} {v:Int}:numO l=some v↔0<=v/\v<=1000000000000/\l=itoa v:=by
 unfold numO;constructor
 · intro h
   split at h
   · cases h
   · rename_i hc
     simp only[not_or,not_and,Bool.not_eq_false] at hc;obtain⟨h1,h2,h3,h4,h5⟩:=hc;cases h
     have:=itoa_foldD l (fun e=>h1 (by rw[e];rfl)) h3 h4;exact⟨this.1,by omega,this.2.2.symm⟩
 · rintro⟨h0,h1,rfl⟩;have hl:(itoa v).length<=13:=by rw[itoa_nat v h0,decDigits_length];have:=nDigits_le 12 v.toNat (by omega);omega
   rw[if_neg,foldD_itoa h0];simp only[not_or,not_and,Bool.not_eq_false];refine⟨fun e=>itoa_ne h0 (List.length_eq_zero_iff.1 e),by omega,fun h=>?_,itoa_dig h0,by rw[foldD_itoa h0];omega⟩;rw[itoa_nat v h0] at h ⊢;refine dec_head _ ?_;rcases Nat.lt_or_ge v.toNat 10 with g|g
   · rw[dec_small g] at h;simp at h
   · exact g
theorem numO_none {l:List UInt8}:numO l=none ↔ ∀v:Int,0<=v->v<=1000000000000->l≠itoa v:=by
 constructor
 · intro h v h0 h1 e;rw[numO_some.2 ⟨h0,h1,e⟩] at h;cases h
 · intro h
   cases e:numO l with
   | none=>rfl
   | some v=>
    obtain⟨h0,h1,e1⟩:=numO_some.1 e;exact absurd e1 (h v h0 h1)
end Go.Proofs.YtbgodajefaahdaaGreatDoor.Lx
namespace Go.Proofs.YtbgodajefaahdaaGreatDoor.Lx
open Go.Proofs.YtbgodajefaahdaaGreatDoor.Nu
open Go.RowKit
set_option maxHeartbeats 2000000
theorem byte_is {c:UInt8} {n:Nat} (hn:n<256):(c=UInt8.ofNat n)↔((c.toNat:Int)=(n:Int)):=by
 constructor
 · rintro rfl;rw[UInt8.toNat_ofNat'];omega
 · intro h
   apply UInt8.toNat_inj.1
   rw[UInt8.toNat_ofNat'];omega
end Go.Proofs.YtbgodajefaahdaaGreatDoor.Lx
namespace Go.Proofs.YtbgodajefaahdaaGreatDoor.Lx
open Go.Proofs.YtbgodajefaahdaaGreatDoor.Nu
open Go.RowKit
set_option maxHeartbeats 2000000
theorem spn_cut {p:UInt8->Bool}:∀(l:List UInt8) (n:Nat),spn p (l.take n)=min n (spn p l)
 | [],n=>by simp[spn_nil]
 | c::t,0=>by simp[spn_nil]
 | c::t,n+1=>by
  rw[List.take_succ_cons]
  cases hc:p c with
  | false=>rw[spn_no hc,spn_no hc];omega
  | true=>rw[spn_yes hc,spn_yes hc,spn_cut t n];omega
theorem wd_iff {l:List UInt8}:isWd l=true↔spn ltrC l≠0/\spn wrdC l=l.length:=by
 unfold isWd;simp only[Bool.and_eq_true,decide_eq_true_eq]
end Go.Proofs.YtbgodajefaahdaaGreatDoor.Lx
