/-
  Parts of this proof: Plain definitions and facts about the integers t. The contracts of package num's integer functions. Plain facts about decimal numerals. The library functions that this program calls, c. The contracts of Text and Parse of package num. What the listed library variables give the walks. Mathematics of names. Mathematics of expressions. Words for worlds and expressions in memory. The last step of a law's row; what an expression. Mathematics of tokens. Mathematics of lists of names. Plain facts about fractions, about division by d. The number of a text. The contract of the reference's longest. Words for worlds and lists of texts in memory; h. The contracts of Find, of the library and of the. Closing tactics under a short name. The contracts of letter and digit, of the librar. Words for lists of texts in memory; the contract.
-/
import Derived.Test.YtbgodajefaahdaaGreatDoorRows
import Derived.WalkKit
import Derived.WalkSpells
import Derived.Lib.Hide
import Derived.WalkLawsBesides
import Derived.Lib.AtoiAll
import Derived.Lib.ItoaNum
import Derived.Shelf.Strconv.Atoi
import Derived.Shelf.Strconv.Itoa0
import Derived.Shelf.Strconv.Itoa1
import Derived.Shelf.LaysM
import Derived.Shelf.Strconv.Itoa2
import Derived.Shelf.Strconv.Itoa3
import Derived.Shelf.Strconv.AtoiErrFast
import Derived.Shelf.Strconv.ParseIntEmpty
import Derived.Shelf.Strconv.AtoiFail
import Derived.Shelf.Strconv.Clone
import Derived.Shelf.Strconv.SyntaxError
import Derived.Shelf.LaysC
import Derived.Shelf.Strconv.ToError
import Derived.Shelf.Strconv.Lower
import Derived.Shelf.Strconv.ParseUint10
import Derived.Shelf.Strconv.ParseUint10Empty
import Derived.Shelf.Strconv.ParseUint10Any
import Derived.Shelf.Strconv.ParseInt10
import Derived.Shelf.Strconv.AtoiLong
import Derived.Shelf.Strconv.AtoiInnerAll
import Derived.Shelf.Strconv.RangeError
import Derived.Shelf.Strconv.ToErrorRange
import Derived.Shelf.Strconv.AtoiAll
import Derived.Shelf.Strconv.ErrVarAll
import Derived.Test.YtbgodajefaahdaaGreatDoorProg
import Derived.ProofKit
import Derived.LaidMore
import Derived.LaidHandle
import Derived.MakeChecks
import Derived.OpenShut
import Derived.Stop.Joined
import Derived.Lib.LaidTab
import Derived.Lib.Bytealg
import Derived.Laws.Strings3
import Derived.LoopTactic
import Derived.RegionTactic
import Derived.Deep.QuietTactic
import Derived.BigQuiet
import Derived.Outline
import Derived.Deep.DeepCutAuto
import Derived.Deep.CutBlock
import Derived.Deep.RegionHeld3
import Derived.StillTailTactics
import Derived.Maps.AppendAt
import Derived.Laws.OwnMore
import Derived.OwnWalk
import Derived.ArgAppend
import Derived.Lib.SliceRun
import Derived.Lib.AppendZeros
import Derived.Lib.OthersKept
import Derived.Lib.SmallJoins
import Derived.Deep.Slices
import Derived.Deep.Fields
import Derived.ChangeSame
import Derived.SliceStrings
import Derived.SizedLaws
import Derived.Lib.SlicesCompact
import Derived.Lib.RowBridge
import Derived.Maps.RangeWalk
import Derived.Maps.OwnSet
import Derived.OrdersHeld
import Derived.Sort.EncStr
open Go.Proofs.Tryz renaming prog->ae
open Go renaming World->U,Addr->au,Value->ax,Calls->az
open Option renaming some->V,none->ai
open Go.RowKit renaming Below->af
open Bool renaming and_eq_true->ag
open List renaming cons_append->ah,length_cons->ak
open Nat renaming le_refl->aj,lt_of_lt_of_le->av,lt_or_ge->ay
set_option linter.unusedVariables false
open Go.Lib (hid)
namespace Go.Proofs.YtbgodajefaahdaaGreatDoor
namespace Nu
def dG (n:Int):Bool:=decide (-1000000000000<=n/\n<=1000000000000)
theorem acE {n:Int} (h0:-1000000000000<=n) (h1:n<=1000000000000):dG n=true:=by unfold dG;simp;omega
theorem acC {n:Int} (h:n < -1000000000000∨1000000000000<n):dG n=false:=by unfold dG;simp;omega
theorem acD {n:Int} (h:dG n=true):-1000000000000<=n/\n<=1000000000000:=by unfold dG at h;simpa using h
def MW (n:Int):Int:=if n<0 then -n else n
theorem aiD {n:Int} (h:0<=n):MW n=n:=by unfold MW;rw[if_neg (by omega)]
theorem oG {k:IntKind} {a b:Int} (h:a=b):Ending.returned (.int k a)=.returned (.int k b):=by rw[h]
theorem iB {a b:Bool} (h:a=b):Ending.returned (.bool a)=.returned (.bool b):=by rw[h]
end Nu
namespace Nu
open Go.RowKit
set_option maxHeartbeats 400000
theorem XF {p:Prop} (h:p:=by
 go_enter Tryz.func107,Tryz.ntmps107
 go_wp2
 go_ret;exact⟨iB (by simp;try omega),rfl⟩
 ):p:=h
theorem EB (n:Int) (w:U):az ae 107 #[.int .i64 n] w fun e w'=>e=.returned (.bool (dG n))/\w=w':=by
 rcases Int.lt_or_le 1000000000000 n with h|h
 · rw[acC (Or.inr h)];exact XF
 · rcases Int.lt_or_le n (-1000000000000) with h'|h'
   · rw[acC (Or.inl h')];exact XF
   · rw[acE h' h];exact XF
end Nu
namespace Nu
open Go.Lib
theorem Gr (d:Nat) (h:d<10):(UInt8.ofNat (48+d)).toNat=48+d:=by
 rw[UInt8.toNat_ofNat'];omega
theorem Gp {u:Nat} (h:u<10):decDigits u=[UInt8.ofNat (48+u)]:=by rw[decDigits,dif_pos h]
theorem Jt {u:Nat} (h:¬u<10):decDigits u=decDigits (u / 10)++[UInt8.ofNat (48+u % 10)]:=by rw[decDigits,dif_neg h]
theorem apu (l m:List UInt8):∀a,parseUint10 a (l++m)=match parseUint10 a l with|.ok b=>parseUint10 b m|r=>r:=by
 induction l with
 | nil=>intro a;rfl
 | cons c l ih=>
  intro a;simp only[ah,parseUint10]
  split
  · split
    · rfl
    · split
      · rfl
      · exact ih _
  · rfl
theorem jV {p:Prop} (h:p:=by omega):p:=h
theorem aer (a d:Nat) (ha:a<=922337203685477580) (h:d<10):parseUint10 a [UInt8.ofNat (48+d)]=.ok (a*10+d):=by
 simp only[parseUint10,Gr d h];rw[if_pos jV,if_neg jV,if_neg jV]
 congr 1
 omega
theorem aeq (u:Nat) (hu:u<=9223372036854775808):parseUint10 0 (decDigits u)=.ok u:=by
 induction u using Nat.strongRecOn with
 | _ u ih=>
  by_cases h:u<10
  · rw[Gp h,aer 0 u jV h,Nat.zero_mul,Nat.zero_add]
  · rw[Jt h,apu,ih (u / 10) jV jV];simp only;rw[aer (u / 10) (u % 10) jV jV]
    congr 1
    omega
theorem aae (u:Nat):∀c∈decDigits u,48<=c.toNat/\c.toNat<=57:=by
 induction u using Nat.strongRecOn with
 | _ u ih=>
  by_cases h:u<10
  · rw[Gp h];intro c hc;rw[List.mem_singleton] at hc;subst hc;rw[Gr u h];omega
  · rw[Jt h];intro c hc;rcases List.mem_append.1 hc with hc|hc
    · exact ih (u / 10) jV c hc
    · rw[List.mem_singleton] at hc;subst hc;rw[Gr _ jV];omega
theorem NR (u:Nat):∃c r,decDigits u=c::r/\48<=c.toNat/\c.toNat<=57:=by
 have hl:=decDigits_length u;have hp:=nDigits_pos u
 match hd:decDigits u with
 | []=>rw[hd] at hl;simp at hl;omega
 | c::r=>exact⟨c,r,rfl,aae u c (by rw[hd];exact List.mem_cons_self)⟩
theorem aiN (v:Int) (h0:-9223372036854775808<=v) (h1:v<=9223372036854775807):atoiAll (itoa v)=.ok v:=by
 unfold itoa
 split
 · rename_i h
   obtain⟨c,r,e,-,-⟩:=NR v.natAbs;have hp:=aeq v.natAbs jV;have hm:parseMag (decDigits v.natAbs)=.ok v.natAbs:=by unfold parseMag;rw[if_neg (by rw[e];simp)];exact hp
   unfold atoiAll;simp only[show(45:UInt8).toNat=45 from rfl];rw[if_pos (Or.inr trivial),hm];simp
   rw[if_neg jV]
   congr 1
   omega
 · rename_i h
   obtain⟨c,r,e,h2,h3⟩:=NR v.toNat;have hp:=aeq v.toNat jV;have hm:parseMag (decDigits v.toNat)=.ok v.toNat:=by unfold parseMag;rw[if_neg (by rw[e];simp)];exact hp
   rw[e] at hm ⊢;unfold atoiAll;simp only;rw[if_neg jV,hm];have h4:¬c.toNat=45:=by omega
   simp[h4]
   rw[if_neg jV]
   congr 1
   omega
theorem O7:∀(k u:Nat),u<10 ^ (k+1)->nDigits u<=k+1
 | 0,u,h=>by rw[nDigits_small (by simpa using h)];exact aj _
 | k+1,u,h=>by
  by_cases hs:u<10
  · rw[nDigits_small hs];omega
  · rw[nDigits_big hs];have:=O7 k (u / 10) (by rw[Nat.pow_succ] at h;omega);omega
theorem anp (v:Int) (h0:-1000000000000<=v) (h1:v<=1000000000000):(itoa v).length<=14:=by
 unfold itoa
 split
 · rw[ak,decDigits_length];have:=O7 12 v.natAbs jV;omega
 · rw[decDigits_length];have:=O7 12 v.toNat jV;omega
theorem Uu (n:Int) (h0:0<=n) (h1:n<10):itoa n=[UInt8.ofNat (48+n.toNat)]:=by
 unfold itoa;rw[if_neg jV,Gp jV]
theorem anm (n:Int) (h:10<=n):itoa n=itoa (n / 10)++itoa (n % 10):=by
 rw[Uu (n % 10) jV jV];unfold itoa;rw[if_neg jV,if_neg jV,Jt jV,show(n / 10).toNat=n.toNat / 10 by omega,show(n % 10).toNat=n.toNat % 10 by omega]
def zq (n:Int) (c:UInt8):Int:=if 48<=c.toNat/\c.toNat<=57 then 10*n+(c.toNat-48) else n
def kW (l:List UInt8):Int:=l.foldl zq 0
theorem abA (l m:List UInt8) (a:Int):(l++m).foldl zq a=m.foldl zq (l.foldl zq a):=List.foldl_append
theorem abB (u:Nat):kW (decDigits u)=u:=by
 unfold kW
 induction u using Nat.strongRecOn with
 | _ u ih=>
  by_cases h:u<10
  · rw[Gp h];simp only[List.foldl_cons,List.foldl_nil,zq,Gr u h];rw[if_pos jV];omega
  · rw[Jt h,abA,ih (u / 10) jV];simp only[List.foldl_cons,List.foldl_nil,zq,Gr (u % 10) jV];rw[if_pos jV];omega
theorem amo (l:List UInt8):kW (45::l)=kW l:=by
 unfold kW;rw[List.foldl_cons];rfl
theorem abz (l:List UInt8) (c:UInt8):kW (l++[c])=zq (kW l) c:=by unfold kW;rw[abA];rfl
theorem amn (v:Int):kW (itoa v)=MW v:=by
 unfold itoa MW
 split
 · rw[amo,abB];omega
 · rw[abB];omega
end Nu
end Go.Proofs.YtbgodajefaahdaaGreatDoor
namespace Go.Proofs
open Go.Shelf
def Tryz.anX:Go.Shelf.Ren:=⟨fun|171=>206|243=>214|246=>227|283=>235|284=>236|285=>237|286=>238|129=>240|317=>239|318=>241|319=>242|320=>243|337=>244|338=>245|n=>n,fun|3=>3|9=>9|2=>2|4=>4|171=>311|0=>0|53=>296|37=>150|5=>5|173=>314|212=>318|51=>319|20=>20|213=>320|46=>299|232=>323|233=>324|n=>n,fun|17=>2|18=>3|19=>4|n=>n⟩
theorem gu {p:Prop} (h:p:=by kernel_rfl):p:=h
theorem Tryz.anW:Go.Proofs.LaysM.n171 ae Tryz.anX:={
 mixed:=by kernel_rfl
 f129:=Tryz.func240.trans (congrArg V gu)
 f171:=Tryz.func206.trans (congrArg V gu)
 f243:=Tryz.func214.trans (congrArg V gu)
 f246:=Tryz.func227.trans (congrArg V gu)
 f283:=Tryz.func235.trans (congrArg V gu)
 f284:=Tryz.func236.trans (congrArg V gu)
 f285:=Tryz.func237.trans (congrArg V gu)
 f286:=Tryz.func238.trans (congrArg V gu)
 f317:=Tryz.func239.trans (congrArg V gu)
 f318:=Tryz.func241.trans (congrArg V gu)
 f319:=Tryz.func242.trans (congrArg V gu)
 f320:=Tryz.func243.trans (congrArg V gu)
 f337:=Tryz.func244.trans (congrArg V gu)
 f338:=Tryz.func245.trans (congrArg V gu)
 t0:=Tryz.underlying0
 a0:=Tryz.isAgg0
 z0:=Tryz.sizeOf0
 v0:=Tryz.zeroValue0
 t2:=Tryz.underlying2
 a2:=Tryz.isAgg2
 z2:=Tryz.sizeOf2
 v2:=Tryz.zeroValue2
 t3:=Tryz.underlying3
 a3:=Tryz.isAgg3
 z3:=Tryz.sizeOf3
 v3:=Tryz.zeroValue3
 t4:=Tryz.underlying4
 a4:=Tryz.isAgg4
 z4:=Tryz.sizeOf4
 v4:=Tryz.zeroValue4
 t5:=Tryz.underlying5
 a5:=Tryz.isAgg5
 z5:=Tryz.sizeOf5
 v5:=Tryz.zeroValue5
 t9:=Tryz.underlying9
 a9:=Tryz.isAgg9
 z9:=Tryz.sizeOf9
 v9:=Tryz.zeroValue9
 t20:=Tryz.underlying20
 a20:=Tryz.isAgg20
 z20:=Tryz.sizeOf20
 v20:=Tryz.zeroValue20
 t37:=Tryz.underlying150
 a37:=Tryz.isAgg150
 z37:=Tryz.sizeOf150
 v37:=Tryz.zeroValue150
 t46:=Tryz.underlying299
 a46:=Tryz.isAgg299
 z46:=Tryz.sizeOf299
 v46:=Tryz.zeroValue299
 t51:=Tryz.underlying319
 a51:=Tryz.isAgg319
 z51:=Tryz.sizeOf319
 v51:=Tryz.zeroValue319
 t53:=Tryz.underlying296
 a53:=Tryz.isAgg296
 z53:=Tryz.sizeOf296
 v53:=Tryz.zeroValue296
 t171:=Tryz.underlying311
 a171:=Tryz.isAgg311
 z171:=Tryz.sizeOf311
 v171:=Tryz.zeroValue311
 t173:=Tryz.underlying314
 a173:=Tryz.isAgg314
 z173:=Tryz.sizeOf314
 v173:=Tryz.zeroValue314
 t212:=Tryz.underlying318
 a212:=Tryz.isAgg318
 z212:=Tryz.sizeOf318
 v212:=Tryz.zeroValue318
 t213:=Tryz.underlying320
 a213:=Tryz.isAgg320
 z213:=Tryz.sizeOf320
 t232:=Tryz.underlying323
 a232:=Tryz.isAgg323
 z232:=Tryz.sizeOf323
 v232:=Tryz.zeroValue323
 t233:=Tryz.underlying324
 a233:=Tryz.isAgg324
 z233:=Tryz.sizeOf324
 v233:=Tryz.zeroValue324
 g17:=by kernel_rfl
 g18:=by kernel_rfl
 g19:=by kernel_rfl
 i0:=by kernel_rfl
 i2:=by kernel_rfl
 i3:=by kernel_rfl
 i4:=by kernel_rfl
 i5:=by kernel_rfl
 i9:=by kernel_rfl
 i20:=by kernel_rfl
 i37:=by kernel_rfl
 i46:=by kernel_rfl
 i51:=by kernel_rfl
 i53:=by kernel_rfl
 i171:=by kernel_rfl
 i173:=by kernel_rfl
 i212:=by kernel_rfl
 i232:=by kernel_rfl
 i233:=by kernel_rfl
 m17:=by kernel_rfl
 m18:=by kernel_rfl
 m19:=by kernel_rfl }
def Tryz.anV:Go.Shelf.Ren:=⟨fun|172=>198|244=>204|245=>205|247=>209|279=>210|280=>211|281=>212|282=>213|287=>224|316=>225|171=>206|205=>226|321=>233|322=>234|243=>214|246=>227|283=>235|284=>236|285=>237|286=>238|129=>240|317=>239|318=>241|319=>242|320=>243|337=>244|338=>245|n=>n,fun|9=>9|3=>3|75=>272|76=>273|4=>4|5=>5|167=>280|37=>150|0=>0|85=>281|2=>2|168=>283|53=>296|175=>297|46=>299|210=>301|127=>307|145=>310|143=>308|21=>21|171=>311|173=>314|212=>318|51=>319|20=>20|213=>320|232=>323|233=>324|80=>142|n=>n,fun|15=>0|16=>1|17=>2|18=>3|19=>4|n=>n⟩
theorem Tryz.UH:Go.Proofs.LaysC.n172 ae Tryz.anV:={
 mixed:=by kernel_rfl
 f129:=Tryz.func240.trans (congrArg V gu)
 f171:=Tryz.func206.trans (congrArg V gu)
 f172:=Tryz.func198.trans (congrArg V gu)
 f205:=Tryz.func226.trans (congrArg V gu)
 f243:=Tryz.func214.trans (congrArg V gu)
 f244:=Tryz.func204.trans (congrArg V gu)
 f245:=Tryz.func205.trans (congrArg V gu)
 f246:=Tryz.func227.trans (congrArg V gu)
 f247:=Tryz.func209.trans (congrArg V gu)
 f279:=Tryz.func210.trans (congrArg V gu)
 f280:=Tryz.func211.trans (congrArg V gu)
 f281:=Tryz.func212.trans (congrArg V gu)
 f282:=Tryz.func213.trans (congrArg V gu)
 f283:=Tryz.func235.trans (congrArg V gu)
 f284:=Tryz.func236.trans (congrArg V gu)
 f285:=Tryz.func237.trans (congrArg V gu)
 f286:=Tryz.func238.trans (congrArg V gu)
 f287:=Tryz.func224.trans (congrArg V gu)
 f316:=Tryz.func225.trans (congrArg V gu)
 f317:=Tryz.func239.trans (congrArg V gu)
 f318:=Tryz.func241.trans (congrArg V gu)
 f319:=Tryz.func242.trans (congrArg V gu)
 f320:=Tryz.func243.trans (congrArg V gu)
 f321:=Tryz.func233.trans (congrArg V gu)
 f322:=Tryz.func234.trans (congrArg V gu)
 f337:=Tryz.func244.trans (congrArg V gu)
 f338:=Tryz.func245.trans (congrArg V gu)
 t0:=Tryz.underlying0
 a0:=Tryz.isAgg0
 z0:=Tryz.sizeOf0
 v0:=Tryz.zeroValue0
 t2:=Tryz.underlying2
 a2:=Tryz.isAgg2
 z2:=Tryz.sizeOf2
 v2:=Tryz.zeroValue2
 t3:=Tryz.underlying3
 a3:=Tryz.isAgg3
 z3:=Tryz.sizeOf3
 v3:=Tryz.zeroValue3
 t4:=Tryz.underlying4
 a4:=Tryz.isAgg4
 z4:=Tryz.sizeOf4
 v4:=Tryz.zeroValue4
 t5:=Tryz.underlying5
 a5:=Tryz.isAgg5
 z5:=Tryz.sizeOf5
 v5:=Tryz.zeroValue5
 t9:=Tryz.underlying9
 a9:=Tryz.isAgg9
 z9:=Tryz.sizeOf9
 v9:=Tryz.zeroValue9
 t20:=Tryz.underlying20
 a20:=Tryz.isAgg20
 z20:=Tryz.sizeOf20
 v20:=Tryz.zeroValue20
 t21:=Tryz.underlying21
 a21:=Tryz.isAgg21
 z21:=Tryz.sizeOf21
 v21:=Tryz.zeroValue21
 t37:=Tryz.underlying150
 a37:=Tryz.isAgg150
 z37:=Tryz.sizeOf150
 v37:=Tryz.zeroValue150
 t46:=Tryz.underlying299
 a46:=Tryz.isAgg299
 z46:=Tryz.sizeOf299
 v46:=Tryz.zeroValue299
 t51:=Tryz.underlying319
 a51:=Tryz.isAgg319
 z51:=Tryz.sizeOf319
 v51:=Tryz.zeroValue319
 t53:=Tryz.underlying296
 a53:=Tryz.isAgg296
 z53:=Tryz.sizeOf296
 v53:=Tryz.zeroValue296
 t75:=Tryz.underlying272
 a75:=Tryz.isAgg272
 z75:=Tryz.sizeOf272
 v75:=Tryz.zeroValue272
 t76:=Tryz.underlying273
 a76:=Tryz.isAgg273
 z76:=Tryz.sizeOf273
 v76:=Tryz.zeroValue273
 t85:=Tryz.underlying281
 a85:=Tryz.isAgg281
 z85:=Tryz.sizeOf281
 v85:=Tryz.zeroValue281
 t127:=Tryz.underlying307
 a127:=Tryz.isAgg307
 z127:=Tryz.sizeOf307
 v127:=Tryz.zeroValue307
 t143:=Tryz.underlying308
 a143:=Tryz.isAgg308
 z143:=Tryz.sizeOf308
 v143:=Tryz.zeroValue308
 t145:=Tryz.underlying310
 a145:=Tryz.isAgg310
 z145:=Tryz.sizeOf310
 v145:=Tryz.zeroValue310
 t167:=Tryz.underlying280
 a167:=Tryz.isAgg280
 z167:=Tryz.sizeOf280
 v167:=Tryz.zeroValue280
 t168:=Tryz.underlying283
 a168:=Tryz.isAgg283
 z168:=Tryz.sizeOf283
 v168:=Tryz.zeroValue283
 t171:=Tryz.underlying311
 a171:=Tryz.isAgg311
 z171:=Tryz.sizeOf311
 v171:=Tryz.zeroValue311
 t173:=Tryz.underlying314
 a173:=Tryz.isAgg314
 z173:=Tryz.sizeOf314
 v173:=Tryz.zeroValue314
 t175:=Tryz.underlying297
 a175:=Tryz.isAgg297
 z175:=Tryz.sizeOf297
 v175:=Tryz.zeroValue297
 t210:=Tryz.underlying301
 a210:=Tryz.isAgg301
 z210:=Tryz.sizeOf301
 v210:=Tryz.zeroValue301
 t212:=Tryz.underlying318
 a212:=Tryz.isAgg318
 z212:=Tryz.sizeOf318
 v212:=Tryz.zeroValue318
 t213:=Tryz.underlying320
 a213:=Tryz.isAgg320
 z213:=Tryz.sizeOf320
 t232:=Tryz.underlying323
 a232:=Tryz.isAgg323
 z232:=Tryz.sizeOf323
 v232:=Tryz.zeroValue323
 t233:=Tryz.underlying324
 a233:=Tryz.isAgg324
 z233:=Tryz.sizeOf324
 v233:=Tryz.zeroValue324
 g15:=by kernel_rfl
 g16:=by kernel_rfl
 g17:=by kernel_rfl
 g18:=by kernel_rfl
 g19:=by kernel_rfl
 t80:=Tryz.underlying142
 a80:=Tryz.isAgg142
 z80:=Tryz.sizeOf142
 v80:=Tryz.zeroValue142
 i0:=by kernel_rfl
 i2:=by kernel_rfl
 i3:=by kernel_rfl
 i4:=by kernel_rfl
 i5:=by kernel_rfl
 i9:=by kernel_rfl
 i20:=by kernel_rfl
 i21:=by kernel_rfl
 i37:=by kernel_rfl
 i46:=by kernel_rfl
 i51:=by kernel_rfl
 i53:=by kernel_rfl
 i75:=by kernel_rfl
 i76:=by kernel_rfl
 i80:=by kernel_rfl
 i85:=by kernel_rfl
 i127:=by kernel_rfl
 i143:=by kernel_rfl
 i145:=by kernel_rfl
 i167:=by kernel_rfl
 i168:=by kernel_rfl
 i171:=by kernel_rfl
 i173:=by kernel_rfl
 i175:=by kernel_rfl
 i210:=by kernel_rfl
 i212:=by kernel_rfl
 i232:=by kernel_rfl
 i233:=by kernel_rfl
 m15:=by kernel_rfl
 m16:=by kernel_rfl
 m17:=by kernel_rfl
 m18:=by kernel_rfl
 m19:=by kernel_rfl
 c0:=by kernel_rfl
 c2:=by kernel_rfl
 c3:=by kernel_rfl
 c4:=by kernel_rfl
 c5:=by kernel_rfl
 c9:=by kernel_rfl
 c20:=by kernel_rfl
 c21:=by kernel_rfl
 c37:=by kernel_rfl
 c46:=by kernel_rfl
 c51:=by kernel_rfl
 c53:=by kernel_rfl
 c75:=by kernel_rfl
 c76:=by kernel_rfl
 c80:=by kernel_rfl
 c85:=by kernel_rfl
 c127:=by kernel_rfl
 c143:=by kernel_rfl
 c145:=by kernel_rfl
 c167:=by kernel_rfl
 c168:=by kernel_rfl
 c171:=by kernel_rfl
 c173:=by kernel_rfl
 c175:=by kernel_rfl
 c210:=by kernel_rfl
 c212:=by kernel_rfl
 c213:=by kernel_rfl
 c232:=by kernel_rfl
 c233:=by kernel_rfl }
end Go.Proofs
namespace Go.Proofs.YtbgodajefaahdaaGreatDoor
namespace Nu
open Go.RowKit
set_option maxHeartbeats 400000
structure Env (w:U):Prop where
 ag4:2<w.heap.size
 ag1:1<w.heap.size
 ag3:0<w.heap.size
 tab:Lib.TabIs ae w "internal/strconv.uint64pow10" .u64 Lib.pow10Tab
 syn:∃tp p,w.var? ae "strconv.ErrSyntax" = V #[.iface tp p]
 rng:∃tp p,w.var? ae "strconv.ErrRange" = V #[.iface tp p]
theorem Env.below {w w':U} (h:Env w) (hb:af w.heap.size w w'):Env w':=by
 obtain⟨tp,p,h1⟩:=h.syn;obtain⟨tq,q,h2⟩:=h.rng;exact⟨av h.ag4 hb.size,av h.ag1 hb.size,av h.ag3 hb.size,var?_below hb (by kernel_rfl) h.ag4 h.tab,
  ⟨tp,p,var?_below hb (by kernel_rfl) h.ag3 h1⟩,⟨tq,q,var?_below hb (by kernel_rfl) h.ag1 h2⟩⟩
theorem amW (w:U) (k:Nat) (os:Array Obj):af w.heap.size w (Sort.grow (w.drewN k) os):=
 ⟨rfl,rfl,rfl,by rw[Sort.size_grow];exact Nat.le_add_right _ _,fun j hj=>Sort.heap_grow_old (w.drewN k) os hj⟩
def num (v:Int):ByteArray:=⟨(Lib.itoa v).toArray⟩
theorem aoW (v:Int):(num v).data.toList=Lib.itoa v:=rfl
theorem anl (n:Int) (h0:-9223372036854775808<=n) (h1:n<=9223372036854775807) (w:U) (hE:Env w) :
 az ae 206 #[.int .i64 n] w fun e w'=>e=.returned (.string (num n))/\af w.heap.size w w':=
 (show az ae 206 #[.int .i64 n] w fun e w' => e = .returned (.string (num n)) ∧ ∃ k os, w' = Sort.grow (w.drewN k) os from Any.strconv_Itoa Tryz.anW n h0 h1 w hE.tab).mono
   fun _ _ ⟨he,k,os,hw⟩=>⟨he,by rw[hw];exact amW w k os⟩
theorem ar9 (n:Int) (h0:-9223372036854775808<=n) (h1:n<=9223372036854775807) (w:U) (hE:Env w) :
 az ae 199 #[.int .i64 n] w fun e w'=>e=.returned (.string (num n))/\af w.heap.size w w':=by
 go_enter Tryz.func199,Tryz.ntmps199;go_wp2_with (go_at_call 206;refine(anl n h0 h1 _ hE).mono ?_;rintro e w' ⟨rfl,hb⟩)
 go_ret;exact⟨rfl,hb⟩
def aht (v:Int) (w:U) (e:Ending) (w':U):Prop:=e=.returned (.tuple #[.int .i64 v,.nilIface])/\af w.heap.size w w'
def ahs (w:U) (e:Ending) (w':U):Prop:=∃v:Int,∃M:Nat,e=.returned (.tuple #[.int .i64 v,.iface 283 (.pointer (V ⟨M,0,ai⟩))])/\af w.heap.size w w'
theorem Sb (s:ByteArray) (hs:s.size<=140737488355328) (v:Int) (h:Lib.atoiAll s.data.toList=.ok v) (w:U) :
 az ae 198 #[.string s] w (aht v w):=
 (show az ae 198 #[.string s] w fun e w' => e = .returned (.tuple #[.int .i64 v, .nilIface]) ∧ (w' = w ∨ ∃ t, w' = Lib.bytesWorld w 5 t) from Any.strconv_Atoi_ok Tryz.UH s (by omega) v h w).mono
   fun _ _ ⟨he,hw⟩=>⟨he,by rcases hw with rfl|⟨t,rfl⟩;exact Below.refl _ _;exact Lib.bytesWorld_below _ _ _⟩
theorem aiM (s:ByteArray) (hs:s.size<=140737488355328) (h:∀v,Lib.atoiAll s.data.toList ≠ .ok v) (w:U) (hE:Env w) :
 az ae 198 #[.string s] w (ahs w):=by
 cases hr:Lib.atoiAll s.data.toList
 · exact absurd hr (h _)
 · obtain⟨tp,p,hv⟩:=hE.syn;exact(Any.strconv_Atoi_syntax_var Tryz.UH s (by omega) hr tp p w hv).mono fun _ _ ⟨N,he,_,_,hb⟩=>⟨_,N,he,hb⟩
 · obtain⟨tp,p,hv⟩:=hE.rng;exact(Any.strconv_Atoi_range_var Tryz.UH s (by omega) hr tp p w hv).mono fun _ _ ⟨N,he,_,_,hb⟩=>⟨_,N,he,hb⟩
theorem aoX (v:Int) (h0:-1000000000000<=v) (h1:v<=1000000000000):(num v).size<=14:=by
 have:=anp v h0 h1
 show(Lib.itoa v).toArray.size<=14
 simpa using this
theorem afQ {p:Prop} (h:p:=by
 rintro e w1 ⟨rfl,hb1⟩;go_wp2_with (first|(go_at_call 107;refine(EB _ _).mono ?_;rintro e w' ⟨rfl,rfl⟩)|(go_at_call 199;refine(ar9 _ (by omega) (by omega) _ (hE.below hb1)).mono ?_;rintro e w2 ⟨rfl,hb2⟩))
 go_ret2
 exact⟨rfl,hb1.trans (hb2.mono hb1.size)⟩
 ):p:=h
theorem aes (v:Int) (h0:-1000000000000<=v) (h1:v<=1000000000000) (w:U) (hE:Env w) :
 az ae 179 #[.string (num v)] w fun e w'=>e=.returned (.tuple #[.int .i64 v,.bool true])/\af w.heap.size w w':=by
 have hi:=acE h0 h1;go_enter Tryz.func179,Tryz.ntmps179;go_wp2_with fail;refine(Sb _ (by have:=aoX v h0 h1;omega) v (by rw[aoW];exact aiN v (by omega) (by omega)) _).mono ?_;exact afQ
theorem asa {a b:ByteArray} (h:a≠b):(a.toList==b.toList)=false:=by
 rw[beq_eq_false_iff_ne,Lib.toList_data,Lib.toList_data];exact fun e=>h (WideShapes.bytes_inj e)
theorem apv (s:ByteArray) (hs:s.size<=140737488355328) (h:∀v,dG v=true->num v≠s) (w:U) (hE:Env w) :
 az ae 179 #[.string s] w fun e w'=>e=.returned (.tuple #[.int .i64 0,.bool false])/\af w.heap.size w w':=by
 by_cases hv:∃v,Lib.atoiAll s.data.toList=.ok v
 · obtain⟨v,hv⟩:=hv
   cases hi:dG v
   · have Hi:=hid hi;clear hi;go_enter Tryz.func179,Tryz.ntmps179;go_wp2_with fail;refine(Sb _ hs v hv _).mono ?_;rintro e w1 ⟨rfl,hb1⟩;go_wp2_with (go_at_call 107;refine(EB _ _).mono ?_;rintro e w' ⟨rfl,rfl⟩;rw[Hi.out])
     go_ret2
     exact⟨rfl,hb1⟩
   · obtain⟨h0,h1⟩:=acD hi;have hne:((num v).toList==s.toList)=false:=asa (h v hi);go_enter Tryz.func179,Tryz.ntmps179;go_wp2_with fail;refine(Sb _ hs v hv _).mono ?_;exact afQ
 · go_enter Tryz.func179,Tryz.ntmps179;go_wp2_with fail;refine(aiM _ hs (fun v e=>hv ⟨v,e⟩) _ hE).mono ?_;rintro e w1 ⟨_,_,rfl,hb1⟩;go_wp2_with fail;go_ret2
   exact⟨rfl,hb1⟩
end Nu
namespace Nu
open Go.ChangeShapes Go.WideShapes Go.ChangeAt Go.RowKit
section
variable {H:Type} {enc:TypeId×ax->H}
theorem Kc {f:Func} {s:ChangeSpec} {W W':U} {args:Array ax} {b:Bool} {ds:List (DataW H)} {before:List MemPlace}
 (hW:DataW.Whole enc ae f.params.toList s.vars false W args.toList ds [] before)
 (hres:DataW.TrodAll enc ae W' W.heap.size (fun _=>false) false f.resultTypes.toList ((Value.bool b).resultList f.resultTypes.size) (s.fn H (ds++[])).results [])
 (hargs:DataW.TrodAll enc ae W' 0 (fun k=>decide (k<W.heap.size)) true f.params.toList args.toList (s.fn H (ds++[])).args before)
 (hvars:DataW.TrodVars enc ae W' (fun k=>decide (k<W.heap.size)) s.vars (s.fn H (ds++[])).vars [])
 (hb:af W.heap.size W W'):s.post enc ae f false true false false W args (.bool b) W':=
 ⟨ds,[],before,[],before,[],hW,hres,hargs,hvars,World.keptBut_mono (fun _ hp=>⟨hp,Or.inr (Or.inl hp)⟩) (hb.frame (· ∈ before)),fun h=>by cases h⟩
end
theorem own:ownKnob Tryz.prog.godebug=ai:=by kernel_rfl
def laidAll:List (String×DataW Unit):=[("math/bits.deBruijn32tab",Rows.laid_math_bits_deBruijn32tab),("math/bits.deBruijn64tab",Rows.laid_math_bits_deBruijn64tab),("internal/strconv.uint64pow10",Rows.laid_internal_strconv_uint64pow10),("strconv.ErrRange",Rows.laid_strconv_ErrRange),("strconv.ErrSyntax",Rows.laid_strconv_ErrSyntax)]
theorem NZ (os:Os) (args:Array ax):laidMetH ae laidAll ((World.doorLaid ae 62 os).forCall (fun _ _=>0) ⟨#[],args,[]⟩).memory:=
 laidMetH_of_parts3 (fuel:=8) (laidMet_of_run' 8 (by kernel_rfl) (by kernel_rfl)) (by kernel_rfl) (by kernel_rfl)
theorem WZ {P:Program} {w:U} {n:String} {cs:Array ax} {g:Nat} (hg:P.globalNamed n=V g) (hv:w.var? P n=V cs):g<w.heap.size:=by
 unfold World.var? at hv;rw[hg] at hv;simp only[Option.bind_some] at hv;rcases ay g w.heap.size with h|h
 · exact h
 · rw[Array.getElem?_eq_none h] at hv;cases hv
theorem apF:(Rows.laid_internal_strconv_uint64pow10:DataW Unit)=Lib.tabData .u64 Lib.pow10Tab:=by kernel_rfl
theorem ajB:Tryz.prog.cellsOf 318=20:=by kernel_rfl
theorem ajC:Tryz.prog.cellsOf 296=1:=by kernel_rfl
theorem abM:Tryz.prog.globalNamed "internal/strconv.uint64pow10" = V 2:=by kernel_rfl
theorem abK:Tryz.prog.globalNamed "strconv.ErrRange" = V 1:=by kernel_rfl
theorem abL:Tryz.prog.globalNamed "strconv.ErrSyntax" = V 0:=by kernel_rfl
theorem ar3:(Tryz.prog.globals[2]?).map (·.type)=V 318:=by kernel_rfl
theorem ar1:(Tryz.prog.globals[1]?).map (·.type)=V 272:=by kernel_rfl
theorem ar2:(Tryz.prog.globals[0]?).map (·.type)=V 272:=by kernel_rfl
theorem jL {cs:Array ax} {x:ax} (h:cs.toList=[x]):cs=#[x]:=by cases cs;simp at h;rw[h]
theorem Oc {W:U} (h:laidMetH ae laidAll W):Env W:=by
 rw[MakeChecks.laidMetH_plain _ _ _ (by kernel_rfl)] at h;obtain⟨ps,⟨g0,t0,c0,f0,p0,q0,_,_,_,_,⟨g1,t1,c1,f1,p1,q1,_,_,_,_,⟨g2,t2,c2,f2,p2,q2,hg2,ht2,hv2,hd2,⟨g3,t3,c3,f3,p3,q3,hg3,ht3,hv3,hd3,⟨g4,t4,c4,f4,p4,q4,hg4,ht4,hv4,hd4,_,_⟩,_⟩,_⟩,_⟩,_⟩,_,_⟩:=h;obtain rfl:=Option.some.inj (abM.symm.trans hg2);obtain rfl:=Option.some.inj (abK.symm.trans hg3);obtain rfl:=Option.some.inj (abL.symm.trans hg4);obtain rfl:=Option.some.inj (ar3.symm.trans ht2);obtain rfl:=Option.some.inj (ar1.symm.trans ht3);obtain rfl:=Option.some.inj (ar2.symm.trans ht4);rw[apF] at hd2;have e2:=Lib.cells_of_tab Tryz.underlying318 Tryz.underlying296 ajC ajB hd2;obtain⟨_,u3,v3,e3,_,_⟩:=iface_of_trod Tryz.underlying272 hd3;obtain⟨_,u4,v4,e4,_,_⟩:=iface_of_trod Tryz.underlying272 hd4;exact⟨WZ abM hv2,WZ abK hv3,WZ abL hv4,by unfold Lib.TabIs;rw[hv2,← e2],⟨u4,v4,by rw[hv4,jL e4]⟩,⟨u3,v3,by rw[hv3,jL e3]⟩⟩
end Nu
namespace Na
def OT:List (List UInt8):=[
 [97,100,100],
 [97,102,116,101,114],
 [97,110,100],
 [97,116],
 [98,101,108,116],
 [98,111,111,108],
 [99,111,110,115,101,114,118,101],
 [99,111,110,115,116],
 [99,111,117,110,116],
 [99,121,99,108,101],
 [100,111,119,110],
 [100,114,97,119],
 [100,117,114],
 [101,108,115,101],
 [101,110,100],
 [101,118,101,114,121],
 [102,97,108,115,101],
 [102,97,117,108,116],
 [102,105,102,111],
 [102,114,101,101],
 [102,114,111,109],
 [103,101,111,109],
 [103,101,116],
 [104,111,108,100],
 [105,102],
 [105,110,116],
 [105,110,116,111],
 [108,101,97,115,116],
 [108,101,118,101,108],
 [108,105,102,111],
 [108,105,110,107],
 [108,111,99,97,108],
 [109,97,120],
 [109,105,110],
 [109,111,100,101,108],
 [110,111,116],
 [110,111,119],
 [111,98,115,101,114,118,101],
 [111,114],
 [112,97,114,97,109],
 [112,114,101,101,109,112,116],
 [112,114,105,111],
 [112,117,116],
 [113,117,101,117,101],
 [114,101,108,101,97,115,101],
 [114,101,115,111,117,114,99,101],
 [114,105,100,101],
 [114,111,117,116,105,110,101],
 [115,101,105,122,101],
 [115,101,110,100],
 [115,101,116],
 [115,104,105,102,116],
 [115,105,103,110,97,108],
 [115,105,116,101],
 [115,105,122,101],
 [115,112,97,119,110],
 [115,116,97,114,116],
 [115,116,111,112],
 [115,116,111,114,101],
 [115,116,114,101,97,109],
 [115,117,109],
 [116,97,98,108,101],
 [116,97,108,108,121],
 [116,105,99,107,115],
 [116,105,109,101],
 [116,114,117,101],
 [117,110,105,102,111,114,109],
 [117,110,116,105,108],
 [117,112],
 [118,97,114],
 [119,97,105,116],
 [119,97,105,116,105,110,103],
 [119,104,105,108,101]]
def lH (l:List UInt8):Bool:=OT.contains l
def mO (x:Int):Bool:=decide (97<=x)&&decide (x<=122)
def nk (x:Int):Bool:=decide (48<=x)&&decide (x<=57)
def zt (x:Int):Bool:=mO x||nk x||decide (x=95)
def ko (c:UInt8):Bool:=mO (c.toNat:Int)
def Cs (c:UInt8):Bool:=zt (c.toNat:Int)
def CX (l:List UInt8):Bool:=decide (1<=l.length)&&decide (l.length<=24)&&ko (l.headD 0) && !lH l&&l.all Cs
def iK (l:List UInt8):Int:=if CX l=true then 0 else 3
theorem akd {l:List UInt8} (h:CX l=true):iK l=0:=if_pos h
theorem Jq {l:List UInt8} (h:CX l=false):iK l=3:=if_neg (by simp[h])
theorem abT {x:Int} (h:mO x=true):zt x=true:=by unfold zt;rw[h];rfl
theorem amP {x:Int} (h:nk x=true):zt x=true:=by unfold zt;rw[h];simp
theorem amR {x:Int} (h:x=95):zt x=true:=by unfold zt;simp[h]
theorem amS {x:Int} (h1:mO x=false) (h2:nk x=false) (h3:¬x=95):zt x=false:=by unfold zt;simp[h1,h2,h3]
theorem ad9 {l:List UInt8}:CX l=true↔1<=l.length/\l.length<=24/\ko (l.headD 0)=true/\lH l=false/\l.all Cs=true:=by
 unfold CX;simp only[ag,decide_eq_true_eq,Bool.not_eq_true'];constructor
 · rintro⟨⟨⟨⟨a,b⟩,c⟩,d⟩,e⟩;exact⟨a,b,c,d,e⟩
 · rintro⟨a,b,c,d,e⟩;exact⟨⟨⟨⟨a,b⟩,c⟩,d⟩,e⟩
theorem Ku {l:List UInt8} (h:¬(1<=l.length/\l.length<=24/\ko (l.headD 0)=true/\lH l=false/\l.all Cs=true)):CX l=false:=by
 rw[← Bool.not_eq_true,ad9];exact h
theorem aci {l:List UInt8} (h:0<l.length):l.headD 0=l[0]:=by
 cases l with
 | nil=>simp at h
 | cons c t=>rfl
theorem aiY {l:List UInt8} (h:l.length<1):iK l=3:=Jq (Ku fun g=>by omega)
theorem aiX {l:List UInt8} (h:24<l.length):iK l=3:=Jq (Ku fun g=>by omega)
theorem aiV {l:List UInt8} (h0:0<l.length) (h:ko l[0]=false):iK l=3:=Jq (Ku fun g=>by
 have:=g.2.2.1;rw[aci h0,h] at this;cases this)
theorem aiW {l:List UInt8} (h:lH l=true):iK l=3:=Jq (Ku fun g=>by
 have:=g.2.2.2.1;rw[h] at this;cases this)
theorem aiU {l:List UInt8} {k:Nat} (hk:k<l.length) (h:Cs l[k]=false):iK l=3:=Jq (Ku fun g=>by
 have:=List.all_eq_true.1 g.2.2.2.2 _ (List.getElem_mem hk);rw[h] at this;cases this)
theorem all_good {l:List UInt8} (h1:1<=l.length) (h2:l.length<=24) (h3:ko l[0]=true) (h4:lH l=false) (h5:∀j,(hj:j<l.length)->Cs l[j]=true):iK l=0:=
 akd (ad9.2 ⟨h1,h2,by rw[aci h1];exact h3,h4,List.all_eq_true.2 fun c hc=>by
  obtain⟨j,hj,rfl⟩:=List.getElem_of_mem hc;exact h5 j hj⟩)
abbrev bs (s:ByteArray):List UInt8:=s.data.toList
theorem eG (s:ByteArray):(bs s).length=s.size:=by simp[bs]
theorem jO {a b:ByteArray} (h:bs a=bs b):a=b:=by
 cases a;cases b
 simp only[bs,ByteArray.mk.injEq] at *
 exact Array.toList_inj.1 h
def fst:List ByteArray->ByteArray->Int
 | [],_=>-1
 | x::t,s=>if bs x=bs s then 0 else if fst t s = -1 then -1 else fst t s+1
theorem TK (s:ByteArray):∀l:List ByteArray,-1<=fst l s
 | []=>Int.le_refl _
 | x::t=>by
  have:=TK s t;unfold fst
  split
  · omega
  · split <;> omega
theorem abG {s:ByteArray}:∀{l:List ByteArray} {k:Nat} (hk:k<l.length),(∀j,(hj:j<k)->¬bs (l[j]'(by omega))=bs s)->bs l[k]=bs s->fst l s=(k:Int)
 | [],k,hk,_,_=>absurd hk (Nat.not_lt_zero _)
 | x::t,0,hk,_,e=>by
  unfold fst;exact if_pos e
 | x::t,k+1,hk,h,e=>by
  have h0:¬bs x=bs s:=h 0 (Nat.succ_pos _);have hk':k<t.length:=by simp at hk;omega
  have ih:=abG (s:=s) (l:=t) (k:=k) hk' (fun j hj=>h (j+1) (by omega)) e;unfold fst;rw[if_neg h0,ih,if_neg (by omega)];omega
theorem abI {s:ByteArray}:∀{l:List ByteArray},(∀j,(hj:j<l.length)->¬bs l[j]=bs s)->fst l s = -1
 | [],_=>rfl
 | x::t,h=>by
  have h0:¬bs x=bs s:=h 0 (by simp);have ih:=abI (s:=s) (l:=t) (fun j hj=>h (j+1) (by simp;omega));unfold fst;rw[if_neg h0,ih,if_pos rfl]
theorem TL (s:ByteArray):∀l:List ByteArray,fst l s<l.length
 | []=>by show(-1:Int)<0;decide
 | x::t=>by
  have:=TL s t;unfold fst;rw[ak]
  split
  · omega
  · split <;> omega
def okB (l:List ByteArray) (k:Nat):Bool:=match l[k]? with
 | some x=>CX (bs x)&&decide (fst l x=(k:Int))
 | none=>true
def dst (l:List ByteArray):Int:=match (List.range l.length).find? (fun k=>!okB l k) with
 | none=>0
 | some k=>if CX (bs (l.getD k ⟨#[]⟩))=true then 4 else 3
end Na
namespace Ex
open Na (bs jO iK)
inductive Ex where
 | mk (o:Int) (s:ByteArray) (n:Int) (l:List Ex)
def Ex.o:Ex->Int
 | .mk o _ _ _=>o
def Ex.s:Ex->ByteArray
 | .mk _ s _ _=>s
def Ex.n:Ex->Int
 | .mk _ _ n _=>n
def Ex.l:Ex->List Ex
 | .mk _ _ _ l=>l
mutual
def cnt:Ex->Nat
 | .mk _ _ _ l=>jk l+1
def jk:List Ex->Nat
 | []=>0
 | x::t=>cnt x+jk t
end
mutual
def dep:Ex->Nat
 | .mk _ _ _ l=>l_ l+1
def l_:List Ex->Nat
 | []=>0
 | x::t=>max (dep x) (l_ t)
end
mutual
def pre:Ex->List Ex
 | .mk o s n l=>.mk o s n l::ku l
def ku:List Ex->List Ex
 | []=>[]
 | x::t=>pre x++ku t
end
theorem Js:∀e:Ex,1<=cnt e
 | .mk _ _ _ l=>by unfold cnt;omega
theorem SK:∀a b:List Ex,jk (a++b)=jk a+jk b
 | [],b=>by simp[jk]
 | x::t,b=>by simp only[ah,jk,SK t b];omega
theorem SN:∀a b:List Ex,l_ (a++b)=max (l_ a) (l_ b)
 | [],b=>by simp[l_]
 | x::t,b=>by simp only[ah,l_,SN t b];omega
theorem U7:∀a b:List Ex,ku (a++b)=ku a++ku b
 | [],b=>rfl
 | x::t,b=>by simp only[ah,ku,U7 t b,List.append_assoc]
theorem ar7 {α:Type} {l:List α} {k:Nat} (h:k<l.length):l.take (k+1)=l.take k++[l[k]]:=by rw[List.take_add_one,List.getElem?_eq_getElem h];rfl
theorem take_one {α:Type} {l:List α} {k:Nat} {x:α} (h:l[k]?=V x):l.take (k+1)=l.take k++[x]:=by rw[List.take_add_one,h];rfl
theorem Z_ {l:List Ex} {k:Nat} {x:Ex} (h:l[k]?=V x):jk (l.take (k+1))=jk (l.take k)+cnt x:=by rw[take_one h,SK];simp[jk]
theorem akM {l:List Ex} {k:Nat} {x:Ex} (h:l[k]?=V x):l_ (l.take (k+1))=max (l_ (l.take k)) (dep x):=by rw[take_one h,SN];simp[l_]
theorem aew {l:List Ex} {k:Nat} {x:Ex} (h:l[k]?=V x):ku (l.take (k+1))=ku (l.take k)++pre x:=by rw[take_one h,U7];simp[ku]
theorem Z9 (l:List Ex) (k:Nat):jk (l.take k)<=jk l:=by
 have:=SK (l.take k) (l.drop k);rw[List.take_append_drop] at this;omega
theorem akL (l:List Ex) (k:Nat):l_ (l.take k)<=l_ l:=by
 have:=SN (l.take k) (l.drop k);rw[List.take_append_drop] at this;omega
theorem aaa:∀{l:List Ex} {x:Ex},x∈l->cnt x<=jk l
 | [],x,h=>by cases h
 | y::t,x,h=>by
  unfold jk;rcases List.mem_cons.1 h with rfl|h
  · omega
  · have:=aaa h;omega
theorem aah:∀{l:List Ex} {x:Ex},x∈l->dep x<=l_ l
 | [],x,h=>by cases h
 | y::t,x,h=>by
  unfold l_;rcases List.mem_cons.1 h with rfl|h
  · omega
  · have:=aah h;omega
theorem Ex.ind {P:Ex->Prop} (h:∀o s n l,(∀x∈l,P x)->P (.mk o s n l)) (e:Ex):P e:=by
 have:∀k e,cnt e<=k->P e:=by
  intro k
  induction k with
  | zero=>intro e he;have:=Js e;omega
  | succ k ih=>
   intro e he;obtain⟨o,s,n,l⟩:=e;refine h o s n l fun x hx=>ih x ?_;have:=aaa hx;unfold cnt at he;omega
 exact this _ e (aj _)
mutual
theorem U9:∀e:Ex,(pre e).length=cnt e
 | .mk o s n l=>by unfold pre cnt;simp[U8 l]
theorem U8:∀l:List Ex,(ku l).length=jk l
 | []=>rfl
 | x::t=>by unfold ku jk;rw[List.length_append,U9 x,U8 t]
end
theorem aev:∀{l:List Ex} {x y:Ex},x∈l->y∈pre x->y∈ku l
 | [],x,y,h,_=>by cases h
 | z::t,x,y,h,g=>by
  unfold ku;rcases List.mem_cons.1 h with rfl|h
  · exact List.mem_append_left _ g
  · exact List.mem_append_right _ (aev h g)
theorem aag (e:Ex):dep e<=cnt e:=by
 have key:∀l:List Ex,(∀x∈l,dep x<=cnt x)->l_ l<=jk l:=by
  intro l
  induction l with
  | nil=>intro _;simp[l_,jk]
  | cons x t ih=>
   intro h;have h1:=h x List.mem_cons_self;have h2:=ih fun z hz=>h z (List.mem_cons_of_mem _ hz);unfold l_ jk;omega
 induction e using Ex.ind with
 | h o s n l ih=>
  have:=key l ih;unfold dep cnt;omega
theorem apH:∀e:Ex,e∈pre e
 | .mk o s n l=>by unfold pre;exact List.mem_cons_self
theorem apG {o:Int} {s:ByteArray} {n:Int} {l:List Ex} {x y:Ex} (hx:x∈l) (hy:y∈pre x):y∈pre (.mk o s n l):=by
 unfold pre;exact List.mem_cons_of_mem _ (aev hx hy)
def Ca (o:Int):Int:=if o<1∨26<o then -1 else if 5<=o/\o<=8 then 1 else if 9<=o/\o<=21 then 2 else 0
def obj (o:Int):Bool:=decide (22<=o)&&decide (o<=24)
def most (o:Int):Int:=if o=25 then 15 else if o=26 then 31 else 63
def known (c:Bool) (o:Int):Bool:=decide (0<=Ca o)&&(c && !decide (o=3) || !c&&decide (o<=24))
def named (c:Bool) (o:Int):Bool:=!c&&(decide (o=3)||obj o)
def counted (c:Bool) (o:Int):Bool:=c&&(obj o||decide (o=25)||decide (o=26))
def numbered (c:Bool) (o:Int):Bool:=decide (o=1)||decide (o=2)||counted c o
def OG (n:Int):Bool:=decide (-1000000000000<=n)&&decide (n<=1000000000000)
def y7 (c:Bool) (o:Int) (s:List UInt8) (n:Int) (m:Nat):Bool:=!known c o || !named c o && !decide (s=[]) || !numbered c o && !decide (n=0) || !decide ((m:Int)=Ca o)
def M_ (c:Bool) (o n:Int):Bool:=decide (o=1) && !OG n||decide (o=2) && !decide (n=0) && !decide (n=1)||counted c o&&(decide (n<0)||decide (most o<n))
def nd (c:Bool) (o:Int) (s:List UInt8) (n:Int) (m:Nat):Int:=if y7 c o s n m then 1 else if M_ c o n then 2 else if named c o then iK s else 0
def yA (c:Bool) (e:Ex):Int:=nd c e.o (bs e.s) e.n e.l.length
def bad (c:Bool):List Ex->Int
 | []=>0
 | x::t=>if yA c x=0 then bad c t else yA c x
theorem F8 {c:Bool} {x:Ex} {t:List Ex} (h:yA c x=0):bad c (x::t)=bad c t:=if_pos h
theorem Nb {c:Bool} {x:Ex} {t:List Ex} (h:¬yA c x=0):bad c (x::t)=yA c x:=if_neg h
theorem ZI {c:Bool}:∀{a b:List Ex},bad c a=0->bad c (a++b)=bad c b
 | [],b,_=>rfl
 | x::t,b,h=>by
  by_cases g:yA c x=0
  · rw[F8 g] at h;rw[ah,F8 g,ZI h]
  · rw[Nb g] at h;exact absurd h g
theorem ZH {c:Bool}:∀{a b:List Ex},¬bad c a=0->bad c (a++b)=bad c a
 | [],b,h=>absurd rfl h
 | x::t,b,h=>by
  by_cases g:yA c x=0
  · rw[F8 g] at h;rw[ah,F8 g,F8 g,ZH h]
  · rw[ah,Nb g,Nb g]
def iy (c:Bool) (e:Ex):Int:=if 60<cnt e then 6 else if 12<dep e then 11 else bad c (pre e)
mutual
def same:Ex->Ex->Bool
 | .mk o s n l,.mk o2 s2 n2 l2=>decide (o=o2)&&decide (bs s=bs s2)&&decide (n=n2)&&ky l l2
def ky:List Ex->List Ex->Bool
 | [],[]=>true
 | x::t,y::u=>same x y&&ky t u
 | [],_::_=>false
 | _::_,[]=>false
end
mutual
theorem same_eq:∀{a b:Ex},same a b=true->a=b
 | .mk o s n l,.mk o2 s2 n2 l2,h=>by
  unfold same at h;simp only[ag,decide_eq_true_eq] at h;obtain⟨⟨⟨rfl,h1⟩,rfl⟩,h2⟩:=h;rw[jO h1,KQ h2]
theorem KQ:∀{a b:List Ex},ky a b=true->a=b
 | [],[],_=>rfl
 | x::t,y::u,h=>by
  unfold ky at h;rw[ag] at h;rw[same_eq h.1,KQ h.2]
 | [],_::_,h=>by unfold ky at h;cases h
 | _::_,[],h=>by unfold ky at h;cases h
end
mutual
theorem VH:∀a:Ex,same a a=true
 | .mk o s n l=>by unfold same;simp[G_ l]
theorem G_:∀a:List Ex,ky a a=true
 | []=>by unfold ky;rfl
 | x::t=>by unfold ky;rw[VH x,G_ t];rfl
end
theorem aqG {a b:Ex} (h:a=b):same a b=true:=by rw[h];exact VH b
theorem same_iff {a b:Ex}:same a b=true↔a=b:=⟨same_eq,aqG⟩
theorem aqC:∀{a b:List Ex},ky a b=true->a.length=b.length:=fun h=>by rw[KQ h]
end Ex
namespace Ex
open Go.RowKit
open Na (bs jO)
set_option maxHeartbeats 1000000
theorem oG {k:IntKind} {a b:Int} (h:a=b):Ending.returned (.int k a)=.returned (.int k b):=by rw[h]
def Gives (v:ax) (w:U) (e:Ending) (w':U):Prop:=e=.returned v/\af w.heap.size w w'
theorem below_drewN {B:Nat} {a w:U} (h:af B a w) (n:Nat):af B a (w.drewN n):=⟨h.os,h.tape,h.output,h.size,h.block⟩
section
variable {a w w2:U}
theorem ji {o:Obj} (h:af a.heap.size a w):af a.heap.size a (w.alloc o):=h.alloc h.size o
theorem wF {n:Nat} (h:af a.heap.size a w):af a.heap.size a (w.drewN n):=below_drewN h n
theorem qB (h:af a.heap.size a w):af a.heap.size a w.drew:=h.drew
theorem y_ {p:au} (h:af a.heap.size a w) (hp:a.heap.size<=p.block) (u:ax):af a.heap.size a (w.setCell p u):=h.setCell hp u
theorem tT (h:af a.heap.size a w) (hb:af w.heap.size w w2):af a.heap.size a w2:=h.trans (hb.mono h.size)
end
theorem clash {x:Bool} (h:x=true) (g:x=false):False:=by rw[h] at g;cases g
theorem vo {a b:ByteArray} (h:bs a=bs b):(a.toList==b.toList)=true:=by rw[jO h];simp
theorem xZ {a b:ByteArray} (h:¬bs a=bs b):(a.toList==b.toList)=false:=by
 rw[beq_eq_false_iff_ne,Lib.toList_data,Lib.toList_data];exact h
theorem FZ (b o j:Nat):(⟨b,o,ai⟩:au).add j=⟨b,o+j,ai⟩:=by unfold Addr.add;split <;> simp_all
theorem block_lt {w:U} {b k:Nat} {v:ax} (h:w.cell? ⟨b,k,ai⟩=V v):b<w.heap.size:=by
 rcases ay b w.heap.size with g|g
 · exact g
 · unfold World.cell? at h;rw[Array.getElem?_eq_none g] at h;cases h
def c4 (x:Ex) (p:Option au) (m c:Nat) (r:Nat):ax:=match r with
 | 0=>.int .i64 x.o
 | 1=>.string x.s
 | 2=>.int .i64 x.n
 | _=>.slice p m c
def jQ (w:U) (g o:Nat) (x:Ex) (p:Option au) (m c:Nat):Prop:=w.cell? ⟨g,o,ai⟩=V (.int .i64 x.o)/\w.cell? ⟨g,o+1,ai⟩=V (.string x.s)/\w.cell? ⟨g,o+2,ai⟩=V (.int .i64 x.n)/\w.cell? ⟨g,o+3,ai⟩=V (.slice p m c)
theorem jQ.keep {w w2:U} {g o:Nat} {x:Ex} {p:Option au} {m c:Nat} (hb:w2.heap[g]?=w.heap[g]?) (h:jQ w g o x p m c):jQ w2 g o x p m c:=by
 obtain⟨h0,h1,h2,h3⟩:=h;exact⟨(World.cell?_of_block (w:=w) (a:=⟨g,o,ai⟩) hb).trans h0,(World.cell?_of_block (w:=w) (a:=⟨g,o+1,ai⟩) hb).trans h1,(World.cell?_of_block (w:=w) (a:=⟨g,o+2,ai⟩) hb).trans h2,(World.cell?_of_block (w:=w) (a:=⟨g,o+3,ai⟩) hb).trans h3⟩
theorem jQ.on {w w2:U} {g o:Nat} {x:Ex} {p:Option au} {m c:Nat} (hb:af w.heap.size w w2) (hg:g<w.heap.size) (h:jQ w g o x p m c):jQ w2 g o x p m c:=h.keep (hb.block g hg)
theorem NK {w:U} {g o:Nat} {x:Ex} {p:Option au} {m c:Nat} (h:∀r,r<4->w.cell? ⟨g,o+r,ai⟩=V (c4 x p m c r)):jQ w g o x p m c:=
 ⟨h 0 (by omega),h 1 (by omega),h 2 (by omega),h 3 (by omega)⟩
mutual
def bW (G:Nat->Prop) (w:U):Ex->Option au->Nat->Prop
 | .mk _ _ _ l,p,m=>l.length=m/\m<=9223372036854775807/\(m=0∨∃b o,p=V ⟨b,o,ai⟩/\G b/\b<w.heap.size/\Rows G w l b o)
def Rows (G:Nat->Prop) (w:U):List Ex->Nat->Nat->Prop
 | [],_,_=>True
 | x::t,b,o=>(∃p m c,jQ w b o x p m c/\bW G w x p m)/\Rows G w t b (o+4)
end
theorem P7 {G:Nat->Prop} {w:U}:∀{l:List Ex} {b o:Nat},Rows G w l b o ↔ ∀k,(h:k<l.length)->∃p m c,jQ w b (o+k*4) l[k] p m c/\bW G w l[k] p m
 | [],b,o=>⟨fun _ k h=>absurd h (Nat.not_lt_zero _),fun _=>trivial⟩
 | x::t,b,o=>by
  unfold Rows;constructor
  · rintro⟨h1,h2⟩ k hk
    match k,hk with
    | 0,_=>exact h1
    | k+1,hk=>
     have:=P7.1 h2 k (by simpa using hk);rw[show o+4+k*4=o+(k+1)*4 by omega] at this;exact this
  · intro h;refine⟨h 0 (by simp),P7.2 fun k hk=>?_⟩;have:=h (k+1) (by simpa using hk);rw[show o+(k+1)*4=o+4+k*4 by omega] at this;exact this
theorem anO {G:Nat->Prop} {w:U} {o':Int} {s:ByteArray} {n:Int} {l:List Ex} {p:Option au} {m:Nat}:bW G w (.mk o' s n l) p m↔l.length=m/\m<=9223372036854775807/\(m=0∨∃b o,p=V ⟨b,o,ai⟩/\G b/\b<w.heap.size/\Rows G w l b o):=by rw[bW]
theorem ry {G:Nat->Prop} {w:U} {o':Int} {s:ByteArray} {n:Int} {l:List Ex} {p:Option au} {m:Nat}:bW G w (.mk o' s n l) p m↔l.length=m/\m<=9223372036854775807/\(m=0∨∃b o,p=V ⟨b,o,ai⟩/\G b/\b<w.heap.size/\Hid (∀k,(h:k<l.length)->∃p m c,jQ w b (o+k*4) l[k] p m c/\bW G w l[k] p m)):=by
 rw[anO];refine and_congr_right fun _=>and_congr_right fun _=>or_congr_right ?_;constructor
 · rintro⟨b,o,h1,h2,h3,h4⟩;exact⟨b,o,h1,h2,h3,hid (P7.1 h4)⟩
 · rintro⟨b,o,h1,h2,h3,h4⟩;exact⟨b,o,h1,h2,h3,P7.2 h4.out⟩
theorem bW.map {G H:Nat->Prop} {w w2:U} (hs:w.heap.size<=w2.heap.size) (hk:∀b,G b->b<w.heap.size->H b/\w2.heap[b]?=w.heap[b]?) (e:Ex):∀{p m},bW G w e p m->bW H w2 e p m:=by
 induction e using Ex.ind with
 | h o s n l ih=>
  intro p m h;rw[ry] at h ⊢;obtain⟨h1,h2,h3|⟨b,o,rfl,hg,hb,h4⟩⟩:=h
  · exact⟨h1,h2,.inl h3⟩
  · obtain⟨g1,g2⟩:=hk b hg hb;refine⟨h1,h2,.inr ⟨b,o,rfl,g1,by omega,hid fun k hk=>?_⟩⟩;obtain⟨q,j,c,h5,h6⟩:=h4.out k hk;exact⟨q,j,c,h5.keep g2,ih _ (List.getElem_mem hk) h6⟩
theorem bW.mono {G H:Nat->Prop} {w:U} {e:Ex} {p:Option au} {m:Nat} (hk:∀b,G b->b<w.heap.size->H b) (h:bW G w e p m):bW H w e p m:=bW.map (aj _) (fun b g hb=>⟨hk b g hb,rfl⟩) e h
abbrev Lo (B:Nat):Nat->Prop:=fun b=>b<B
abbrev In (w:U) (e:Ex) (p:Option au) (m:Nat):Prop:=bW (Lo w.heap.size) w e p m
theorem bW.below {B:Nat} {w w2:U} {e:Ex} {p:Option au} {m:Nat} (hb:af B w w2) (h:bW (Lo B) w e p m):bW (Lo B) w2 e p m:=bW.map hb.size (fun b g _=>⟨g,hb.block b g⟩) e h
theorem bW.all {G:Nat->Prop} {w:U} {e:Ex} {p:Option au} {m:Nat} (h:bW G w e p m):In w e p m:=h.mono fun b _ hb=>hb
theorem bW.on {w w2:U} {e:Ex} {p:Option au} {m:Nat} (hb:af w.heap.size w w2) (h:In w e p m):In w2 e p m:=(bW.below hb h).all
theorem bW.alloc {w:U} {e:Ex} {p:Option au} {m:Nat} (o:Obj) (h:In w e p m):In (w.alloc o) e p m:=h.on ((Below.refl _ _).alloc (aj _) o)
theorem bW.len {G:Nat->Prop} {w:U} {o:Int} {s:ByteArray} {n:Int} {l:List Ex} {p:Option au} {m:Nat} (h:bW G w (.mk o s n l) p m):l.length=m/\m<=9223372036854775807:=⟨(ry.1 h).1,(ry.1 h).2.1⟩
theorem bW.zero {G:Nat->Prop} {w:U} {o:Int} {s:ByteArray} {n:Int} {p:Option au}:bW G w (.mk o s n []) p 0:=ry.2 ⟨rfl,by omega,.inl rfl⟩
theorem bW.kids {G:Nat->Prop} {w:U} {o:Int} {s:ByteArray} {n:Int} {l:List Ex} {p:Option au} {m:Nat} (h:bW G w (.mk o s n l) p m) (hm:0<m):∃b o,p=V ⟨b,o,ai⟩/\G b/\b<w.heap.size/\Hid (∀k,(h:k<l.length)->∃p m c,jQ w b (o+k*4) l[k] p m c/\bW G w l[k] p m):=by
 rcases (ry.1 h).2.2 with h|h
 · omega
 · exact h
def Sz (e:Ex):Prop:=∀x∈pre e,x.s.size<=140737488355328
theorem Sz.kid {o:Int} {s:ByteArray} {n:Int} {l:List Ex} (h:Sz (.mk o s n l)) {x:Ex} (hx:x∈l):Sz x:=fun y hy=>h y (apG hx hy)
theorem Sz.self {o:Int} {s:ByteArray} {n:Int} {l:List Ex} (h:Sz (.mk o s n l)):s.size<=140737488355328:=h _ (apH _)
theorem A_ {w:U} {x:Ex} {p:Option au} {m c:Nat} {t:TypeId}:jQ (w.alloc (.cells #[.int .i64 x.o,.string x.s,.int .i64 x.n,.slice p m c] t)) w.heap.size 0 x p m c:=by
 refine NK fun r hr=>?_;rw[World.cell?_alloc_mark,Nat.zero_add]
 match r,hr with
 | 0,_=>rfl
 | 1,_=>rfl
 | 2,_=>rfl
 | 3,_=>rfl
def jg (w:U) (g:Nat) (o:Int) (s:ByteArray) (n:Int) (p:Option au) (m c:Nat):Prop:=w.cell? ⟨g,0,ai⟩=V (.int .i64 o)/\w.cell? ⟨g,1,ai⟩=V (.string s)/\w.cell? ⟨g,2,ai⟩=V (.int .i64 n)/\w.cell? ⟨g,3,ai⟩=V (.slice p m c)
theorem jg.lt {w:U} {g:Nat} {o:Int} {s:ByteArray} {n:Int} {p:Option au} {m c:Nat} (h:jg w g o s n p m c):g<w.heap.size:=block_lt h.1
theorem jg.on {w w2:U} {g:Nat} {o:Int} {s:ByteArray} {n:Int} {p:Option au} {m c:Nat} (hb:af w.heap.size w w2) (h:jg w g o s n p m c):jg w2 g o s n p m c:=by
 have hg:=h.lt;obtain⟨h0,h1,h2,h3⟩:=h;exact⟨(hb.cell (p:=⟨g,0,ai⟩) hg).trans h0,(hb.cell (p:=⟨g,1,ai⟩) hg).trans h1,(hb.cell (p:=⟨g,2,ai⟩) hg).trans h2,(hb.cell (p:=⟨g,3,ai⟩) hg).trans h3⟩
theorem ni {w:U} {o:Int} {s:ByteArray} {n:Int} {p:Option au} {m c:Nat} {t:TypeId}:jg (w.alloc (.cells #[.int .i64 o,.string s,.int .i64 n,.slice p m c] t)) w.heap.size o s n p m c:=by
 have h:=A_ (w:=w) (x:=.mk o s n []) (p:=p) (m:=m) (c:=c) (t:=t);obtain⟨h0,h1,h2,h3⟩:=h;simp only[Nat.zero_add] at h1 h2 h3;exact⟨h0,h1,h2,h3⟩
theorem jg.alloc {w:U} {g:Nat} {o:Int} {s:ByteArray} {n:Int} {p:Option au} {m c:Nat} (ob:Obj) (h:jg w g o s n p m c):jg (w.alloc ob) g o s n p m c:=h.on ((Below.refl _ _).alloc (aj _) ob)
theorem SV {o n:Int} {s:ByteArray} {l:List Ex}:dep (.mk o s n l)=l_ l+1:=by rw[dep]
theorem NQ {o n:Int} {s:ByteArray} {l:List Ex}:cnt (.mk o s n l)=jk l+1:=by rw[cnt]
theorem U_ {o n:Int} {s:ByteArray} {l:List Ex}:pre (.mk o s n l)=.mk o s n l::ku l:=by rw[pre]
theorem akN {l:List Ex} (k:Nat) {x:Ex} (hx:x∈l) (h:jk l+1<=1000000):l_ (l.take k)<=1000000/\dep x<=1000000:=by
 have h1:=aag (.mk 0 ⟨#[]⟩ 0 l);have h2:=akL l k;have h3:=aah hx;rw[SV,NQ] at h1;omega
theorem akO {l:List Ex} (h:jk l+1<=1000000):l_ l<=1000000:=by
 have h1:=aag (.mk 0 ⟨#[]⟩ 0 l);rw[SV,NQ] at h1;omega
theorem akz {l:List Ex} (k:Nat) {x:Ex} (hx:l[k]?=V x) (h:jk l+1<=1000000):jk (l.take k)+cnt x<=1000000/\cnt x<=1000000:=by
 have h1:=Z_ hx;have h2:=Z9 l (k+1);omega
end Ex
namespace Ex
open Go.ChangeShapes Go.WideShapes Go.ChangeAt Go.RowKit Go.Joins Go.Deep
set_option maxHeartbeats 2000000
section
variable {H:Type} {enc:TypeId×ax->H}
theorem Kc {f:Func} {s:ChangeSpec} {W W':U} {args:Array ax} {b:Bool} {ds:List (DataW H)} {before:List MemPlace}
 (hW:DataW.Whole enc ae f.params.toList s.vars false W args.toList ds [] before)
 (hres:DataW.TrodAll enc ae W' W.heap.size (fun _=>false) false f.resultTypes.toList ((Value.bool b).resultList f.resultTypes.size) (s.fn H (ds++[])).results [])
 (hargs:DataW.TrodAll enc ae W' 0 (fun k=>decide (k<W.heap.size)) true f.params.toList args.toList (s.fn H (ds++[])).args before)
 (hvars:DataW.TrodVars enc ae W' (fun k=>decide (k<W.heap.size)) s.vars (s.fn H (ds++[])).vars [])
 (hb:af W.heap.size W W'):s.post enc ae f false true false false W args (.bool b) W':=
 ⟨ds,[],before,[],before,[],hW,hres,hargs,hvars,World.keptBut_mono (fun _ hp=>⟨hp,Or.inr (Or.inl hp)⟩) (hb.frame (· ∈ before)),fun h=>by cases h⟩
theorem own:ownKnob Tryz.prog.godebug=ai:=by kernel_rfl
theorem laidOut:laidOutB ae=true:=by kernel_rfl
theorem Zf {W W':U} {v:ax} {d:DataW H} {ps:List MemPlace} {t:TypeId} (hr:Tryz.prog.readableRec t=true) (ht:t<Tryz.prog.types.size) (h:DataW.Trod enc ae W 0 (fun _=>true) true t v d ps) (hb:af W.heap.size W W') (hlt:∀y∈ps,y.block<W.heap.size) :
 DataW.Trod enc ae W' 0 (fun k=>decide (k<W.heap.size)) true t v d ps:=Below.trod laidOut hr ht h hb hlt
end
end Ex
namespace Lx
open Nu
abbrev bs (s:ByteArray):List UInt8:=s.data.toList
theorem eG (s:ByteArray):(bs s).length=s.size:=by simp[bs]
theorem jO {a b:ByteArray} (h:bs a=bs b):a=b:=by
 cases a;cases b
 simp only[bs,ByteArray.mk.injEq] at *
 exact Array.ext' h
theorem Nj (s:ByteArray) (a b:Nat):bs (s.extract a b)=((bs s).drop a).take (b-a):=by
 show(s.extract a b).data.toList=_
 rw[ByteArray.data_extract,Array.toList_extract]
def mkS (l:List UInt8):ByteArray:=⟨l.toArray⟩
theorem pM (l:List UInt8):bs (mkS l)=l:=rfl
abbrev mt:ByteArray:=⟨#[]⟩
theorem Gy (s:ByteArray) (n:Nat):s.extract 0 n=mkS ((bs s).take n):=by
 apply jO
 rw[Nj,pM,List.drop_zero,Nat.sub_zero]
theorem ar4 (s:ByteArray) (a:Nat):s.extract a s.size=mkS ((bs s).drop a):=by
 apply jO
 rw[Nj,pM,List.take_of_length_le (by rw[List.length_drop,eG];exact aj _)]
def mO (x:Int):Bool:=decide (97<=x)&&decide (x<=122)
def nk (x:Int):Bool:=decide (48<=x)&&decide (x<=57)
def DN (x:Int):Bool:=mO x||nk x||decide (x=95)
def EC (x:Int):Bool:=!decide (x=10)
def ko (c:UInt8):Bool:=mO (c.toNat:Int)
def kK (c:UInt8):Bool:=nk (c.toNat:Int)
def nW (c:UInt8):Bool:=DN (c.toNat:Int)
def f_ (c:UInt8):Bool:=EC (c.toNat:Int)
def dz (p:UInt8->Bool) (l:List UInt8):Nat:=(l.takeWhile p).length
theorem zS (p:UInt8->Bool) (l:List UInt8):dz p l<=l.length:=by
 unfold dz
 induction l with
 | nil=>simp
 | cons c t ih=>
  rw[List.takeWhile_cons]
  split
  · simp only[ak];omega
  · simp
theorem aff (p:UInt8->Bool):dz p []=0:=rfl
theorem uH {p:UInt8->Bool} {c:UInt8} {t:List UInt8} (h:p c=true):dz p (c::t)=dz p t+1:=by unfold dz;rw[List.takeWhile_cons,if_pos h];rfl
theorem uC {p:UInt8->Bool} {c:UInt8} {t:List UInt8} (h:p c=false):dz p (c::t)=0:=by unfold dz;rw[List.takeWhile_cons,if_neg (by simp[h])];rfl
theorem afc {p:UInt8->Bool}:∀{l:List UInt8} {k:Nat} (hk:k<l.length),(∀j,j<k->(h:j<l.length)->p l[j]=true)->p l[k]=false->dz p l=k
 | [],k,hk,_,_=>absurd hk (Nat.not_lt_zero _)
 | c::t,0,_,_,e=>uC e
 | c::t,k+1,hk,h,e=>by
  rw[uH (c:=c) (h 0 (Nat.succ_pos _) (by simp)),afc (l:=t) (k:=k) (by simpa using hk) (fun j hj hl=>h (j+1) (by omega) (by simpa using hl)) e]
theorem afa {p:UInt8->Bool}:∀{l:List UInt8},(∀j,(h:j<l.length)->p l[j]=true)->dz p l=l.length
 | [],_=>rfl
 | c::t,h=>by
  rw[uH (c:=c) (h 0 (by simp)),afa (l:=t) (fun j hl=>h (j+1) (by simpa using hl))];rfl
theorem afd {p:UInt8->Bool}:∀{l:List UInt8} {j:Nat},j<dz p l->(h:j<l.length)->p l[j]=true
 | [],j,_,h=>absurd h (Nat.not_lt_zero _)
 | c::t,j,hj,h=>by
  cases hc:p c with
  | false=>rw[uC hc] at hj;omega
  | true=>
   rw[uH hc] at hj
   cases j with
   | zero=>exact hc
   | succ j=>exact afd (l:=t) (by omega) (by simpa using h)
theorem afb {p:UInt8->Bool}:∀{l:List UInt8} (h:dz p l<l.length),p (l[dz p l])=false
 | [],h=>absurd h (Nat.not_lt_zero _)
 | c::t,h=>by
  cases hc:p c with
  | false=>
   have e:=uC (t:=t) hc;simp only[e,List.getElem_cons_zero,hc]
  | true=>
   have e:=uH (t:=t) hc;simp only[e,List.getElem_cons_succ];rw[e] at h;exact afb (l:=t) (by simpa using h)
theorem afh {p:UInt8->Bool} {l:List UInt8}:∀c∈l.take (dz p l),p c=true:=by
 intro c hc;obtain⟨j,hj,rfl⟩:=List.getElem_of_mem hc;rw[List.length_take] at hj;rw[List.getElem_take];exact afd (by omega) (by omega)
def Fh:List (List UInt8):=[[43],[45],[42],[47],[37],[61],[33,61],[60],[60,61],[62],[62,61],[40],[41],[44],[58],[46]]
def iA (l:List UInt8):Bool:=Fh.contains l
def AJ (l:List UInt8):Bool:=decide (dz ko l≠0)&&decide (dz nW l=l.length)
def JW (l:List UInt8):Bool:=decide (l ≠ [])&&l.all kK
def xw (l:List UInt8):Option Int:=if l.length=0∨13<l.length∨(1<l.length/\l.headD 0=48)∨l.all kK=false∨1000000000000<kW l then ai else V (kW l)
structure Tk where
 k:Int
 t:ByteArray
 n:Int
 l:Int
def fT (l:List UInt8):Option (Tk×Nat):=
 if dz ko l=0 then
  if dz kK l=0 then
   if 2<=l.length/\iA (l.take 2)=true then V (⟨3,mkS (l.take 2),0,0⟩,2)
   else if iA (l.take 1)=true then V (⟨3,mkS (l.take 1),0,0⟩,1) else ai
  else match xw (l.take (dz kK l)) with
   | some v=>V (⟨2,mt,v,0⟩,dz kK l)
   | none=>ai
 else V (⟨1,mkS (l.take (dz nW l)),0,0⟩,dz nW l)
theorem acK {l:List UInt8} (h:iA l=true):1<=l.length/\l.length<=2:=by
 unfold iA Fh at h;simp only[List.contains_eq_mem,List.mem_cons,List.not_mem_nil,or_false,decide_eq_true_eq] at h;rcases h with rfl|rfl|rfl|rfl|rfl|rfl|rfl|rfl|rfl|rfl|rfl|rfl|rfl|rfl|rfl|rfl <;> decide
theorem Xq {c:UInt8} (h:ko c=true):nW c=true:=by unfold nW DN;unfold ko at h;rw[h];rfl
theorem Ws {p:UInt8->Bool} {l:List UInt8} (h:dz p l≠0):∃c t,l=c::t/\p c=true:=by
 cases l with
 | nil=>exact absurd rfl h
 | cons c t=>
  cases hc:p c with
  | false=>exact absurd (uC hc) h
  | true=>exact⟨c,t,rfl,hc⟩
theorem yG {p:UInt8->Bool} {c:UInt8} {t:List UInt8} (h:p c=true):1<=dz p (c::t):=by rw[uH h];omega
theorem su {l:List UInt8} {x:Tk} {k:Nat} (h:fT l=V (x,k)):1<=k/\k<=l.length:=by
 unfold fT at h;by_cases h1:dz ko l=0
 · rw[if_pos h1] at h;by_cases h2:dz kK l=0
   · rw[if_pos h2] at h;by_cases h3:2<=l.length/\iA (l.take 2)=true
     · rw[if_pos h3] at h;cases h;exact⟨by omega,h3.1⟩
     · rw[if_neg h3] at h;by_cases h4:iA (l.take 1)=true
       · rw[if_pos h4] at h;cases h;have:=acK h4;rw[List.length_take] at this;omega
       · rw[if_neg h4] at h;cases h
   · rw[if_neg h2] at h
     split at h
     · cases h;exact⟨by omega,zS _ _⟩
     · cases h
 · rw[if_neg h1] at h;cases h
   obtain⟨c,t,rfl,hc⟩:=Ws h1;exact⟨yG (Xq hc),zS _ _⟩
def opn (a:List Tk):Bool:=match a.getLast? with|none=>false|some x=>decide (x.k≠4)
def fK (a:List Tk) (n:Nat):List Tk:=if opn a=true then a++[⟨4,mt,0,(n:Int)⟩] else a
structure dm where
 a:List Tk
 n:Nat
 bad:Bool
def mP (x:Tk) (n:Nat):Tk:=⟨x.k,x.t,x.n,(n:Int)⟩
def ug:Nat->List UInt8->List Tk->Nat->dm
 | 0,_,a,n=>⟨a,n,false⟩
 | _+1,[],a,n=>⟨a,n,false⟩
 | f+1,c::t,a,n=>
  if c=32∨c=9 then ug f t a n
  else if c=35 then ug f ((c::t).drop (dz f_ (c::t))) a n
  else if c=10 then ug f t (fK a n) (n+1)
  else match fT (c::t) with
   | none=>⟨a,n,true⟩
   | some (x,k)=>ug f ((c::t).drop k) (a++[mP x n]) n
def cz (l:List UInt8) (a:List Tk) (n:Nat):dm:=ug l.length l a n
theorem Cv:f_ 35=true:=by decide
theorem XG {p:Prop} (h:p:=by rw[List.length_drop,ak];omega):p:=h
theorem adR:∀(f:Nat) (l:List UInt8) (a:List Tk) (n:Nat),l.length<=f->ug f l a n=ug l.length l a n:=by
 intro f
 induction f using Nat.strongRecOn with
 | _ f ih=>
  intro l a n hf
  cases l with
  | nil=>cases f <;> rfl
  | cons c t=>
   obtain⟨g,rfl⟩:∃g,f=g+1:=⟨f-1,by simp only[ak] at hf;omega⟩
   have hg:t.length<=g:=by simpa using hf
   by_cases e:g=t.length
   · subst e;rfl
   have hlt:t.length<g+1:=by omega
   have key:∀m (b:List Tk) q,m.length<=t.length->ug g m b q=ug t.length m b q:=fun m b q hm=>by
    rw[ih g (by omega) m b q (by omega),ih t.length (by omega) m b q hm]
   show ug (g+1) (c::t) a n=ug (t.length+1) (c::t) a n
   unfold ug;by_cases h1:c=32∨c=9
   · rw[if_pos h1,if_pos h1];exact key _ _ _ (aj _)
   rw[if_neg h1,if_neg h1];by_cases h2:c=35
   · rw[if_pos h2,if_pos h2];refine key _ _ _ ?_;have:=yG (p:=f_) (c:=c) (t:=t) (by rw[h2];exact Cv);rw[List.length_drop,ak];omega
   rw[if_neg h2,if_neg h2];by_cases h3:c=10
   · rw[if_pos h3,if_pos h3];exact key _ _ _ (aj _)
   rw[if_neg h3,if_neg h3]
   cases h4:fT (c::t) with
   | none=>rfl
   | some y=>
    obtain⟨x,k⟩:=y;have:=su h4;exact key _ _ _ XG
theorem mM (a:List Tk) (n:Nat):cz [] a n=⟨a,n,false⟩:=rfl
theorem pX (c:UInt8) (t:List UInt8) (a:List Tk) (n:Nat):cz (c::t) a n =
 if c=32∨c=9 then cz t a n
 else if c=35 then cz ((c::t).drop (dz f_ (c::t))) a n
 else if c=10 then cz t (fK a n) (n+1)
 else match fT (c::t) with
  | none=>⟨a,n,true⟩
  | some (x,k)=>cz ((c::t).drop k) (a++[mP x n]) n:=by
 show ug (t.length+1) (c::t) a n=_
 unfold ug cz;by_cases h1:c=32∨c=9
 · rw[if_pos h1,if_pos h1]
 rw[if_neg h1,if_neg h1];by_cases h2:c=35
 · rw[if_pos h2,if_pos h2];have:=yG (p:=f_) (c:=c) (t:=t) (by rw[h2];exact Cv);exact adR _ _ _ _ XG
 rw[if_neg h2,if_neg h2];by_cases h3:c=10
 · rw[if_pos h3,if_pos h3]
 rw[if_neg h3,if_neg h3]
 cases h4:fT (c::t) with
 | none=>rfl
 | some y=>
  obtain⟨x,k⟩:=y;have:=su h4;exact adR _ _ _ _ XG
theorem OX {c:UInt8} {t:List UInt8} {a:List Tk} {n:Nat} (h:c=32∨c=9):cz (c::t) a n=cz t a n:=by rw[pX,if_pos h]
theorem OY {t:List UInt8} {a:List Tk} {n:Nat}:cz (35::t) a n=cz ((35::t).drop (dz f_ (35::t))) a n:=by rw[pX,if_neg (by decide),if_pos rfl]
theorem CJ {t:List UInt8} {a:List Tk} {n:Nat}:cz (10::t) a n=cz t (fK a n) (n+1):=by rw[pX,if_neg (by decide),if_neg (by decide),if_pos rfl]
def Lj (c:UInt8):Prop:=¬(c=32∨c=9)/\¬c=35/\¬c=10
theorem anY {c:UInt8} {t:List UInt8} {a:List Tk} {n:Nat} (h:Lj c) (e:fT (c::t)=ai):cz (c::t) a n=⟨a,n,true⟩:=by rw[pX,if_neg h.1,if_neg h.2.1,if_neg h.2.2,e]
theorem an1 {c:UInt8} {t:List UInt8} {a:List Tk} {n:Nat} {x:Tk} {k:Nat} (h:Lj c) (e:fT (c::t)=V (x,k)):cz (c::t) a n=cz ((c::t).drop k) (a++[mP x n]) n:=by rw[pX,if_neg h.1,if_neg h.2.1,if_neg h.2.2,e]
end Lx
namespace Ex
abbrev Nm:=List UInt8
end Ex
section
def okF (n d:Int):Bool:=decide (1<=d/\d<=1000000000000000/\-4611686018427387904<=n/\n<=4611686018427387904/\Nat.gcd n.natAbs d.natAbs=1)
def cut (n:Int) (d:Nat):Option (Int×Int):=if n.natAbs<=4611686018427387904/\d<=1000000000000000 then V (n,(d:Int)) else ai
def keep (r:Rat):Option (Int×Int):=cut r.num r.den
def qv (n d:Int):Rat:=mkRat n d.natAbs
def uN (n d:Int):Int:=if okF n d then n else 0
def uD (n d:Int):Int:=if okF n d then d else 1
def qz (n d:Int):Rat:=qv (uN n d) (uD n d)
end
namespace Lx
open Nu
open Go.Lib
theorem SX {c:UInt8} (h:kK c=true):48<=c.toNat/\c.toNat<=57:=by
 unfold kK nk at h;simp only[ag,decide_eq_true_eq] at h;omega
theorem akR {c:UInt8} (h0:48<=c.toNat) (h1:c.toNat<=57):kK c=true:=by
 unfold kK nk;simp only[ag,decide_eq_true_eq];omega
theorem OJ (v:Int) (h:0<=v):itoa v=decDigits v.toNat:=by unfold itoa;rw[if_neg (by omega)]
theorem ann {v:Int} (h:0<=v):(itoa v).all kK=true:=by
 rw[OJ v h,List.all_eq_true];intro c hc;have:=aae v.toNat c hc;exact akR this.1 this.2
theorem anq {v:Int} (h:0<=v):itoa v ≠ []:=by
 rw[OJ v h];obtain⟨c,r,e,-⟩:=NR v.toNat;rw[e];exact List.cons_ne_nil _ _
theorem akJ:∀u:Nat,10<=u->(decDigits u).headD 0≠48:=by
 intro u
 induction u using Nat.strongRecOn with
 | _ u ih=>
  intro h;rw[Jt (by omega)];by_cases h2:u / 10<10
  · rw[Gp h2];intro e;have e2:(UInt8.ofNat (48+u / 10)).toNat=48:=by
     have:UInt8.ofNat (48+u / 10)=48:=e;rw[this];rfl
    rw[Gr _ h2] at e2;omega
  · obtain⟨c,r,e,-⟩:=NR (u / 10);have:=ih (u / 10) (by omega) (by omega);rw[e] at this ⊢;exact this
theorem aby {v:Int} (h:0<=v):kW (itoa v)=v:=by rw[amn,aiD h]
theorem ano (l:List UInt8):l ≠ []->(1<l.length->l.headD 0≠48)->l.all kK=true->0<=kW l/\(1<l.length->1<=kW l)/\itoa (kW l)=l:=by
 generalize hn:l.length=n
 induction n generalizing l with
 | zero=>intro h;exact absurd (List.length_eq_zero_iff.1 hn) h
 | succ n ih=>
  rcases List.eq_nil_or_concat l with rfl|⟨m,c,rfl⟩
  · simp at hn
  · rw[List.concat_eq_append] at hn ⊢;intro _ h1 h2;rw[List.all_append,ag] at h2;have hc:kK c=true:=by simpa using h2.2
    obtain⟨c1,c2⟩:=SX hc;have e:kW (m++[c])=10*kW m+(c.toNat-48):=by rw[abz,zq,if_pos ⟨c1,c2⟩]
    have ec:UInt8.ofNat (48+(c.toNat-48))=c:=by rw[show 48+(c.toNat-48)=c.toNat by omega];exact UInt8.ofNat_toNat
    by_cases hm:m=[]
    · subst hm;have e0:kW ([]:List UInt8)=0:=rfl;rw[e0] at e;rw[e];refine⟨by omega,fun h=>by simp at hn;omega,?_⟩;rw[Uu _ (by omega) (by omega),show(10*0+((c.toNat:Int)-48)).toNat=c.toNat-48 by omega,ec];rfl
    · have JS:m.length=n:=by simpa using hn
      have hpos:1<=m.length:=by cases m with|nil=>exact absurd rfl hm|cons _ _=>simp
      have hh:m.headD 0≠48:=by
       have:=h1 (by omega)
       cases m with
       | nil=>exact absurd rfl hm
       | cons d t=>exact this
      obtain⟨i1,i2,i3⟩:=ih m JS hm (fun _=>hh) h2.1;have hone:1<=kW m:=by
       by_cases hl:1<n
       · exact i2 hl
       · cases m with
         | nil=>exact absurd rfl hm
         | cons d t=>
          have ht:t=[]:=List.length_eq_zero_iff.1 (by simp at JS;omega);subst ht;have hd:kK d=true:=by simpa using h2.1
          obtain⟨d1,d2⟩:=SX hd;have e3:kW [d]=10*0+(d.toNat-48):=by
           have:kW ([]++[d])=zq (kW []) d:=abz [] d;rw[List.nil_append] at this;rw[this,zq,if_pos ⟨d1,d2⟩];rfl
          have hd0:d.toNat≠48:=fun g=>hh (by
           show d=48
           apply UInt8.toNat_inj.1
           rw[g];rfl)
          rw[e3];omega
      rw[e];refine⟨by omega,fun _=>by omega,?_⟩;rw[anm _ (by omega),show(10*kW m+((c.toNat:Int)-48)) / 10=kW m by omega,show(10*kW m+((c.toNat:Int)-48)) % 10=(c.toNat:Int)-48 by omega,i3,
       Uu _ (by omega) (by omega),show((c.toNat:Int)-48).toNat=c.toNat-48 by omega,ec]
theorem Pb {l:List UInt8} {v:Int}:xw l=V v↔0<=v/\v<=1000000000000/\l=itoa v:=by
 unfold xw;constructor
 · intro h
   split at h
   · cases h
   · rename_i hc
     simp only[not_or,not_and,Bool.not_eq_false] at hc;obtain⟨h1,h2,h3,h4,h5⟩:=hc;cases h
     have:=ano l (fun e=>h1 (by rw[e];rfl)) h3 h4;exact⟨this.1,by omega,this.2.2.symm⟩
 · rintro⟨h0,h1,rfl⟩;have hl:(itoa v).length<=13:=by rw[OJ v h0,decDigits_length];have:=O7 12 v.toNat (by omega);omega
   rw[if_neg,aby h0];simp only[not_or,not_and,Bool.not_eq_false];refine⟨fun e=>anq h0 (List.length_eq_zero_iff.1 e),by omega,fun h=>?_,ann h0,by rw[aby h0];omega⟩;rw[OJ v h0] at h ⊢;refine akJ _ ?_;rcases ay v.toNat 10 with g|g
   · rw[Gp g] at h;simp at h
   · exact g
theorem aoV {l:List UInt8}:xw l=ai ↔ ∀v:Int,0<=v->v<=1000000000000->l≠itoa v:=by
 constructor
 · intro h v h0 h1 e;rw[Pb.2 ⟨h0,h1,e⟩] at h;cases h
 · intro h
   cases e:xw l with
   | none=>rfl
   | some v=>
    obtain⟨h0,h1,e1⟩:=Pb.1 e;exact absurd e1 (h v h0 h1)
end Lx
namespace Lx
open Nu
open Go.RowKit
set_option maxHeartbeats 2000000
theorem Wq {p:UInt8->Bool}:∀(l:List UInt8) (n:Nat),dz p (l.take n)=min n (dz p l)
 | [],n=>by simp[aff]
 | c::t,0=>by simp[aff]
 | c::t,n+1=>by
  rw[List.take_succ_cons]
  cases hc:p c with
  | false=>rw[uC hc,uC hc];omega
  | true=>rw[uH hc,uH hc,Wq t n];omega
theorem asR {l:List UInt8}:AJ l=true↔dz ko l≠0/\dz nW l=l.length:=by
 unfold AJ;simp only[ag,decide_eq_true_eq]
end Lx
namespace Na
open Go.RowKit
set_option maxHeartbeats 1000000
theorem oG {k:IntKind} {a b:Int} (h:a=b):Ending.returned (.int k a)=.returned (.int k b):=by rw[h]
theorem iB {a b:Bool} (h:a=b):Ending.returned (.bool a)=.returned (.bool b):=by rw[h]
def Gives (v:ax) (w:U) (e:Ending) (w':U):Prop:=e=.returned v/\af w.heap.size w w'
theorem below_drewN {B:Nat} {a w:U} (h:af B a w) (n:Nat):af B a (w.drewN n):=⟨h.os,h.tape,h.output,h.size,h.block⟩
section
variable {a w w2:U}
theorem ji {o:Obj} (h:af a.heap.size a w):af a.heap.size a (w.alloc o):=h.alloc h.size o
theorem wF {n:Nat} (h:af a.heap.size a w):af a.heap.size a (w.drewN n):=below_drewN h n
theorem qB (h:af a.heap.size a w):af a.heap.size a w.drew:=h.drew
theorem y_ {p:au} (h:af a.heap.size a w) (hp:a.heap.size<=p.block) (u:ax):af a.heap.size a (w.setCell p u):=h.setCell hp u
theorem tT (h:af a.heap.size a w) (hb:af w.heap.size w w2):af a.heap.size a w2:=h.trans (hb.mono h.size)
end
def Strs (w:U) (p:Option au) (n:Nat) (l:List ByteArray):Prop:=
 l.length=n/\n<=9223372036854775807/\(n=0∨∃b o,p=V ⟨b,o,ai⟩/\b<w.heap.size/\Hid (∀i,(h:i<l.length)->w.cell? ⟨b,o+i,ai⟩=V (.string (l[i]))))
theorem af0 {p:Prop} (h:p:=by
 obtain⟨h0,hl,h|⟨b,o,rfl,h1,h2⟩⟩:=h
 · exact⟨h0,hl,.inl h⟩
 · exact⟨h0,hl,.inr ⟨b,o,rfl,av h1 hb.size,hid fun i hi=>(hb.cell (p:=⟨b,o+i,ai⟩) h1).trans (h2.out i hi)⟩⟩
 ):p:=h
theorem Strs.on {w w2:U} {p:Option au} {n:Nat} {l:List ByteArray} (hb:af w.heap.size w w2) (h:Strs w p n l):Strs w2 p n l:=by
 exact af0
theorem Strs.alloc {w:U} {o:Obj} {p:Option au} {n:Nat} {l:List ByteArray} (h:Strs w p n l):Strs (w.alloc o) p n l:=h.on ((Below.refl _ _).alloc (aj _) o)
theorem Strs.drew {w:U} {p:Option au} {n:Nat} {l:List ByteArray} (h:Strs w p n l):Strs w.drew p n l:=h
theorem Strs.drewN {w:U} {p:Option au} {n:Nat} {l:List ByteArray} (h:Strs w p n l) (m:Nat):Strs (w.drewN m) p n l:=h
def Mg (w:U) (p:Option au) (n:Nat) (l:List UInt8):Prop:=
 l.length=n/\n<=9223372036854775807/\(n=0∨∃b o,p=V ⟨b,o,ai⟩/\b<w.heap.size/\Hid (∀i,(h:i<l.length)->w.cell? ⟨b,o+i,ai⟩=V (.int .u8 ((l[i]).toNat:Int))))
theorem Mg.on {w w2:U} {p:Option au} {n:Nat} {l:List UInt8} (hb:af w.heap.size w w2) (h:Mg w p n l):Mg w2 p n l:=by
 exact af0
theorem ajb (S:ByteArray) (hl:S.size<=9223372036854775807) (w:U) :
 ∃c w',(convert 9 150 (.string S)).run ae w=.ok (.slice (V ⟨w.heap.size,0,ai⟩) S.size c) w'/\Mg w' (V ⟨w.heap.size,0,ai⟩) S.size (bs S)/\af w.heap.size w w':=by
 refine⟨_,_,run_bytes_of_string w _ _ 5 _ Tryz.underlying9 Tryz.underlying150 Tryz.underlying5,⟨eG S,hl,.inr ⟨_,_,rfl,by simp,hid fun i hi=>?_⟩⟩,ji (qB (Below.refl _ _))⟩;have e:=World.cell?_alloc_mark w.drew (bytesRow S (grownCap w S.size 0 5)) 5 ((bytesRow S (grownCap w S.size 0 5)).size,(bytesRow S (grownCap w S.size 0 5)).size+1) (0+i);rw[show w.drew.heap.size=w.heap.size from rfl] at e;rw[e,Nat.zero_add,bytesRow_at _ _ _ (by rw[eG] at hi;exact hi)];rfl
theorem vo {a b:ByteArray} (h:bs a=bs b):(a.toList==b.toList)=true:=by rw[jO h];simp
theorem xZ {a b:ByteArray} (h:¬bs a=bs b):(a.toList==b.toList)=false:=by
 rw[beq_eq_false_iff_ne,Lib.toList_data,Lib.toList_data];exact h
end Na
namespace Na
open Go.RowKit
set_option maxHeartbeats 2000000
def Not (l:List ByteArray) (s:ByteArray) (k:Nat):Prop:=∀j,(hj:j<k)->(hl:j<l.length)->¬bs l[j]=bs s
theorem aoU {l:List ByteArray} {s:ByteArray} {k:Nat} (hk:k<l.length) (h:Not l s k) (e:¬bs l[k]=bs s):Not l s (k+1):=by
 intro j hj hl;rcases ay j k with h1|h1
 · exact h j h1 hl
 · obtain rfl:j=k:=by omega
   exact e
theorem not_zero {l:List ByteArray} {s:ByteArray}:Not l s 0:=fun _ hj=>absurd hj (Nat.not_lt_zero _)
theorem aoS {l:List ByteArray} {s:ByteArray} {k:Nat} (hk:k<l.length) (h:Not l s k) (e:bs l[k]=bs s):(k:Int)=fst l s:=(abG hk (fun j hj=>h j hj (by omega)) e).symm
theorem aoT {l:List ByteArray} {s:ByteArray} {k:Nat} (hk:l.length=k) (h:Not l s k):(-1:Int)=fst l s:=(abI (fun j hj=>h j (by omega) hj)).symm
theorem GA (p:Option au) (n c:Nat) (l:List ByteArray) (s:ByteArray) (w:U) (hb:Strs w p n l):az ae 200 #[.slice p n c,.string s] w fun e w'=>e=.returned (.int .i64 (fst l s))/\w'=w:=by
 have HB:=hid hb;have HL:=hid hb.1;have hn:(n:Int)<=9223372036854775807:=by have:=hb.2.1;omega
 clear hb;go_enter Tryz.func200,Tryz.ntmps200;go_wp2_with fail;go_loop [8] (fun i=>∃k:Nat,k<=n/\i=.int .i64 (k:Nat)/\Hid (Not l s k)) (fun i=>n-(intOf i).toNat)
 case atStart=>exact⟨0,Nat.zero_le _,rfl,hid not_zero⟩
 case round=>
  obtain⟨k,hk,rfl,HN⟩:=hrel;have c1:(0:Int)<=(k:Int):=by omega
  rcases ay k n with h|h
  · have hkl:k<l.length:=by rw[HL.out];exact h
    obtain⟨-,-,h0|⟨b,o,rfl,hb,hcell⟩⟩:=HB.out
    · omega
    · have e1:=hcell.out k hkl;have c2:(k:Int)<(n:Int):=by omega
      by_cases he:bs l[k]=bs s
      · have q1:=vo he.symm;have HR:=hid (aoS hkl HN.out he);obtain⟨x,ex⟩:∃x,l[k]=x:=⟨_,rfl⟩
        rw[ex] at e1 q1;clear he hcell ex hkl;go_wp2_with fail;go_ret;exact⟨oG HR.out,rfl⟩
      · have q1:=xZ (fun g=>he g.symm);have DW:=hid (aoU hkl HN.out he);obtain⟨x,ex⟩:∃x,l[k]=x:=⟨_,rfl⟩
        rw[ex] at e1 q1;clear he hcell ex hkl;go_wp2_with fail;go_round
        case rel=>exact⟨k+1,by omega,by go_num,DW⟩
        case measure=>simp[intOf];omega
  · obtain rfl:n=k:=by omega
    have HR:=hid (aoT HL.out HN.out);go_wp2_with fail;go_ret;exact⟨oG HR.out,rfl⟩
theorem abm (p:Option au) (n c:Nat) (l:List ByteArray) (s:ByteArray) (w:U) (hb:Strs w p n l):az ae 189 #[.slice p n c,.string s] w fun e w'=>e=.returned (.int .i64 (fst l s))/\w'=w:=by
 have I1:=GA p n c l s w hb;clear hb;go_enter Tryz.func189,Tryz.ntmps189;go_wp2_with fail;refine I1.mono ?_;rintro e w1 ⟨rfl,rfl⟩;go_wp2_with fail;go_ret;exact⟨rfl,rfl⟩
end Na
section
open Go
theorem bl {p:Prop} (h:p:=by(repeat (first|(with_reducible exact Below.refl _ _)|(with_reducible assumption)|(with_reducible apply Ex.ji)|(with_reducible apply Ex.wF)|(with_reducible apply Ex.qB)|(with_reducible refine Ex.y_ ?_ (by first|(simp;done)|(simp;omega)) _)|(with_reducible refine Ex.tT ?_ (by assumption))))):p:=h
theorem htake {P:Program} {md:Region.Mode} {ops:Array Oper} {Q:Exit->Act->World->Prop} {S:World->Prop} (i:Nat) (v:Value) {oi:Oper} {fuel:Nat} {listed:Array Bool} {a:Act} {w:World} (hi:ops[i]?=some oi:=by rfl) (hs:Region.noSelect ops=true:=by kernel_rfl) (hf:Region.free md ops listed i=true:=by kernel_rfl) (hr:(Region.ready md ops listed).contains i=true:=by kernel_rfl) (hQ:∀c a w,Q (.panic c) (a.put oi.dst v) w->Q (.panic c) a w:=by exact fun _ _ _ h=>h) (hw:Region.wanted oi (yielded ops a.tmps)=true:=by rfl) (hy:∀w,S w->(execOp a.eval oi).run P w=.ok (.value v) w:=by(intro w' hS';(try dsimp only at hS');first|(go_simp;done)|(go_simp;with_reducible rfl))) (hS:S w:=by assumption) (h:wpAnyH P md ops Q S fuel (listed.setIfInBounds i true) (a.put oi.dst v) w):wpAnyH P md ops Q S (fuel+1) listed a w:=
 wpAnyH_take hi hs hf hr hQ (Or.inl ⟨hw,hy⟩) hS h
theorem sG {P:Program} {md:Region.Mode} {ops:Array Oper} {Q:Exit->Act->World->Prop} {S:World->Prop} (rs:List Nat) {fuel:Nat} {listed:Array Bool} {a:Act} {w:World} (h:AllReadyH P md ops Q S fuel listed a w rs) (hr:Region.ready md ops listed=rs:=by kernel_rfl) (hne:rs ≠ []:=by simp):wpAnyH P md ops Q S (fuel+1) listed a w:=
 wpAnyH_ready hr hne h
theorem ru {P:Program} {md:Region.Mode} {ops:Array Oper} {Q:Exit->Act->World->Prop} {S:World->Prop} {fuel:Nat} {listed:Array Bool} {a:Act} {w:World} {i:Nat} {o:Oper} {rs:List Nat} (h:∀K':Act->World->Prop,Shut (∀a w,S w->(S w->wpAnyH P md ops Q S fuel (listed.setIfInBounds i true) a w)->K' a w)->if Region.wanted o (yielded ops a.tmps)=true then Oper.wp P o a w K' Q else K' (a.put o.dst undef) w) (hs:AllReadyH P md ops Q S fuel listed a w rs) (ho:ops[i]?=some o:=by rfl):AllReadyH P md ops Q S fuel listed a w (i::rs):=
 AllReadyH.cons ho h hs
theorem hcall {P:Program} {md:Region.Mode} {ops:Array Oper} {Q:Exit->Act->World->Prop} {S:World->Prop} (i:Nat) {fuel:Nat} {listed:Array Bool} {a:Act} {w:World} {o:Oper} (h:∀K':Act->World->Prop,Shut (∀a w,S w->(S w->wpAnyH P md ops Q S fuel (listed.setIfInBounds i true) a w)->K' a w)->if Region.wanted o (yielded ops a.tmps)=true then Oper.wp P o a w K' Q else K' (a.put o.dst undef) w) (hr:Region.ready md ops listed=[i]:=by kernel_rfl) (ho:ops[i]?=some o:=by rfl):wpAnyH P md ops Q S (fuel+1) listed a w:=
 wpAnyH_ready hr (by simp) (AllReadyH.cons ho h AllReadyH.nil)
theorem sA {α:Type _} (l:List α) (i:Nat) (a:α):l.toArray.setIfInBounds i a=(l.set i a).toArray:=List.setIfInBounds_toArray ..
theorem sB {α:Type _} (x:α) (l:List α) (a:α):(x::l).set 0 a=a::l:=rfl
theorem sC {α:Type _} (x:α) (l:List α) (n:Nat) (a:α):(x::l).set (n+1) a=x::l.set n a:=rfl
end
namespace Na
open Go.RowKit
set_option maxHeartbeats 1000000
theorem Hq {p:Prop} (h:p:=by
 go_wp2_with fail;go_ret;exact⟨rfl,rfl⟩
 ):p:=h
theorem Kh (x:Int) (w:U):az ae 66 #[.int .u8 x] w fun e w'=>e=.returned (.bool (mO x))/\w'=w:=by
 unfold mO;by_cases h1:97<=x
 · have t1:decide (97<=x)=true:=decide_eq_true h1;have HR:Hid (decide (x<=122)=(decide (97<=x)&&decide (x<=122))):=hid (by rw[t1];rfl);by_cases h2:x<=122
   · have t2:decide (x<=122)=true:=decide_eq_true h2;rw[t1,t2];clear HR;go_enter Tryz.func66,Tryz.ntmps66;exact Hq
   · have t2:decide (x<=122)=false:=decide_eq_false h2;rw[t1,t2];clear HR;go_enter Tryz.func66,Tryz.ntmps66;exact Hq
 · have t1:decide (97<=x)=false:=decide_eq_false h1;rw[t1,Bool.false_and];go_enter Tryz.func66,Tryz.ntmps66;exact Hq
theorem Ju (x:Int) (w:U):az ae 68 #[.int .u8 x] w fun e w'=>e=.returned (.bool (nk x))/\w'=w:=by
 unfold nk;by_cases h1:48<=x
 · have t1:decide (48<=x)=true:=decide_eq_true h1;by_cases h2:x<=57
   · have t2:decide (x<=57)=true:=decide_eq_true h2;rw[t1,t2];go_enter Tryz.func68,Tryz.ntmps68;exact Hq
   · have t2:decide (x<=57)=false:=decide_eq_false h2;rw[t1,t2];go_enter Tryz.func68,Tryz.ntmps68;exact Hq
 · have t1:decide (48<=x)=false:=decide_eq_false h1;rw[t1,Bool.false_and];go_enter Tryz.func68,Tryz.ntmps68;exact Hq
theorem zw {x:Int} {b:Bool} (h:mO x=b) (w:U):az ae 66 #[.int .u8 x] w fun e w'=>e=.returned (.bool b)/\w'=w:=by rw[← h];exact Kh x w
theorem Gq {x:Int} {b:Bool} (h:nk x=b) (w:U):az ae 68 #[.int .u8 x] w fun e w'=>e=.returned (.bool b)/\w'=w:=by rw[← h];exact Ju x w
end Na
namespace Ex
open Go.RowKit
set_option maxHeartbeats 2000000
def tb (l:Nm):ByteArray:=⟨l.toArray⟩
def IV (w:U) (p:Option au) (n:Nat) (l:List Nm):Prop:=
 l.length=n/\n<=9223372036854775807/\(n=0∨∃b o,p=V ⟨b,o,ai⟩/\b<w.heap.size/\Hid (∀i,(h:i<l.length)->w.cell? ⟨b,o+i,ai⟩=V (.string (tb l[i]))))
theorem IV.on {w w2:U} {p:Option au} {n:Nat} {l:List Nm} (hb:af w.heap.size w w2) (h:IV w p n l):IV w2 p n l:=by
 obtain⟨h0,hl,h|⟨b,o,rfl,h1,h2⟩⟩:=h
 · exact⟨h0,hl,.inl h⟩
 · exact⟨h0,hl,.inr ⟨b,o,rfl,av h1 hb.size,hid fun i hi=>(hb.cell (p:=⟨b,o+i,ai⟩) h1).trans (h2.out i hi)⟩⟩
theorem IV.nil {w:U} {p:Option au}:IV w p 0 []:=⟨rfl,by omega,.inl rfl⟩
abbrev tbs (l:List Nm):List ax:=l.map fun x=>.string (tb x)
abbrev FT (lo:Nat) (w:U) (v:ax) (l:List Nm):Prop:=w.ownsRow lo 9 1 v l.length (tbs l)
theorem FT.below {lo:Nat} {w w2:U} {v:ax} {l:List Nm} (h:FT lo w v l) (hb:af w.heap.size w w2):FT lo w2 v l:=
 World.ownsRow.kept h (row:=ai) ⟨hb.os,hb.tape,hb.output,hb.size,fun k hk _=>hb.block k hk⟩ (by cases v.ownBlock <;> simp)
end Ex
end Go.Proofs.YtbgodajefaahdaaGreatDoor
