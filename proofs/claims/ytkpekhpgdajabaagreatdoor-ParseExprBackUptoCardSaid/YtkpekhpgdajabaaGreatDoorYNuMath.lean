/-
  Parts of this proof: Plain definitions and facts about the integers t. The contracts of package num's integer functions. Plain facts about decimal numerals. The library functions that this program calls, c. The contracts of Text and Parse of package num. What the listed library variables give the walks. Mathematics of names. Mathematics of expressions. The contracts of the reference's Text and Parse. Words for worlds and lists of texts in memory; h.
-/
import Derived.Test.YtkpekhpgdajabaaGreatDoorRows
import Derived.Test.YtkpekhpgdajabaaGreatDoorProg
import Derived.Test.YtkpekhpgdajabaaGreatDoorYZDict
open Go.Proofs.Tryz
open Go.Proofs.Tryz renaming prog->ae
open Option renaming some->U
open Go renaming World->af,Calls->aj
open List renaming cons_append->ag
open Go.RowKit renaming Below->ah
open Nat renaming le_refl->ai,lt_of_lt_of_le->ak
set_option linter.unusedVariables false
set_option maxHeartbeats 1000000
namespace Go.Proofs.YtkpekhpgdajabaaGreatDoor
namespace Nu
def iB (n:Int):Bool:=decide (-1000000000000<=n/\n<=1000000000000)
theorem Zv {n:Int} (h0:-1000000000000<=n) (h1:n<=1000000000000):iB n=true:=by unfold iB;simp;omega
theorem Zt {n:Int} (h:n < -1000000000000∨1000000000000<n):iB n=false:=by unfold iB;simp;omega
theorem Zu {n:Int} (h:iB n=true):-1000000000000<=n/\n<=1000000000000:=by unfold iB at h;simpa using h
def JQ (n:Int):Int:=if n<0 then -n else n
theorem aet {n:Int} (h:0<=n):JQ n=n:=by unfold JQ;rw[if_neg bT]
theorem nN {k:IntKind} {a b:Int} (h:a=b):Ending.returned (.int k a)=.returned (.int k b):=by rw[h]
theorem lC {a b:Bool} (h:a=b):Ending.returned (.bool a)=.returned (.bool b):=by rw[h]
end Nu
namespace Nu
open Go.RowKit
theorem TT {p:Prop} (h:p:=by
 go_enter func129,ntmps129
 go_wp2
 go_ret;exact⟨lC (by simp;try omega),rfl⟩
 ):p:=h
theorem Cw (n:Int) (w:af):aj ae 129 #[.int .i64 n] w fun e w'=>e=.returned (.bool (iB n))/\w=w':=by
 rcases Int.lt_or_le 1000000000000 n with h|h
 · rw[Zt (Or.inr h)];exact TT
 · rcases Int.lt_or_le n (-1000000000000) with h'|h'
   · rw[Zt (Or.inl h')];exact TT
   · rw[Zv h' h];exact TT
end Nu
namespace Nu
open Go.Lib
theorem EC (d:Nat) (h:d<10):(UInt8.ofNat (48+d)).toNat=48+d:=by
 rw[UInt8.toNat_ofNat'];omega
theorem EA {u:Nat} (h:u<10):decDigits u=[UInt8.ofNat (48+u)]:=by rw[decDigits,dif_pos h]
theorem GL {u:Nat} (h:¬u<10):decDigits u=decDigits (u / 10)++[UInt8.ofNat (48+u % 10)]:=by rw[decDigits,dif_neg h]
theorem alb (l m:List UInt8):∀a,parseUint10 a (l++m)=match parseUint10 a l with|.ok b=>parseUint10 b m|r=>r:=by
 induction l with
 | nil=>intro a;rfl
 | cons c l ih=>
  intro a;simp only[ag,parseUint10]
  split
  · split
    · rfl
    · split
      · rfl
      · exact ih _
  · rfl
theorem gF {p:Prop} (h:p:=by omega):p:=h
theorem aaX (a d:Nat) (ha:a<=922337203685477580) (h:d<10):parseUint10 a [UInt8.ofNat (48+d)]=.ok (a*10+d):=by
 simp only[parseUint10,EC d h];rw[if_pos gF,if_neg gF,if_neg gF]
 congr 1
 omega
theorem aaW (u:Nat) (hu:u<=9223372036854775808):parseUint10 0 (decDigits u)=.ok u:=by
 induction u using Nat.strongRecOn with
 | _ u ih=>
  by_cases h:u<10
  · rw[EA h,aaX 0 u gF h,Nat.zero_mul,Nat.zero_add]
  · rw[GL h,alb,ih (u / 10) gF gF];simp only;rw[aaX (u / 10) (u % 10) gF gF]
    congr 1
    omega
theorem WK (u:Nat):∀c∈decDigits u,48<=c.toNat/\c.toNat<=57:=by
 induction u using Nat.strongRecOn with
 | _ u ih=>
  by_cases h:u<10
  · rw[EA h];intro c hc;rw[List.mem_singleton] at hc;subst hc;rw[EC u h];omega
  · rw[GL h];intro c hc;rcases List.mem_append.1 hc with hc|hc
    · exact ih (u / 10) gF c hc
    · rw[List.mem_singleton] at hc;subst hc;rw[EC _ gF];omega
theorem Kq (u:Nat):∃c r,decDigits u=c::r/\48<=c.toNat/\c.toNat<=57:=by
 have hl:=decDigits_length u;have hp:=nDigits_pos u
 match hd:decDigits u with
 | []=>rw[hd] at hl;simp at hl;omega
 | c::r=>exact⟨c,r,rfl,WK u c (by rw[hd];exact List.mem_cons_self)⟩
theorem aeF (v:Int) (h0:-9223372036854775808<=v) (h1:v<=9223372036854775807):atoiAll (itoa v)=.ok v:=by
 unfold itoa
 split
 · rename_i h
   obtain⟨c,r,e,-,-⟩:=Kq v.natAbs;have hp:=aaW v.natAbs gF;have hm:parseMag (decDigits v.natAbs)=.ok v.natAbs:=by unfold parseMag;rw[if_neg (by rw[e];simp)];exact hp
   unfold atoiAll;simp only[show(45:UInt8).toNat=45 from rfl];rw[if_pos (Or.inr trivial),hm];simp
   rw[if_neg gF]
   congr 1
   omega
 · rename_i h
   obtain⟨c,r,e,h2,h3⟩:=Kq v.toNat;have hp:=aaW v.toNat gF;have hm:parseMag (decDigits v.toNat)=.ok v.toNat:=by unfold parseMag;rw[if_neg (by rw[e];simp)];exact hp
   rw[e] at hm ⊢;unfold atoiAll;simp only;rw[if_neg gF,hm];have h4:¬c.toNat=45:=by omega
   simp[h4]
   rw[if_neg gF]
   congr 1
   omega
theorem EZ:∀(k u:Nat),u<10 ^ (k+1)->nDigits u<=k+1
 | 0,u,h=>by rw[nDigits_small (by simpa using h)];exact ai _
 | k+1,u,h=>by
  by_cases hs:u<10
  · rw[nDigits_small hs];omega
  · rw[nDigits_big hs];have:=EZ k (u / 10) (by rw[Nat.pow_succ] at h;omega);omega
theorem ajm (v:Int) (h0:-1000000000000<=v) (h1:v<=1000000000000):(itoa v).length<=14:=by
 unfold itoa
 split
 · rw[List.length_cons,decDigits_length];have:=EZ 12 v.natAbs gF;omega
 · rw[decDigits_length];have:=EZ 12 v.toNat gF;omega
theorem ajn (v:Int) (h0:-9223372036854775808<=v) (h1:v<=9223372036854775807):(itoa v).length<=20:=by
 unfold itoa
 split
 · rw[List.length_cons,decDigits_length];have:=EZ 18 v.natAbs gF;omega
 · rw[decDigits_length];have:=EZ 18 v.toNat gF;omega
theorem Lu (n:Int) (h0:0<=n) (h1:n<10):itoa n=[UInt8.ofNat (48+n.toNat)]:=by
 unfold itoa;rw[if_neg gF,EA gF]
theorem Rb (n:Int) (h:10<=n):itoa n=itoa (n / 10)++itoa (n % 10):=by
 rw[Lu (n % 10) gF gF];unfold itoa;rw[if_neg gF,if_neg gF,GL gF,show(n / 10).toNat=n.toNat / 10 by omega,show(n % 10).toNat=n.toNat % 10 by omega]
theorem itoa_neg (n:Int) (h:n<0):itoa n=45::itoa (-n):=by
 unfold itoa;rw[if_pos h,if_neg gF,show n.natAbs=(-n).toNat by omega]
def yz (n:Int) (c:UInt8):Int:=if 48<=c.toNat/\c.toNat<=57 then 10*n+(c.toNat-48) else n
def jR (l:List UInt8):Int:=l.foldl yz 0
theorem Yq (l m:List UInt8) (a:Int):(l++m).foldl yz a=m.foldl yz (l.foldl yz a):=List.foldl_append
theorem Yr (u:Nat):jR (decDigits u)=u:=by
 unfold jR
 induction u using Nat.strongRecOn with
 | _ u ih=>
  by_cases h:u<10
  · rw[EA h];simp only[List.foldl_cons,List.foldl_nil,yz,EC u h];rw[if_pos gF];omega
  · rw[GL h,Yq,ih (u / 10) gF];simp only[List.foldl_cons,List.foldl_nil,yz,EC (u % 10) gF];rw[if_pos gF];omega
theorem ain (l:List UInt8):jR (45::l)=jR l:=by
 unfold jR;rw[List.foldl_cons];rfl
theorem Yp (l:List UInt8) (c:UInt8):jR (l++[c])=yz (jR l) c:=by unfold jR;rw[Yq];rfl
theorem aim (v:Int):jR (itoa v)=JQ v:=by
 unfold itoa JQ
 split
 · rw[ain,Yr];omega
 · rw[Yr];omega
theorem ajk (n:Int) (h:n<=-10):itoa n=itoa (n.tdiv 10)++itoa (-(n.tmod 10)):=by
 have e1:n.tdiv 10 = -((-n) / 10):=by rw[← Int.tdiv_eq_ediv_of_nonneg gF,Int.neg_tdiv];omega
 have e2:-(n.tmod 10)=(-n) % 10:=by rw[← Int.tmod_eq_emod_of_nonneg gF,Int.neg_tmod]
 rw[e1,e2,itoa_neg n gF,Rb (-n) gF,itoa_neg (-(-n / 10)) gF,Int.neg_neg];rfl
theorem aoc (n:Int) (h:n<=-10):n<n.tdiv 10/\n.tdiv 10<=-1:=by
 have e1:n.tdiv 10 = -((-n) / 10):=by rw[← Int.tdiv_eq_ediv_of_nonneg gF,Int.neg_tdiv];omega
 omega
theorem aog (n:Int) (h:n<=-10):-9<=n.tmod 10/\n.tmod 10<=0:=by
 have e2:-(n.tmod 10)=(-n) % 10:=by rw[← Int.tmod_eq_emod_of_nonneg gF,Int.neg_tmod]
 omega
end Nu
end Go.Proofs.YtkpekhpgdajabaaGreatDoor
namespace Go.Proofs
open Go.Shelf
def Tryz.ajU:Go.Shelf.Ren:=⟨fun|171=>219|243=>227|246=>240|283=>248|284=>249|285=>250|286=>251|129=>253|317=>252|318=>254|319=>255|320=>256|337=>257|338=>258|n=>n,fun|3=>3|9=>9|2=>2|4=>4|171=>316|0=>0|53=>26|37=>149|5=>5|173=>319|212=>322|51=>323|20=>20|213=>324|46=>119|232=>327|233=>328|n=>n,fun|17=>2|18=>3|19=>4|n=>n⟩
theorem fP {p:Prop} (h:p:=by kernel_rfl):p:=h
theorem Tryz.ajT:Go.Proofs.LaysM.n171 ae Tryz.ajU:={
 mixed:=by kernel_rfl
 f129:=func253.trans (congrArg U fP)
 f171:=func219.trans (congrArg U fP)
 f243:=func227.trans (congrArg U fP)
 f246:=func240.trans (congrArg U fP)
 f283:=func248.trans (congrArg U fP)
 f284:=func249.trans (congrArg U fP)
 f285:=func250.trans (congrArg U fP)
 f286:=func251.trans (congrArg U fP)
 f317:=func252.trans (congrArg U fP)
 f318:=func254.trans (congrArg U fP)
 f319:=func255.trans (congrArg U fP)
 f320:=func256.trans (congrArg U fP)
 f337:=func257.trans (congrArg U fP)
 f338:=func258.trans (congrArg U fP)
 t0:=underlying0
 a0:=Tryz.isAgg0
 z0:=sizeOf0
 v0:=Tryz.zeroValue0
 t2:=underlying2
 a2:=Tryz.isAgg2
 z2:=sizeOf2
 v2:=Tryz.zeroValue2
 t3:=underlying3
 a3:=Tryz.isAgg3
 z3:=sizeOf3
 v3:=Tryz.zeroValue3
 t4:=underlying4
 a4:=Tryz.isAgg4
 z4:=sizeOf4
 v4:=Tryz.zeroValue4
 t5:=underlying5
 a5:=Tryz.isAgg5
 z5:=sizeOf5
 v5:=Tryz.zeroValue5
 t9:=underlying9
 a9:=Tryz.isAgg9
 z9:=sizeOf9
 v9:=Tryz.zeroValue9
 t20:=underlying20
 a20:=Tryz.isAgg20
 z20:=sizeOf20
 v20:=Tryz.zeroValue20
 t37:=underlying149
 a37:=Tryz.isAgg149
 z37:=sizeOf149
 v37:=Tryz.zeroValue149
 t46:=underlying119
 a46:=Tryz.isAgg119
 z46:=sizeOf119
 v46:=Tryz.zeroValue119
 t51:=underlying323
 a51:=Tryz.isAgg323
 z51:=sizeOf323
 v51:=Tryz.zeroValue323
 t53:=underlying26
 a53:=Tryz.isAgg26
 z53:=sizeOf26
 v53:=Tryz.zeroValue26
 t171:=underlying316
 a171:=Tryz.isAgg316
 z171:=sizeOf316
 v171:=Tryz.zeroValue316
 t173:=underlying319
 a173:=Tryz.isAgg319
 z173:=sizeOf319
 v173:=Tryz.zeroValue319
 t212:=underlying322
 a212:=Tryz.isAgg322
 z212:=sizeOf322
 v212:=Tryz.zeroValue322
 t213:=underlying324
 a213:=Tryz.isAgg324
 z213:=sizeOf324
 t232:=underlying327
 a232:=Tryz.isAgg327
 z232:=sizeOf327
 v232:=Tryz.zeroValue327
 t233:=underlying328
 a233:=Tryz.isAgg328
 z233:=sizeOf328
 v233:=Tryz.zeroValue328
 g17:=by kernel_rfl
 g18:=by kernel_rfl
 g19:=by kernel_rfl
 i0:=by kernel_rfl
 i2:=by kernel_rfl
 i3:=by kernel_rfl
 i4:=by kernel_rfl
 i5:=by kernel_rfl
 i9:=by kernel_rfl
 i20:=by kernel_rfl
 i37:=by kernel_rfl
 i46:=by kernel_rfl
 i51:=by kernel_rfl
 i53:=by kernel_rfl
 i171:=by kernel_rfl
 i173:=by kernel_rfl
 i212:=by kernel_rfl
 i232:=by kernel_rfl
 i233:=by kernel_rfl
 m17:=by kernel_rfl
 m18:=by kernel_rfl
 m19:=by kernel_rfl }
def Tryz.ajS:Go.Shelf.Ren:=⟨fun|172=>211|244=>217|245=>218|247=>222|279=>223|280=>224|281=>225|282=>226|287=>237|316=>238|171=>219|205=>239|321=>246|322=>247|243=>227|246=>240|283=>248|284=>249|285=>250|286=>251|129=>253|317=>252|318=>254|319=>255|320=>256|337=>257|338=>258|n=>n,fun|9=>9|3=>3|75=>280|76=>281|4=>4|5=>5|167=>287|37=>149|0=>0|85=>288|2=>2|168=>290|53=>26|175=>303|46=>119|210=>306|127=>312|145=>315|143=>313|21=>21|171=>316|173=>319|212=>322|51=>323|20=>20|213=>324|232=>327|233=>328|80=>141|n=>n,fun|15=>0|16=>1|17=>2|18=>3|19=>4|n=>n⟩
theorem Tryz.Ro:Go.Proofs.LaysC.n172 ae Tryz.ajS:={
 mixed:=by kernel_rfl
 f129:=func253.trans (congrArg U fP)
 f171:=func219.trans (congrArg U fP)
 f172:=func211.trans (congrArg U fP)
 f205:=func239.trans (congrArg U fP)
 f243:=func227.trans (congrArg U fP)
 f244:=func217.trans (congrArg U fP)
 f245:=func218.trans (congrArg U fP)
 f246:=func240.trans (congrArg U fP)
 f247:=func222.trans (congrArg U fP)
 f279:=func223.trans (congrArg U fP)
 f280:=func224.trans (congrArg U fP)
 f281:=func225.trans (congrArg U fP)
 f282:=func226.trans (congrArg U fP)
 f283:=func248.trans (congrArg U fP)
 f284:=func249.trans (congrArg U fP)
 f285:=func250.trans (congrArg U fP)
 f286:=func251.trans (congrArg U fP)
 f287:=func237.trans (congrArg U fP)
 f316:=func238.trans (congrArg U fP)
 f317:=func252.trans (congrArg U fP)
 f318:=func254.trans (congrArg U fP)
 f319:=func255.trans (congrArg U fP)
 f320:=func256.trans (congrArg U fP)
 f321:=func246.trans (congrArg U fP)
 f322:=func247.trans (congrArg U fP)
 f337:=func257.trans (congrArg U fP)
 f338:=func258.trans (congrArg U fP)
 t0:=underlying0
 a0:=Tryz.isAgg0
 z0:=sizeOf0
 v0:=Tryz.zeroValue0
 t2:=underlying2
 a2:=Tryz.isAgg2
 z2:=sizeOf2
 v2:=Tryz.zeroValue2
 t3:=underlying3
 a3:=Tryz.isAgg3
 z3:=sizeOf3
 v3:=Tryz.zeroValue3
 t4:=underlying4
 a4:=Tryz.isAgg4
 z4:=sizeOf4
 v4:=Tryz.zeroValue4
 t5:=underlying5
 a5:=Tryz.isAgg5
 z5:=sizeOf5
 v5:=Tryz.zeroValue5
 t9:=underlying9
 a9:=Tryz.isAgg9
 z9:=sizeOf9
 v9:=Tryz.zeroValue9
 t20:=underlying20
 a20:=Tryz.isAgg20
 z20:=sizeOf20
 v20:=Tryz.zeroValue20
 t21:=underlying21
 a21:=Tryz.isAgg21
 z21:=sizeOf21
 v21:=Tryz.zeroValue21
 t37:=underlying149
 a37:=Tryz.isAgg149
 z37:=sizeOf149
 v37:=Tryz.zeroValue149
 t46:=underlying119
 a46:=Tryz.isAgg119
 z46:=sizeOf119
 v46:=Tryz.zeroValue119
 t51:=underlying323
 a51:=Tryz.isAgg323
 z51:=sizeOf323
 v51:=Tryz.zeroValue323
 t53:=underlying26
 a53:=Tryz.isAgg26
 z53:=sizeOf26
 v53:=Tryz.zeroValue26
 t75:=underlying280
 a75:=Tryz.isAgg280
 z75:=sizeOf280
 v75:=Tryz.zeroValue280
 t76:=underlying281
 a76:=Tryz.isAgg281
 z76:=sizeOf281
 v76:=Tryz.zeroValue281
 t85:=underlying288
 a85:=Tryz.isAgg288
 z85:=sizeOf288
 v85:=Tryz.zeroValue288
 t127:=underlying312
 a127:=Tryz.isAgg312
 z127:=sizeOf312
 v127:=Tryz.zeroValue312
 t143:=underlying313
 a143:=Tryz.isAgg313
 z143:=sizeOf313
 v143:=Tryz.zeroValue313
 t145:=underlying315
 a145:=Tryz.isAgg315
 z145:=sizeOf315
 v145:=Tryz.zeroValue315
 t167:=underlying287
 a167:=Tryz.isAgg287
 z167:=sizeOf287
 v167:=Tryz.zeroValue287
 t168:=underlying290
 a168:=Tryz.isAgg290
 z168:=sizeOf290
 v168:=Tryz.zeroValue290
 t171:=underlying316
 a171:=Tryz.isAgg316
 z171:=sizeOf316
 v171:=Tryz.zeroValue316
 t173:=underlying319
 a173:=Tryz.isAgg319
 z173:=sizeOf319
 v173:=Tryz.zeroValue319
 t175:=underlying303
 a175:=Tryz.isAgg303
 z175:=sizeOf303
 v175:=Tryz.zeroValue303
 t210:=underlying306
 a210:=Tryz.isAgg306
 z210:=sizeOf306
 v210:=Tryz.zeroValue306
 t212:=underlying322
 a212:=Tryz.isAgg322
 z212:=sizeOf322
 v212:=Tryz.zeroValue322
 t213:=underlying324
 a213:=Tryz.isAgg324
 z213:=sizeOf324
 t232:=underlying327
 a232:=Tryz.isAgg327
 z232:=sizeOf327
 v232:=Tryz.zeroValue327
 t233:=underlying328
 a233:=Tryz.isAgg328
 z233:=sizeOf328
 v233:=Tryz.zeroValue328
 g15:=by kernel_rfl
 g16:=by kernel_rfl
 g17:=by kernel_rfl
 g18:=by kernel_rfl
 g19:=by kernel_rfl
 t80:=underlying141
 a80:=Tryz.isAgg141
 z80:=sizeOf141
 v80:=Tryz.zeroValue141
 i0:=by kernel_rfl
 i2:=by kernel_rfl
 i3:=by kernel_rfl
 i4:=by kernel_rfl
 i5:=by kernel_rfl
 i9:=by kernel_rfl
 i20:=by kernel_rfl
 i21:=by kernel_rfl
 i37:=by kernel_rfl
 i46:=by kernel_rfl
 i51:=by kernel_rfl
 i53:=by kernel_rfl
 i75:=by kernel_rfl
 i76:=by kernel_rfl
 i80:=by kernel_rfl
 i85:=by kernel_rfl
 i127:=by kernel_rfl
 i143:=by kernel_rfl
 i145:=by kernel_rfl
 i167:=by kernel_rfl
 i168:=by kernel_rfl
 i171:=by kernel_rfl
 i173:=by kernel_rfl
 i175:=by kernel_rfl
 i210:=by kernel_rfl
 i212:=by kernel_rfl
 i232:=by kernel_rfl
 i233:=by kernel_rfl
 m15:=by kernel_rfl
 m16:=by kernel_rfl
 m17:=by kernel_rfl
 m18:=by kernel_rfl
 m19:=by kernel_rfl
 c0:=by kernel_rfl
 c2:=by kernel_rfl
 c3:=by kernel_rfl
 c4:=by kernel_rfl
 c5:=by kernel_rfl
 c9:=by kernel_rfl
 c20:=by kernel_rfl
 c21:=by kernel_rfl
 c37:=by kernel_rfl
 c46:=by kernel_rfl
 c51:=by kernel_rfl
 c53:=by kernel_rfl
 c75:=by kernel_rfl
 c76:=by kernel_rfl
 c80:=by kernel_rfl
 c85:=by kernel_rfl
 c127:=by kernel_rfl
 c143:=by kernel_rfl
 c145:=by kernel_rfl
 c167:=by kernel_rfl
 c168:=by kernel_rfl
 c171:=by kernel_rfl
 c173:=by kernel_rfl
 c175:=by kernel_rfl
 c210:=by kernel_rfl
 c212:=by kernel_rfl
 c213:=by kernel_rfl
 c232:=by kernel_rfl
 c233:=by kernel_rfl }
end Go.Proofs
namespace Go.Proofs.YtkpekhpgdajabaaGreatDoor
namespace Nu
open Go.RowKit
structure Env (w:af):Prop where
 adG:2<w.heap.size
 adE:1<w.heap.size
 adF:0<w.heap.size
 tab:Lib.TabIs ae w "internal/strconv.uint64pow10" .u64 Lib.pow10Tab
 syn:∃tp p,w.var? ae "strconv.ErrSyntax" = U #[.iface tp p]
 rng:∃tp p,w.var? ae "strconv.ErrRange" = U #[.iface tp p]
theorem Env.below {w w':af} (h:Env w) (hb:ah w.heap.size w w'):Env w':=by
 obtain⟨tp,p,h1⟩:=h.syn;obtain⟨tq,q,h2⟩:=h.rng;exact⟨ak h.adG hb.size,ak h.adE hb.size,ak h.adF hb.size,var?_below hb dx h.adG h.tab,
  ⟨tp,p,var?_below hb dx h.adF h1⟩,⟨tq,q,var?_below hb dx h.adE h2⟩⟩
theorem aiT (w:af) (k:Nat) (os:Array Obj):ah w.heap.size w (Sort.grow (w.drewN k) os):=
 ⟨rfl,rfl,rfl,by rw[Sort.size_grow];exact Nat.le_add_right _ _,fun j hj=>Sort.heap_grow_old (w.drewN k) os hj⟩
def num (v:Int):ByteArray:=⟨(Lib.itoa v).toArray⟩
theorem RH (v:Int):(num v).data.toList=Lib.itoa v:=rfl
theorem ajj (n:Int) (h0:-9223372036854775808<=n) (h1:n<=9223372036854775807) (w:af) (hE:Env w) :
 aj ae 219 #[.int .i64 n] w fun e w'=>e=.returned (.string (num n))/\ah w.heap.size w w':=
 (show aj ae 219 #[.int .i64 n] w fun e w' => e = .returned (.string (num n)) ∧ ∃ k os, w' = Sort.grow (w.drewN k) os from Any.strconv_Itoa Tryz.ajT n h0 h1 w hE.tab).mono
   fun _ _ ⟨he,k,os,hw⟩=>⟨he,by rw[hw];exact aiT w k os⟩
theorem aoe (n:Int) (h0:-9223372036854775808<=n) (h1:n<=9223372036854775807) (w:af) (hE:Env w) :
 aj ae 212 #[.int .i64 n] w fun e w'=>e=.returned (.string (num n))/\ah w.heap.size w w':=by
 go_enter func212,ntmps212;go_wp2_with (go_at_call 219;refine(ajj n h0 h1 _ hE).mono ?_;rintro e w' ⟨rfl,hb⟩)
 go_ret;exact⟨rfl,hb⟩
def adY (v:Int) (w:af) (e:Ending) (w':af):Prop:=e=.returned (.tuple #[.int .i64 v,.nilIface])/\ah w.heap.size w w'
def adX (w:af) (e:Ending) (w':af):Prop:=∃v:Int,∃M:Nat,e=.returned (.tuple #[.int .i64 v,.iface 290 (.pointer (U ⟨M,0,none⟩))])/\ah w.heap.size w w'
theorem OQ (s:ByteArray) (hs:s.size<=140737488355328) (v:Int) (h:Lib.atoiAll s.data.toList=.ok v) (w:af) :
 aj ae 211 #[.string s] w (adY v w):=
 (show aj ae 211 #[.string s] w fun e w' => e = .returned (.tuple #[.int .i64 v, .nilIface]) ∧ (w' = w ∨ ∃ t, w' = Lib.bytesWorld w 5 t) from Any.strconv_Atoi_ok Tryz.Ro s bT v h w).mono
   fun _ _ ⟨he,hw⟩=>⟨he,by rcases hw with rfl|⟨t,rfl⟩;exact Below.refl _ _;exact Lib.bytesWorld_below _ _ _⟩
theorem aeE (s:ByteArray) (hs:s.size<=140737488355328) (h:∀v,Lib.atoiAll s.data.toList ≠ .ok v) (w:af) (hE:Env w) :
 aj ae 211 #[.string s] w (adX w):=by
 cases hr:Lib.atoiAll s.data.toList
 · exact absurd hr (h _)
 · obtain⟨tp,p,hv⟩:=hE.syn;exact(Any.strconv_Atoi_syntax_var Tryz.Ro s bT hr tp p w hv).mono fun _ _ ⟨N,he,_,_,hb⟩=>⟨_,N,he,hb⟩
 · obtain⟨tp,p,hv⟩:=hE.rng;exact(Any.strconv_Atoi_range_var Tryz.Ro s bT hr tp p w hv).mono fun _ _ ⟨N,he,_,_,hb⟩=>⟨_,N,he,hb⟩
theorem akD (v:Int) (h0:-1000000000000<=v) (h1:v<=1000000000000):(num v).size<=14:=by
 have:=ajm v h0 h1
 show(Lib.itoa v).toArray.size<=14
 simpa using this
theorem acm {p:Prop} (h:p:=by
 rintro e w1 ⟨rfl,hb1⟩;go_wp2_with (first|(go_at_call 129;refine(Cw _ _).mono ?_;rintro e w' ⟨rfl,rfl⟩)|(go_at_call 212;refine(aoe _ bT bT _ (hE.below hb1)).mono ?_;rintro e w2 ⟨rfl,hb2⟩))
 go_ret2
 exact⟨rfl,hb1.trans (hb2.mono hb1.size)⟩
 ):p:=h
theorem aaY (v:Int) (h0:-1000000000000<=v) (h1:v<=1000000000000) (w:af) (hE:Env w) :
 aj ae 192 #[.string (num v)] w fun e w'=>e=.returned (.tuple #[.int .i64 v,.bool true])/\ah w.heap.size w w':=by
 have hi:=Zv h0 h1;go_enter func192,ntmps192;go_wp2_with fail;refine(OQ _ (by have:=akD v h0 h1;omega) v (by rw[RH];exact aeF v bT bT) _).mono ?_;exact acm
theorem aoh {a b:ByteArray} (h:a≠b):(a.toList==b.toList)=false:=by
 rw[beq_eq_false_iff_ne,Lib.toList_data,Lib.toList_data];exact fun e=>h (WideShapes.bytes_inj e)
theorem alc (s:ByteArray) (hs:s.size<=140737488355328) (h:∀v,iB v=true->num v≠s) (w:af) (hE:Env w) :
 aj ae 192 #[.string s] w fun e w'=>e=.returned (.tuple #[.int .i64 0,.bool false])/\ah w.heap.size w w':=by
 by_cases hv:∃v,Lib.atoiAll s.data.toList=.ok v
 · obtain⟨v,hv⟩:=hv
   cases hi:iB v
   · have Hi:=Lib.hid hi;clear hi;go_enter func192,ntmps192;go_wp2_with fail;refine(OQ _ hs v hv _).mono ?_;rintro e w1 ⟨rfl,hb1⟩;go_wp2_with (go_at_call 129;refine(Cw _ _).mono ?_;rintro e w' ⟨rfl,rfl⟩;rw[Hi.out])
     go_ret2
     exact⟨rfl,hb1⟩
   · obtain⟨h0,h1⟩:=Zu hi;have hne:((num v).toList==s.toList)=false:=aoh (h v hi);go_enter func192,ntmps192;go_wp2_with fail;refine(OQ _ hs v hv _).mono ?_;exact acm
 · go_enter func192,ntmps192;go_wp2_with fail;refine(aeE _ hs (fun v e=>hv ⟨v,e⟩) _ hE).mono ?_;rintro e w1 ⟨_,_,rfl,hb1⟩;go_wp2_with fail;go_ret2
   exact⟨rfl,hb1⟩
end Nu
namespace Nu
open Go.ChangeShapes Go.WideShapes Go.ChangeAt Go.RowKit
section
variable {H:Type} {enc:TypeId×Value->H}
theorem aat {f:Func} {s:ChangeSpec} {W W':af} {args:Array Value} {b:Bool} {ds:List (DataW H)} {before:List MemPlace}
 (hW:DataW.Whole enc ae f.params.toList s.vars false W args.toList ds [] before)
 (hres:DataW.TrodAll enc ae W' W.heap.size (fun _=>false) false f.resultTypes.toList ((Value.bool b).resultList f.resultTypes.size) (s.fn H (ds++[])).results [])
 (hargs:DataW.TrodAll enc ae W' 0 (fun k=>decide (k<W.heap.size)) true f.params.toList args.toList (s.fn H (ds++[])).args before)
 (hvars:DataW.TrodVars enc ae W' (fun k=>decide (k<W.heap.size)) s.vars (s.fn H (ds++[])).vars [])
 (hb:ah W.heap.size W W'):s.post enc ae f false true false false W args (.bool b) W':=
 ⟨ds,[],before,[],before,[],hW,hres,hargs,hvars,World.keptBut_mono (fun _ hp=>⟨hp,Or.inr (Or.inl hp)⟩) (hb.frame (· ∈ before)),fun h=>by cases h⟩
end
theorem own:ownKnob Tryz.prog.godebug=none:=by kernel_rfl
def laidAll:List (String×DataW Unit):=[("math/bits.deBruijn32tab",Rows.laid_math_bits_deBruijn32tab),("math/bits.deBruijn64tab",Rows.laid_math_bits_deBruijn64tab),("internal/strconv.uint64pow10",Rows.laid_internal_strconv_uint64pow10),("strconv.ErrRange",Rows.laid_strconv_ErrRange),("strconv.ErrSyntax",Rows.laid_strconv_ErrSyntax)]
theorem ahk (os:Os) (args:Array Value):laidMetH ae laidAll ((World.doorLaid ae 62 os).forCall (fun _ _=>0) ⟨#[],args,[]⟩).memory:=
 laidMetH_of_parts3 (fuel:=8) (laidMet_of_run' 8 dx dx) dx dx
theorem TG {P:Program} {w:af} {n:String} {cs:Array Value} {g:Nat} (hg:P.globalNamed n=U g) (hv:w.var? P n=U cs):g<w.heap.size:=by
 unfold World.var? at hv;rw[hg] at hv;simp only[Option.bind_some] at hv;rcases Nat.lt_or_ge g w.heap.size with h|h
 · exact h
 · rw[Array.getElem?_eq_none h] at hv;cases hv
theorem aln:(Rows.laid_internal_strconv_uint64pow10:DataW Unit)=Lib.tabData .u64 Lib.pow10Tab:=by kernel_rfl
theorem afM:Tryz.prog.cellsOf 322=20:=by kernel_rfl
theorem afN:Tryz.prog.cellsOf 26=1:=by kernel_rfl
theorem YK:Tryz.prog.globalNamed "internal/strconv.uint64pow10" = U 2:=by kernel_rfl
theorem YI:Tryz.prog.globalNamed "strconv.ErrRange" = U 1:=by kernel_rfl
theorem YJ:Tryz.prog.globalNamed "strconv.ErrSyntax" = U 0:=by kernel_rfl
theorem an8:(Tryz.prog.globals[2]?).map (·.type)=U 322:=by kernel_rfl
theorem an6:(Tryz.prog.globals[1]?).map (·.type)=U 280:=by kernel_rfl
theorem an7:(Tryz.prog.globals[0]?).map (·.type)=U 280:=by kernel_rfl
theorem jF {cs:Array Value} {x:Value} (h:cs.toList=[x]):cs=#[x]:=by cases cs;simp at h;rw[h]
theorem ahW {W:af} (h:laidMetH ae laidAll W):Env W:=by
 rw[MakeChecks.laidMetH_plain _ _ _ dx] at h;obtain⟨ps,⟨g0,t0,c0,f0,p0,q0,_,_,_,_,⟨g1,t1,c1,f1,p1,q1,_,_,_,_,⟨g2,t2,c2,f2,p2,q2,hg2,ht2,hv2,hd2,⟨g3,t3,c3,f3,p3,q3,hg3,ht3,hv3,hd3,⟨g4,t4,c4,f4,p4,q4,hg4,ht4,hv4,hd4,_,_⟩,_⟩,_⟩,_⟩,_⟩,_,_⟩:=h;obtain rfl:=Option.some.inj (YK.symm.trans hg2);obtain rfl:=Option.some.inj (YI.symm.trans hg3);obtain rfl:=Option.some.inj (YJ.symm.trans hg4);obtain rfl:=Option.some.inj (an8.symm.trans ht2);obtain rfl:=Option.some.inj (an6.symm.trans ht3);obtain rfl:=Option.some.inj (an7.symm.trans ht4);rw[aln] at hd2;have e2:=Lib.cells_of_tab underlying322 underlying26 afN afM hd2;obtain⟨_,u3,v3,e3,_,_⟩:=iface_of_trod underlying280 hd3;obtain⟨_,u4,v4,e4,_,_⟩:=iface_of_trod underlying280 hd4;exact⟨TG YK hv2,TG YI hv3,TG YJ hv4,by unfold Lib.TabIs;rw[hv2,← e2],⟨u4,v4,by rw[hv4,jF e4]⟩,⟨u3,v3,by rw[hv3,jF e3]⟩⟩
end Nu
namespace Na
def ER:List (List UInt8):=[
 [97,100,100],
 [97,102,116,101,114],
 [97,110,100],
 [97,116],
 [98,101,108,116],
 [98,111,111,108],
 [99,111,110,115,101,114,118,101],
 [99,111,110,115,116],
 [99,111,117,110,116],
 [99,121,99,108,101],
 [100,111,119,110],
 [100,114,97,119],
 [100,117,114],
 [101,108,115,101],
 [101,110,100],
 [101,118,101,114,121],
 [102,97,108,115,101],
 [102,97,117,108,116],
 [102,105,102,111],
 [102,114,101,101],
 [102,114,111,109],
 [103,101,111,109],
 [103,101,116],
 [104,111,108,100],
 [105,102],
 [105,110,116],
 [105,110,116,111],
 [108,101,97,115,116],
 [108,101,118,101,108],
 [108,105,102,111],
 [108,105,110,107],
 [108,111,99,97,108],
 [109,97,120],
 [109,105,110],
 [109,111,100,101,108],
 [110,111,116],
 [110,111,119],
 [111,98,115,101,114,118,101],
 [111,114],
 [112,97,114,97,109],
 [112,114,101,101,109,112,116],
 [112,114,105,111],
 [112,117,116],
 [113,117,101,117,101],
 [114,101,108,101,97,115,101],
 [114,101,115,111,117,114,99,101],
 [114,105,100,101],
 [114,111,117,116,105,110,101],
 [115,101,105,122,101],
 [115,101,110,100],
 [115,101,116],
 [115,104,105,102,116],
 [115,105,103,110,97,108],
 [115,105,116,101],
 [115,105,122,101],
 [115,112,97,119,110],
 [115,116,97,114,116],
 [115,116,111,112],
 [115,116,111,114,101],
 [115,116,114,101,97,109],
 [115,117,109],
 [116,97,98,108,101],
 [116,97,108,108,121],
 [116,105,99,107,115],
 [116,105,109,101],
 [116,114,117,101],
 [117,110,105,102,111,114,109],
 [117,110,116,105,108],
 [117,112],
 [118,97,114],
 [119,97,105,116],
 [119,97,105,116,105,110,103],
 [119,104,105,108,101]]
def gX (l:List UInt8):Bool:=ER.contains l
def iT (x:Int):Bool:=decide (97<=x)&&decide (x<=122)
def j_ (x:Int):Bool:=decide (48<=x)&&decide (x<=57)
def vz (x:Int):Bool:=iT x||j_ x||decide (x=95)
def gN (c:UInt8):Bool:=iT (c.toNat:Int)
def zF (c:UInt8):Bool:=vz (c.toNat:Int)
def mX (l:List UInt8):Bool:=decide (1<=l.length)&&decide (l.length<=24)&&gN (l.headD 0) && !gX l&&l.all zF
def fB (l:List UInt8):Int:=if mX l=true then 0 else 3
theorem GI {l:List UInt8}:fB l=0↔mX l=true:=by unfold fB;split <;> simp_all
theorem agp {l:List UInt8} (h:mX l=true):fB l=0:=if_pos h
theorem GH {l:List UInt8} (h:mX l=false):fB l=3:=if_neg (by simp[h])
theorem QM {x:Int} (h:iT x=true):vz x=true:=by unfold vz;rw[h];rfl
theorem YS {x:Int} (h:j_ x=true):vz x=true:=by unfold vz;rw[h];simp
theorem YU {x:Int} (h:x=95):vz x=true:=by unfold vz;simp[h]
theorem He {x:Int} (h1:iT x=false) (h2:j_ x=false) (h3:¬x=95):vz x=false:=by unfold vz;simp[h1,h2,h3]
theorem aaD {l:List UInt8}:mX l=true↔1<=l.length/\l.length<=24/\gN (l.headD 0)=true/\gX l=false/\l.all zF=true:=by
 unfold mX;simp only[Bool.and_eq_true,decide_eq_true_eq,Bool.not_eq_true'];constructor
 · rintro⟨⟨⟨⟨a,b⟩,c⟩,d⟩,e⟩;exact⟨a,b,c,d,e⟩
 · rintro⟨a,b,c,d,e⟩;exact⟨⟨⟨⟨a,b⟩,c⟩,d⟩,e⟩
theorem Iz {l:List UInt8} (h:¬(1<=l.length/\l.length<=24/\gN (l.headD 0)=true/\gX l=false/\l.all zF=true)):mX l=false:=by
 rw[← Bool.not_eq_true,aaD];exact h
theorem Zg {l:List UInt8} (h:0<l.length):l.headD 0=l[0]:=by
 cases l with
 | nil=>simp at h
 | cons c t=>rfl
theorem Vt {l:List UInt8} (h:l.length<1):fB l=3:=GH (Iz fun g=>by omega)
theorem Vs {l:List UInt8} (h:24<l.length):fB l=3:=GH (Iz fun g=>by omega)
theorem Vq {l:List UInt8} (h0:0<l.length) (h:gN l[0]=false):fB l=3:=GH (Iz fun g=>by
 have:=g.2.2.1;rw[Zg h0,h] at this;cases this)
theorem Vr {l:List UInt8} (h:gX l=true):fB l=3:=GH (Iz fun g=>by
 have:=g.2.2.2.1;rw[h] at this;cases this)
theorem Vp {l:List UInt8} {k:Nat} (hk:k<l.length) (h:zF l[k]=false):fB l=3:=GH (Iz fun g=>by
 have:=List.all_eq_true.1 g.2.2.2.2 _ (List.getElem_mem hk);rw[h] at this;cases this)
theorem all_good {l:List UInt8} (h1:1<=l.length) (h2:l.length<=24) (h3:gN l[0]=true) (h4:gX l=false) (h5:∀j,(hj:j<l.length)->zF l[j]=true):fB l=0:=
 agp (aaD.2 ⟨h1,h2,by rw[Zg h1];exact h3,h4,List.all_eq_true.2 fun c hc=>by
  obtain⟨j,hj,rfl⟩:=List.getElem_of_mem hc;exact h5 j hj⟩)
abbrev bs (s:ByteArray):List UInt8:=s.data.toList
theorem fJ (s:ByteArray):(bs s).length=s.size:=by simp[bs]
theorem jl {a b:ByteArray} (h:bs a=bs b):a=b:=by
 cases a;cases b
 simp only[bs,ByteArray.mk.injEq] at *
 exact Array.toList_inj.1 h
def fst:List ByteArray->ByteArray->Int
 | [],_=>-1
 | x::t,s=>if bs x=bs s then 0 else if fst t s = -1 then -1 else fst t s+1
theorem Ld (s:ByteArray):∀l:List ByteArray,-1<=fst l s
 | []=>Int.le_refl _
 | x::t=>by
  have:=Ld s t;unfold fst
  split
  · omega
  · split <;> omega
theorem Yy {s:ByteArray}:∀{l:List ByteArray} {k:Nat} (hk:k<l.length),(∀j,(hj:j<k)->¬bs (l[j]'(by omega))=bs s)->bs l[k]=bs s->fst l s=(k:Int)
 | [],k,hk,_,_=>absurd hk (Nat.not_lt_zero _)
 | x::t,0,hk,_,e=>by
  unfold fst;exact if_pos e
 | x::t,k+1,hk,h,e=>by
  have h0:¬bs x=bs s:=h 0 (Nat.succ_pos _);have hk':k<t.length:=by simp at hk;omega
  have ih:=Yy (s:=s) (l:=t) (k:=k) hk' (fun j hj=>h (j+1) bT) e;unfold fst;rw[if_neg h0,ih,if_neg bT];omega
theorem YA {s:ByteArray}:∀{l:List ByteArray},(∀j,(hj:j<l.length)->¬bs l[j]=bs s)->fst l s = -1
 | [],_=>rfl
 | x::t,h=>by
  have h0:¬bs x=bs s:=h 0 cK;have ih:=YA (s:=s) (l:=t) (fun j hj=>h (j+1) za);unfold fst;rw[if_neg h0,ih,if_pos rfl]
theorem QC (s:ByteArray):∀l:List ByteArray,fst l s<l.length
 | []=>by show(-1:Int)<0;decide
 | x::t=>by
  have:=QC s t;unfold fst;rw[List.length_cons]
  split
  · omega
  · split <;> omega
def okB (l:List ByteArray) (k:Nat):Bool:=match l[k]? with
 | some x=>mX (bs x)&&decide (fst l x=(k:Int))
 | none=>true
def dst (l:List ByteArray):Int:=match (List.range l.length).find? (fun k=>!okB l k) with
 | none=>0
 | some k=>if mX (bs (l.getD k ⟨#[]⟩))=true then 4 else 3
end Na
namespace Ex
open Na (bs jl fB)
inductive Ex where
 | mk (o:Int) (s:ByteArray) (n:Int) (l:List Ex)
def Ex.o:Ex->Int
 | .mk o _ _ _=>o
def Ex.s:Ex->ByteArray
 | .mk _ s _ _=>s
def Ex.n:Ex->Int
 | .mk _ _ n _=>n
def Ex.l:Ex->List Ex
 | .mk _ _ _ l=>l
mutual
def cnt:Ex->Nat
 | .mk _ _ _ l=>gq l+1
def gq:List Ex->Nat
 | []=>0
 | x::t=>cnt x+gq t
end
mutual
def dep:Ex->Nat
 | .mk _ _ _ l=>jZ l+1
def jZ:List Ex->Nat
 | []=>0
 | x::t=>max (dep x) (jZ t)
end
mutual
def pre:Ex->List Ex
 | .mk o s n l=>.mk o s n l::eD l
def eD:List Ex->List Ex
 | []=>[]
 | x::t=>pre x++eD t
end
theorem GK:∀e:Ex,1<=cnt e
 | .mk _ _ _ l=>by unfold cnt;omega
theorem agY:∀e:Ex,1<=dep e
 | .mk _ _ _ l=>by unfold dep;omega
theorem PN:∀a b:List Ex,gq (a++b)=gq a+gq b
 | [],b=>by simp[gq]
 | x::t,b=>by simp only[ag,gq,PN t b];omega
theorem PW:∀a b:List Ex,jZ (a++b)=max (jZ a) (jZ b)
 | [],b=>by simp[jZ]
 | x::t,b=>by simp only[ag,jZ,PW t b];omega
theorem Ml:∀a b:List Ex,eD (a++b)=eD a++eD b
 | [],b=>rfl
 | x::t,b=>by simp only[ag,eD,Ml t b,List.append_assoc]
theorem aob {α:Type} {l:List α} {k:Nat} (h:k<l.length):l.take (k+1)=l.take k++[l[k]]:=by rw[List.take_add_one,List.getElem?_eq_getElem h];rfl
theorem take_one {α:Type} {l:List α} {k:Nat} {x:α} (h:l[k]?=U x):l.take (k+1)=l.take k++[x]:=by rw[List.take_add_one,h];rfl
theorem PQ {l:List Ex} {k:Nat} {x:Ex} (h:l[k]?=U x):gq (l.take (k+1))=gq (l.take k)+cnt x:=by rw[take_one h,PN];simp[gq]
theorem WM {l:List Ex} {k:Nat} {x:Ex} (h:l[k]?=U x):jZ (l.take (k+1))=max (jZ (l.take k)) (dep x):=by rw[take_one h,PW];simp[jZ]
theorem RZ {l:List Ex} {k:Nat} {x:Ex} (h:l[k]?=U x):eD (l.take (k+1))=eD (l.take k)++pre x:=by rw[take_one h,Ml];simp[eD]
theorem WB (l:List Ex) (k:Nat):gq (l.take k)<=gq l:=by
 have:=PN (l.take k) (l.drop k);rw[List.take_append_drop] at this;omega
theorem agW (l:List Ex) (k:Nat):jZ (l.take k)<=jZ l:=by
 have:=PW (l.take k) (l.drop k);rw[List.take_append_drop] at this;omega
theorem WC:∀{l:List Ex} {x:Ex},x∈l->cnt x<=gq l
 | [],x,h=>by cases h
 | y::t,x,h=>by
  unfold gq;rcases List.mem_cons.1 h with rfl|h
  · omega
  · have:=WC h;omega
theorem WO:∀{l:List Ex} {x:Ex},x∈l->dep x<=jZ l
 | [],x,h=>by cases h
 | y::t,x,h=>by
  unfold jZ;rcases List.mem_cons.1 h with rfl|h
  · omega
  · have:=WO h;omega
theorem Ex.ind {P:Ex->Prop} (h:∀o s n l,(∀x∈l,P x)->P (.mk o s n l)) (e:Ex):P e:=by
 have:∀k e,cnt e<=k->P e:=by
  intro k
  induction k with
  | zero=>intro e he;have:=GK e;omega
  | succ k ih=>
   intro e he;obtain⟨o,s,n,l⟩:=e;refine h o s n l fun x hx=>ih x ?_;have:=WC hx;unfold cnt at he;omega
 exact this _ e (ai _)
mutual
theorem R_:∀e:Ex,(pre e).length=cnt e
 | .mk o s n l=>by unfold pre cnt;simp[RY l]
theorem RY:∀l:List Ex,(eD l).length=gq l
 | []=>rfl
 | x::t=>by unfold eD gq;rw[List.length_append,R_ x,RY t]
end
theorem aa1:∀{l:List Ex} {x y:Ex},x∈l->y∈pre x->y∈eD l
 | [],x,y,h,_=>by cases h
 | z::t,x,y,h,g=>by
  unfold eD;rcases List.mem_cons.1 h with rfl|h
  · exact List.mem_append_left _ g
  · exact List.mem_append_right _ (aa1 h g)
theorem aa2:∀{l:List Ex} {y:Ex},y∈eD l->∃x∈l,y∈pre x
 | [],y,h=>by cases h
 | z::t,y,h=>by
  unfold eD at h;rcases List.mem_append.1 h with h|h
  · exact⟨z,List.mem_cons_self,h⟩
  · obtain⟨x,hx,hy⟩:=aa2 h;exact⟨x,List.mem_cons_of_mem _ hx,hy⟩
theorem PX (e:Ex):dep e<=cnt e:=by
 have key:∀l:List Ex,(∀x∈l,dep x<=cnt x)->jZ l<=gq l:=by
  intro l
  induction l with
  | nil=>intro _;simp[jZ,gq]
  | cons x t ih=>
   intro h;have h1:=h x List.mem_cons_self;have h2:=ih fun z hz=>h z (List.mem_cons_of_mem _ hz);unfold jZ gq;omega
 induction e using Ex.ind with
 | h o s n l ih=>
  have:=key l ih;unfold dep cnt;omega
theorem Sa:∀e:Ex,e∈pre e
 | .mk o s n l=>by unfold pre;exact List.mem_cons_self
theorem R7 {o:Int} {s:ByteArray} {n:Int} {l:List Ex} {x y:Ex} (hx:x∈l) (hy:y∈pre x):y∈pre (.mk o s n l):=by
 unfold pre;exact List.mem_cons_of_mem _ (aa1 hx hy)
def fH (o:Int):Int:=if o<1∨26<o then -1 else if 5<=o/\o<=8 then 1 else if 9<=o/\o<=21 then 2 else 0
def obj (o:Int):Bool:=decide (22<=o)&&decide (o<=24)
def most (o:Int):Int:=if o=25 then 15 else if o=26 then 31 else 63
def known (c:Bool) (o:Int):Bool:=decide (0<=fH o)&&(c && !decide (o=3) || !c&&decide (o<=24))
def named (c:Bool) (o:Int):Bool:=!c&&(decide (o=3)||obj o)
def counted (c:Bool) (o:Int):Bool:=c&&(obj o||decide (o=25)||decide (o=26))
def numbered (c:Bool) (o:Int):Bool:=decide (o=1)||decide (o=2)||counted c o
def wQ (n:Int):Bool:=decide (-1000000000000<=n)&&decide (n<=1000000000000)
def nY (c:Bool) (o:Int) (s:List UInt8) (n:Int) (m:Nat):Bool:=!known c o || !named c o && !decide (s=[]) || !numbered c o && !decide (n=0) || !decide ((m:Int)=fH o)
def eG (c:Bool) (o n:Int):Bool:=decide (o=1) && !wQ n||decide (o=2) && !decide (n=0) && !decide (n=1)||counted c o&&(decide (n<0)||decide (most o<n))
def nd (c:Bool) (o:Int) (s:List UInt8) (n:Int) (m:Nat):Int:=if nY c o s n m then 1 else if eG c o n then 2 else if named c o then fB s else 0
def oW (c:Bool) (e:Ex):Int:=nd c e.o (bs e.s) e.n e.l.length
def bad (c:Bool):List Ex->Int
 | []=>0
 | x::t=>if oW c x=0 then bad c t else oW c x
theorem En {c:Bool} {x:Ex} {t:List Ex} (h:oW c x=0):bad c (x::t)=bad c t:=if_pos h
theorem JZ {c:Bool} {x:Ex} {t:List Ex} (h:¬oW c x=0):bad c (x::t)=oW c x:=if_neg h
theorem O7 {c:Bool}:∀{a b:List Ex},bad c a=0->bad c (a++b)=bad c b
 | [],b,_=>rfl
 | x::t,b,h=>by
  by_cases g:oW c x=0
  · rw[En g] at h;rw[ag,En g,O7 h]
  · rw[JZ g] at h;exact absurd h g
theorem O4 {c:Bool}:∀{a b:List Ex},¬bad c a=0->bad c (a++b)=bad c a
 | [],b,h=>absurd rfl h
 | x::t,b,h=>by
  by_cases g:oW c x=0
  · rw[En g] at h;rw[ag,En g,En g,O4 h]
  · rw[ag,JZ g,JZ g]
theorem Vu {c:Bool}:∀{l:List Ex},bad c l=0 ↔ ∀x∈l,oW c x=0
 | []=>by simp[bad]
 | y::t=>by
  simp only[bad,List.mem_cons,forall_eq_or_imp];by_cases h:oW c y=0
  · rw[if_pos h,Vu (l:=t)];simp[h]
  · rw[if_neg h];simp[h]
def fI (c:Bool) (e:Ex):Int:=if 60<cnt e then 6 else if 12<dep e then 11 else bad c (pre e)
theorem GI {c:Bool} {e:Ex} (h:fI c e=0):cnt e<=60/\dep e<=12/\∀x∈pre e,oW c x=0:=by
 unfold fI at h;by_cases h1:60<cnt e
 · rw[if_pos h1] at h;cases h
 by_cases h2:12<dep e
 · rw[if_neg h1,if_pos h2] at h;cases h
 rw[if_neg h1,if_neg h2] at h;exact⟨by omega,by omega,Vu.1 h⟩
mutual
def same:Ex->Ex->Bool
 | .mk o s n l,.mk o2 s2 n2 l2=>decide (o=o2)&&decide (bs s=bs s2)&&decide (n=n2)&&jU l l2
def jU:List Ex->List Ex->Bool
 | [],[]=>true
 | x::t,y::u=>same x y&&jU t u
 | [],_::_=>false
 | _::_,[]=>false
end
mutual
theorem same_eq:∀{a b:Ex},same a b=true->a=b
 | .mk o s n l,.mk o2 s2 n2 l2,h=>by
  unfold same at h;simp only[Bool.and_eq_true,decide_eq_true_eq] at h;obtain⟨⟨⟨rfl,h1⟩,rfl⟩,h2⟩:=h;rw[jl h1,IP h2]
theorem IP:∀{a b:List Ex},jU a b=true->a=b
 | [],[],_=>rfl
 | x::t,y::u,h=>by
  unfold jU at h;rw[Bool.and_eq_true] at h;rw[same_eq h.1,IP h.2]
 | [],_::_,h=>by unfold jU at h;cases h
 | _::_,[],h=>by unfold jU at h;cases h
end
mutual
theorem SE:∀a:Ex,same a a=true
 | .mk o s n l=>by unfold same;simp[IQ l]
theorem IQ:∀a:List Ex,jU a a=true
 | []=>by unfold jU;rfl
 | x::t=>by unfold jU;rw[SE x,IQ t];rfl
end
theorem amM {a b:Ex} (h:a=b):same a b=true:=by rw[h];exact SE b
theorem same_iff {a b:Ex}:same a b=true↔a=b:=⟨same_eq,amM⟩
theorem amH:∀{a b:List Ex},jU a b=true->a.length=b.length:=fun h=>by rw[IP h]
end Ex
namespace Nu
open Go.RowKit
theorem ng {p:Prop} (h:p:=by omega):p:=h
theorem akB (d:Nat) (h:d<10):num (d:Int)=⟨#[UInt8.ofNat (48+d)]⟩:=by
 unfold num;rw[Lu (d:Int) ng ng];rfl
theorem Sn (n:Int) (h0:0<=n) (h1:n<10) (w:af):aj ae 65 #[.int .i64 n] w fun e w'=>e=.returned (.string (num n))/\w=w':=by
 have h:n=((0:Nat):Int)∨n=((1:Nat):Int)∨n=((2:Nat):Int)∨n=((3:Nat):Int)∨n=((4:Nat):Int)∨n=((5:Nat):Int)∨n=((6:Nat):Int)∨n=((7:Nat):Int)∨n=((8:Nat):Int)∨n=((9:Nat):Int):=by omega
 rcases h with rfl|rfl|rfl|rfl|rfl|rfl|rfl|rfl|rfl|rfl
 all_goals
  rw[akB _ ng];go_enter func65,ntmps65;go_wp2_with fail;go_ret;exact⟨rfl,rfl⟩
theorem alU {a b:ByteArray} (h:a=b):Ending.returned (.string a)=.returned (.string b):=by rw[h]
theorem aaI {a b c:Int} (h:Lib.itoa c=Lib.itoa a++Lib.itoa b):num a++num b=num c:=by
 refine WideShapes.bytes_inj ?_;rw[RH,h]
 show(num a++num b).data.toList=_
 simp[num,ByteArray.data_append]
theorem IA (v:Int) (h0:-9223372036854775808<=v) (h1:v<=9223372036854775807):(num v).size<=20:=by
 have:=ajn v h0 h1
 show(Lib.itoa v).toArray.size<=20
 simpa using this
theorem acy {p:Prop} (h:p:=by
 go_wp2_with fail;refine(Sn _ ng ng _).mono ?_;rintro e w' ⟨rfl,rfl⟩;go_wp2_with fail;go_ret;exact⟨alU HJ.out,rfl⟩
 ):p:=h
theorem acx {p:Prop} (h:p:=by
 have IH:=Lib.hid ih;clear ih;go_enter func65,ntmps65;go_wp2_with fail;refine(IH.out _ _ ng ng ng).mono ?_;rintro e w' ⟨rfl,rfl⟩;exact acy
 ):p:=h
theorem amE (k:Nat):∀(n:Int) (w:af),0<=n->n<=9223372036854775807->n.toNat<=k ->
 aj ae 65 #[.int .i64 n] w fun e w'=>e=.returned (.string (num n))/\w=w':=by
 induction k with
 | zero=>intro n w h0 _ hk;exact Sn n h0 ng w
 | succ k ih=>
  intro n w h0 h1 hk;by_cases hs:n<10
  · exact Sn n h0 hs w
  · have hj:=aaI (Rb n ng);have s1:=IA (n / 10) ng ng;have s2:=IA (n % 10) ng ng;have HJ:=Lib.hid hj;clear hj;exact acx
theorem akC (n:Int) (h:n<0):(⟨#[45]⟩:ByteArray)++num (-n)=num n:=by
 refine WideShapes.bytes_inj ?_;rw[RH,itoa_neg n h]
 show((⟨#[45]⟩:ByteArray)++num (-n)).data.toList=_
 simp[num,ByteArray.data_append]
theorem amD (k:Nat):∀(n:Int) (w:af),n<0->-9223372036854775808<=n->n.natAbs<=k ->
 aj ae 65 #[.int .i64 n] w fun e w'=>e=.returned (.string (num n))/\w=w':=by
 induction k with
 | zero=>intro n w h0 _ hk;omega
 | succ k ih=>
  intro n w h0 h1 hk;by_cases hs:-10<n
  · have s1:=IA (-n) ng ng;have HJ:=Lib.hid (akC n h0);clear ih;go_enter func65,ntmps65;exact acy
  · have hs:n<=-10:=by omega
    have t1:=aoc n hs;have t2:=aog n hs;have HJ:=Lib.hid (aaI (ajk n hs));have s1:=IA (n.tdiv 10) ng ng;have s2:=IA (-(n.tmod 10)) ng ng;exact acx
theorem amC (n:Int) (h0:-9223372036854775808<=n) (h1:n<=9223372036854775807) (w:af) :
 aj ae 65 #[.int .i64 n] w fun e w'=>e=.returned (.string (num n))/\w=w':=by
 rcases Int.lt_or_le n 0 with h|h
 · exact amD n.natAbs n w h h0 (ai _)
 · exact amE n.toNat n w h h1 (ai _)
end Nu
namespace Na
open Go.RowKit
theorem nN {k:IntKind} {a b:Int} (h:a=b):Ending.returned (.int k a)=.returned (.int k b):=by rw[h]
theorem lC {a b:Bool} (h:a=b):Ending.returned (.bool a)=.returned (.bool b):=by rw[h]
def Gives (v:Value) (w:af) (e:Ending) (w':af):Prop:=e=.returned v/\ah w.heap.size w w'
theorem below_drewN {B:Nat} {a w:af} (h:ah B a w) (n:Nat):ah B a (w.drewN n):=⟨h.os,h.tape,h.output,h.size,h.block⟩
section
variable {a w w2:af}
theorem iJ {o:Obj} (h:ah a.heap.size a w):ah a.heap.size a (w.alloc o):=h.alloc h.size o
theorem uy {n:Nat} (h:ah a.heap.size a w):ah a.heap.size a (w.drewN n):=below_drewN h n
theorem qJ (h:ah a.heap.size a w):ah a.heap.size a w.drew:=h.drew
theorem yn {p:Addr} (h:ah a.heap.size a w) (hp:a.heap.size<=p.block) (u:Value):ah a.heap.size a (w.setCell p u):=h.setCell hp u
theorem rF (h:ah a.heap.size a w) (hb:ah w.heap.size w w2):ah a.heap.size a w2:=h.trans (hb.mono h.size)
end
def Strs (w:af) (p:Option Addr) (n:Nat) (l:List ByteArray):Prop:=
 l.length=n/\n<=9223372036854775807/\(n=0∨∃b o,p=U ⟨b,o,none⟩/\b<w.heap.size/\Hid (∀i,(h:i<l.length)->w.cell? ⟨b,o+i,none⟩=U (.string (l[i]))))
theorem acA {p:Prop} (h:p:=by
 exact zzk
 ):p:=h
theorem Strs.on {w w2:af} {p:Option Addr} {n:Nat} {l:List ByteArray} (hb:ah w.heap.size w w2) (h:Strs w p n l):Strs w2 p n l:=by
 exact acA
theorem Strs.alloc {w:af} {o:Obj} {p:Option Addr} {n:Nat} {l:List ByteArray} (h:Strs w p n l):Strs (w.alloc o) p n l:=h.on ((Below.refl _ _).alloc (ai _) o)
theorem Strs.drew {w:af} {p:Option Addr} {n:Nat} {l:List ByteArray} (h:Strs w p n l):Strs w.drew p n l:=h
theorem Strs.drewN {w:af} {p:Option Addr} {n:Nat} {l:List ByteArray} (h:Strs w p n l) (m:Nat):Strs (w.drewN m) p n l:=h
def Jv (w:af) (p:Option Addr) (n:Nat) (l:List UInt8):Prop:=
 l.length=n/\n<=9223372036854775807/\(n=0∨∃b o,p=U ⟨b,o,none⟩/\b<w.heap.size/\Hid (∀i,(h:i<l.length)->w.cell? ⟨b,o+i,none⟩=U (.int .u8 ((l[i]).toNat:Int))))
theorem Jv.on {w w2:af} {p:Option Addr} {n:Nat} {l:List UInt8} (hb:ah w.heap.size w w2) (h:Jv w p n l):Jv w2 p n l:=by
 exact acA
theorem ae7 (S:ByteArray) (hl:S.size<=9223372036854775807) (w:af) :
 ∃c w',(convert 9 149 (.string S)).run ae w=.ok (.slice (U ⟨w.heap.size,0,none⟩) S.size c) w'/\Jv w' (U ⟨w.heap.size,0,none⟩) S.size (bs S)/\ah w.heap.size w w':=by
 refine⟨_,_,run_bytes_of_string w _ _ 5 _ underlying9 underlying149 underlying5,⟨fJ S,hl,.inr ⟨_,_,rfl,by simp,Lib.hid fun i hi=>?_⟩⟩,iJ (qJ (Below.refl _ _))⟩;have e:=World.cell?_alloc_mark w.drew (bytesRow S (grownCap w S.size 0 5)) 5 ((bytesRow S (grownCap w S.size 0 5)).size,(bytesRow S (grownCap w S.size 0 5)).size+1) (0+i);rw[show w.drew.heap.size=w.heap.size from rfl] at e;rw[e,Nat.zero_add,bytesRow_at _ _ _ (by rw[fJ] at hi;exact hi)];rfl
theorem rH {a b:ByteArray} (h:bs a=bs b):(a.toList==b.toList)=true:=by rw[jl h];simp
theorem vk {a b:ByteArray} (h:¬bs a=bs b):(a.toList==b.toList)=false:=by
 exact Uz
end Na
end Go.Proofs.YtkpekhpgdajabaaGreatDoor
