/-
  Parts of this proof: Plain definitions and facts about the integers t. The contracts of package num's integer functions. Plain facts about decimal numerals. The library functions that this program calls, c. The contracts of Text and Parse of package num. What the listed library variables give the walks. Mathematics of names. Mathematics of expressions. Words for worlds and expressions in memory.
-/
import Derived.Test.YthnillhnjhalmaaGreatDoorRows
import Derived.Test.YthnillhnjhalmaaGreatDoorProg
import Derived.Test.YthnillhnjhalmaaGreatDoorYZDict
open Go.Proofs.Tryz
open Go.Proofs.Tryz renaming prog->ae
open Go renaming World->af,Addr->ai
open Option renaming some->U,none->aj
open List renaming cons_append->ag
open Go.RowKit renaming Below->ah
open Nat renaming le_refl->ak,lt_of_lt_of_le->au
set_option linter.unusedVariables false
set_option maxHeartbeats 1000000
namespace Go.Proofs.YthnillhnjhalmaaGreatDoor
namespace Nu
def iO (n:Int):Bool:=decide (-1000000000000<=n/\n<=1000000000000)
theorem aaz {n:Int} (h0:-1000000000000<=n) (h1:n<=1000000000000):iO n=true:=by unfold iO;simp;omega
theorem aax {n:Int} (h:n < -1000000000000∨1000000000000<n):iO n=false:=by unfold iO;simp;omega
theorem aay {n:Int} (h:iO n=true):-1000000000000<=n/\n<=1000000000000:=by unfold iO at h;simpa using h
def LA (n:Int):Int:=if n<0 then -n else n
theorem af4 {n:Int} (h:0<=n):LA n=n:=by unfold LA;rw[if_neg bU]
theorem nZ {k:IntKind} {a b:Int} (h:a=b):Ending.returned (.int k a)=.returned (.int k b):=by rw[h]
theorem lJ {a b:Bool} (h:a=b):Ending.returned (.bool a)=.returned (.bool b):=by rw[h]
end Nu
namespace Nu
open Go.RowKit
theorem Vd {p:Prop} (h:p:=by
 go_enter func138,ntmps138
 go_wp2
 go_ret;exact⟨lJ (by simp;try omega),rfl⟩
 ):p:=h
theorem DU (n:Int) (w:af):Calls ae 138 #[.int .i64 n] w fun e w'=>e=.returned (.bool (iO n))/\w=w':=by
 rcases Int.lt_or_le 1000000000000 n with h|h
 · rw[aax (Or.inr h)];exact Vd
 · rcases Int.lt_or_le n (-1000000000000) with h'|h'
   · rw[aax (Or.inl h')];exact Vd
   · rw[aaz h' h];exact Vd
end Nu
namespace Nu
open Go.Lib
theorem FI (d:Nat) (h:d<10):(UInt8.ofNat (48+d)).toNat=48+d:=by
 rw[UInt8.toNat_ofNat'];omega
theorem FE {u:Nat} (h:u<10):decDigits u=[UInt8.ofNat (48+u)]:=by rw[decDigits,dif_pos h]
theorem IB {u:Nat} (h:¬u<10):decDigits u=decDigits (u / 10)++[UInt8.ofNat (48+u % 10)]:=by rw[decDigits,dif_neg h]
theorem amJ (l m:List UInt8):∀a,parseUint10 a (l++m)=match parseUint10 a l with|.ok b=>parseUint10 b m|r=>r:=by
 induction l with
 | nil=>intro a;rfl
 | cons c l ih=>
  intro a;simp only[ag,parseUint10]
  split
  · split
    · rfl
    · split
      · rfl
      · exact ih _
  · rfl
theorem jH {p:Prop} (h:p:=by omega):p:=h
theorem abW (a d:Nat) (ha:a<=922337203685477580) (h:d<10):parseUint10 a [UInt8.ofNat (48+d)]=.ok (a*10+d):=by
 simp only[parseUint10,FI d h];rw[if_pos jH,if_neg jH,if_neg jH]
 congr 1
 omega
theorem abV (u:Nat) (hu:u<=9223372036854775808):parseUint10 0 (decDigits u)=.ok u:=by
 induction u using Nat.strongRecOn with
 | _ u ih=>
  by_cases h:u<10
  · rw[FE h,abW 0 u jH h,Nat.zero_mul,Nat.zero_add]
  · rw[IB h,amJ,ih (u / 10) jH jH];simp only;rw[abW (u / 10) (u % 10) jH jH]
    congr 1
    omega
theorem Yi (u:Nat):∀c∈decDigits u,48<=c.toNat/\c.toNat<=57:=by
 induction u using Nat.strongRecOn with
 | _ u ih=>
  by_cases h:u<10
  · rw[FE h];intro c hc;rw[List.mem_singleton] at hc;subst hc;rw[FI u h];omega
  · rw[IB h];intro c hc;rcases List.mem_append.1 hc with hc|hc
    · exact ih (u / 10) jH c hc
    · rw[List.mem_singleton] at hc;subst hc;rw[FI _ jH];omega
theorem Mk (u:Nat):∃c r,decDigits u=c::r/\48<=c.toNat/\c.toNat<=57:=by
 have hl:=decDigits_length u;have hp:=nDigits_pos u
 match hd:decDigits u with
 | []=>rw[hd] at hl;simp at hl;omega
 | c::r=>exact⟨c,r,rfl,Yi u c (by rw[hd];exact List.mem_cons_self)⟩
theorem agh (v:Int) (h0:-9223372036854775808<=v) (h1:v<=9223372036854775807):atoiAll (itoa v)=.ok v:=by
 unfold itoa
 split
 · rename_i h
   obtain⟨c,r,e,-,-⟩:=Mk v.natAbs;have hp:=abV v.natAbs jH;have hm:parseMag (decDigits v.natAbs)=.ok v.natAbs:=by unfold parseMag;rw[if_neg (by rw[e];simp)];exact hp
   unfold atoiAll;simp only[show(45:UInt8).toNat=45 from rfl];rw[if_pos (Or.inr trivial),hm];simp
   rw[if_neg jH]
   congr 1
   omega
 · rename_i h
   obtain⟨c,r,e,h2,h3⟩:=Mk v.toNat;have hp:=abV v.toNat jH;have hm:parseMag (decDigits v.toNat)=.ok v.toNat:=by unfold parseMag;rw[if_neg (by rw[e];simp)];exact hp
   rw[e] at hm ⊢;unfold atoiAll;simp only;rw[if_neg jH,hm];have h4:¬c.toNat=45:=by omega
   simp[h4]
   rw[if_neg jH]
   congr 1
   omega
theorem Nq:∀(k u:Nat),u<10 ^ (k+1)->nDigits u<=k+1
 | 0,u,h=>by rw[nDigits_small Ad];exact ak _
 | k+1,u,h=>by
  by_cases hs:u<10
  · rw[nDigits_small hs];omega
  · rw[nDigits_big hs];have:=Nq k (u / 10) (by rw[Nat.pow_succ] at h;omega);omega
theorem akO (v:Int) (h0:-1000000000000<=v) (h1:v<=1000000000000):(itoa v).length<=14:=by
 unfold itoa
 split
 · rw[List.length_cons,decDigits_length];have:=Nq 12 v.natAbs jH;omega
 · rw[decDigits_length];have:=Nq 12 v.toNat jH;omega
theorem Ti (n:Int) (h0:0<=n) (h1:n<10):itoa n=[UInt8.ofNat (48+n.toNat)]:=by
 unfold itoa;rw[if_neg jH,FE jH]
theorem akL (n:Int) (h:10<=n):itoa n=itoa (n / 10)++itoa (n % 10):=by
 rw[Ti (n % 10) jH jH];unfold itoa;rw[if_neg jH,if_neg jH,IB jH,show(n / 10).toNat=n.toNat / 10 by omega,show(n % 10).toNat=n.toNat % 10 by omega]
def wF (n:Int) (c:UInt8):Int:=if 48<=c.toNat/\c.toNat<=57 then 10*n+(c.toNat-48) else n
def iA (l:List UInt8):Int:=l.foldl wF 0
theorem ZQ (l m:List UInt8) (a:Int):(l++m).foldl wF a=m.foldl wF (l.foldl wF a):=List.foldl_append
theorem ZR (u:Nat):iA (decDigits u)=u:=by
 unfold iA
 induction u using Nat.strongRecOn with
 | _ u ih=>
  by_cases h:u<10
  · rw[FE h];simp only[List.foldl_cons,List.foldl_nil,wF,FI u h];rw[if_pos jH];omega
  · rw[IB h,ZQ,ih (u / 10) jH];simp only[List.foldl_cons,List.foldl_nil,wF,FI (u % 10) jH];rw[if_pos jH];omega
theorem ajP (l:List UInt8):iA (45::l)=iA l:=by
 unfold iA;rw[List.foldl_cons];rfl
theorem MS (l:List UInt8) (c:UInt8):iA (l++[c])=wF (iA l) c:=by unfold iA;rw[ZQ];rfl
theorem ajN:∀(k:Nat) (l:List UInt8),l.length<=k->0<=iA l/\iA l<10 ^ k:=by
 intro k
 induction k with
 | zero=>intro l h;have:l=[]:=List.length_eq_zero_iff.1 jH;subst this;exact⟨by decide,by decide⟩
 | succ k ih=>
  intro l h;rcases List.eq_nil_or_concat l with rfl|⟨m,c,rfl⟩
  · exact⟨by decide,Int.pow_pos bS⟩
  · rw[List.concat_eq_append,MS];rw[List.concat_eq_append,List.length_append] at h;have:=ih m Ad;rw[Int.pow_succ]
    generalize (10:Int) ^ k=p at *
    unfold wF;have:=c.toNat_lt
    split <;> omega
theorem ajO (v:Int):iA (itoa v)=LA v:=by
 unfold itoa LA
 split
 · rw[ajP,ZR];omega
 · rw[ZR];omega
end Nu
end Go.Proofs.YthnillhnjhalmaaGreatDoor
namespace Go.Proofs
open Go.Shelf
def Tryz.alo:Go.Shelf.Ren:=⟨fun|171=>237|243=>253|246=>267|283=>275|284=>276|285=>277|286=>278|129=>280|317=>279|318=>281|319=>282|320=>283|337=>284|338=>285|n=>n,fun|3=>3|9=>9|2=>2|4=>4|171=>315|0=>0|53=>301|37=>143|5=>5|173=>318|212=>322|51=>323|20=>20|213=>324|46=>304|232=>327|233=>328|n=>n,fun|17=>2|18=>3|19=>4|n=>n⟩
theorem gD {p:Prop} (h:p:=by kernel_rfl):p:=h
theorem Tryz.aln:Go.Proofs.LaysM.n171 ae Tryz.alo:={
 mixed:=by kernel_rfl
 f129:=func280.trans (congrArg U gD)
 f171:=func237.trans (congrArg U gD)
 f243:=func253.trans (congrArg U gD)
 f246:=func267.trans (congrArg U gD)
 f283:=func275.trans (congrArg U gD)
 f284:=func276.trans (congrArg U gD)
 f285:=func277.trans (congrArg U gD)
 f286:=func278.trans (congrArg U gD)
 f317:=func279.trans (congrArg U gD)
 f318:=func281.trans (congrArg U gD)
 f319:=func282.trans (congrArg U gD)
 f320:=func283.trans (congrArg U gD)
 f337:=func284.trans (congrArg U gD)
 f338:=func285.trans (congrArg U gD)
 t0:=underlying0
 a0:=Tryz.isAgg0
 z0:=sizeOf0
 v0:=Tryz.zeroValue0
 t2:=underlying2
 a2:=Tryz.isAgg2
 z2:=sizeOf2
 v2:=Tryz.zeroValue2
 t3:=underlying3
 a3:=Tryz.isAgg3
 z3:=sizeOf3
 v3:=Tryz.zeroValue3
 t4:=underlying4
 a4:=Tryz.isAgg4
 z4:=sizeOf4
 v4:=Tryz.zeroValue4
 t5:=underlying5
 a5:=Tryz.isAgg5
 z5:=sizeOf5
 v5:=Tryz.zeroValue5
 t9:=underlying9
 a9:=Tryz.isAgg9
 z9:=sizeOf9
 v9:=Tryz.zeroValue9
 t20:=underlying20
 a20:=Tryz.isAgg20
 z20:=sizeOf20
 v20:=Tryz.zeroValue20
 t37:=underlying143
 a37:=Tryz.isAgg143
 z37:=sizeOf143
 v37:=Tryz.zeroValue143
 t46:=underlying304
 a46:=Tryz.isAgg304
 z46:=sizeOf304
 v46:=Tryz.zeroValue304
 t51:=underlying323
 a51:=Tryz.isAgg323
 z51:=sizeOf323
 v51:=Tryz.zeroValue323
 t53:=underlying301
 a53:=Tryz.isAgg301
 z53:=sizeOf301
 v53:=Tryz.zeroValue301
 t171:=underlying315
 a171:=Tryz.isAgg315
 z171:=sizeOf315
 v171:=Tryz.zeroValue315
 t173:=underlying318
 a173:=Tryz.isAgg318
 z173:=sizeOf318
 v173:=Tryz.zeroValue318
 t212:=underlying322
 a212:=Tryz.isAgg322
 z212:=sizeOf322
 v212:=Tryz.zeroValue322
 t213:=underlying324
 a213:=Tryz.isAgg324
 z213:=sizeOf324
 t232:=underlying327
 a232:=Tryz.isAgg327
 z232:=sizeOf327
 v232:=Tryz.zeroValue327
 t233:=underlying328
 a233:=Tryz.isAgg328
 z233:=sizeOf328
 v233:=Tryz.zeroValue328
 g17:=by kernel_rfl
 g18:=by kernel_rfl
 g19:=by kernel_rfl
 i0:=by kernel_rfl
 i2:=by kernel_rfl
 i3:=by kernel_rfl
 i4:=by kernel_rfl
 i5:=by kernel_rfl
 i9:=by kernel_rfl
 i20:=by kernel_rfl
 i37:=by kernel_rfl
 i46:=by kernel_rfl
 i51:=by kernel_rfl
 i53:=by kernel_rfl
 i171:=by kernel_rfl
 i173:=by kernel_rfl
 i212:=by kernel_rfl
 i232:=by kernel_rfl
 i233:=by kernel_rfl
 m17:=by kernel_rfl
 m18:=by kernel_rfl
 m19:=by kernel_rfl }
def Tryz.alm:Go.Shelf.Ren:=⟨fun|172=>228|244=>235|245=>236|247=>248|279=>249|280=>250|281=>251|282=>252|287=>264|316=>265|171=>237|205=>266|321=>273|322=>274|243=>253|246=>267|283=>275|284=>276|285=>277|286=>278|129=>280|317=>279|318=>281|319=>282|320=>283|337=>284|338=>285|n=>n,fun|9=>9|3=>3|75=>275|76=>276|4=>4|5=>5|167=>285|37=>143|0=>0|85=>286|2=>2|168=>288|53=>301|175=>302|46=>304|210=>306|127=>311|145=>314|143=>312|21=>21|171=>315|173=>318|212=>322|51=>323|20=>20|213=>324|232=>327|233=>328|80=>135|n=>n,fun|15=>0|16=>1|17=>2|18=>3|19=>4|n=>n⟩
theorem Tryz.Tw:Go.Proofs.LaysC.n172 ae Tryz.alm:={
 mixed:=by kernel_rfl
 f129:=func280.trans (congrArg U gD)
 f171:=func237.trans (congrArg U gD)
 f172:=func228.trans (congrArg U gD)
 f205:=func266.trans (congrArg U gD)
 f243:=func253.trans (congrArg U gD)
 f244:=func235.trans (congrArg U gD)
 f245:=func236.trans (congrArg U gD)
 f246:=func267.trans (congrArg U gD)
 f247:=func248.trans (congrArg U gD)
 f279:=func249.trans (congrArg U gD)
 f280:=func250.trans (congrArg U gD)
 f281:=func251.trans (congrArg U gD)
 f282:=func252.trans (congrArg U gD)
 f283:=func275.trans (congrArg U gD)
 f284:=func276.trans (congrArg U gD)
 f285:=func277.trans (congrArg U gD)
 f286:=func278.trans (congrArg U gD)
 f287:=func264.trans (congrArg U gD)
 f316:=func265.trans (congrArg U gD)
 f317:=func279.trans (congrArg U gD)
 f318:=func281.trans (congrArg U gD)
 f319:=func282.trans (congrArg U gD)
 f320:=func283.trans (congrArg U gD)
 f321:=func273.trans (congrArg U gD)
 f322:=func274.trans (congrArg U gD)
 f337:=func284.trans (congrArg U gD)
 f338:=func285.trans (congrArg U gD)
 t0:=underlying0
 a0:=Tryz.isAgg0
 z0:=sizeOf0
 v0:=Tryz.zeroValue0
 t2:=underlying2
 a2:=Tryz.isAgg2
 z2:=sizeOf2
 v2:=Tryz.zeroValue2
 t3:=underlying3
 a3:=Tryz.isAgg3
 z3:=sizeOf3
 v3:=Tryz.zeroValue3
 t4:=underlying4
 a4:=Tryz.isAgg4
 z4:=sizeOf4
 v4:=Tryz.zeroValue4
 t5:=underlying5
 a5:=Tryz.isAgg5
 z5:=sizeOf5
 v5:=Tryz.zeroValue5
 t9:=underlying9
 a9:=Tryz.isAgg9
 z9:=sizeOf9
 v9:=Tryz.zeroValue9
 t20:=underlying20
 a20:=Tryz.isAgg20
 z20:=sizeOf20
 v20:=Tryz.zeroValue20
 t21:=underlying21
 a21:=Tryz.isAgg21
 z21:=sizeOf21
 v21:=Tryz.zeroValue21
 t37:=underlying143
 a37:=Tryz.isAgg143
 z37:=sizeOf143
 v37:=Tryz.zeroValue143
 t46:=underlying304
 a46:=Tryz.isAgg304
 z46:=sizeOf304
 v46:=Tryz.zeroValue304
 t51:=underlying323
 a51:=Tryz.isAgg323
 z51:=sizeOf323
 v51:=Tryz.zeroValue323
 t53:=underlying301
 a53:=Tryz.isAgg301
 z53:=sizeOf301
 v53:=Tryz.zeroValue301
 t75:=underlying275
 a75:=Tryz.isAgg275
 z75:=sizeOf275
 v75:=Tryz.zeroValue275
 t76:=underlying276
 a76:=Tryz.isAgg276
 z76:=sizeOf276
 v76:=Tryz.zeroValue276
 t85:=underlying286
 a85:=Tryz.isAgg286
 z85:=sizeOf286
 v85:=Tryz.zeroValue286
 t127:=underlying311
 a127:=Tryz.isAgg311
 z127:=sizeOf311
 v127:=Tryz.zeroValue311
 t143:=underlying312
 a143:=Tryz.isAgg312
 z143:=sizeOf312
 v143:=Tryz.zeroValue312
 t145:=underlying314
 a145:=Tryz.isAgg314
 z145:=sizeOf314
 v145:=Tryz.zeroValue314
 t167:=underlying285
 a167:=Tryz.isAgg285
 z167:=sizeOf285
 v167:=Tryz.zeroValue285
 t168:=underlying288
 a168:=Tryz.isAgg288
 z168:=sizeOf288
 v168:=Tryz.zeroValue288
 t171:=underlying315
 a171:=Tryz.isAgg315
 z171:=sizeOf315
 v171:=Tryz.zeroValue315
 t173:=underlying318
 a173:=Tryz.isAgg318
 z173:=sizeOf318
 v173:=Tryz.zeroValue318
 t175:=underlying302
 a175:=Tryz.isAgg302
 z175:=sizeOf302
 v175:=Tryz.zeroValue302
 t210:=underlying306
 a210:=Tryz.isAgg306
 z210:=sizeOf306
 v210:=Tryz.zeroValue306
 t212:=underlying322
 a212:=Tryz.isAgg322
 z212:=sizeOf322
 v212:=Tryz.zeroValue322
 t213:=underlying324
 a213:=Tryz.isAgg324
 z213:=sizeOf324
 t232:=underlying327
 a232:=Tryz.isAgg327
 z232:=sizeOf327
 v232:=Tryz.zeroValue327
 t233:=underlying328
 a233:=Tryz.isAgg328
 z233:=sizeOf328
 v233:=Tryz.zeroValue328
 g15:=by kernel_rfl
 g16:=by kernel_rfl
 g17:=by kernel_rfl
 g18:=by kernel_rfl
 g19:=by kernel_rfl
 t80:=underlying135
 a80:=Tryz.isAgg135
 z80:=sizeOf135
 v80:=Tryz.zeroValue135
 i0:=by kernel_rfl
 i2:=by kernel_rfl
 i3:=by kernel_rfl
 i4:=by kernel_rfl
 i5:=by kernel_rfl
 i9:=by kernel_rfl
 i20:=by kernel_rfl
 i21:=by kernel_rfl
 i37:=by kernel_rfl
 i46:=by kernel_rfl
 i51:=by kernel_rfl
 i53:=by kernel_rfl
 i75:=by kernel_rfl
 i76:=by kernel_rfl
 i80:=by kernel_rfl
 i85:=by kernel_rfl
 i127:=by kernel_rfl
 i143:=by kernel_rfl
 i145:=by kernel_rfl
 i167:=by kernel_rfl
 i168:=by kernel_rfl
 i171:=by kernel_rfl
 i173:=by kernel_rfl
 i175:=by kernel_rfl
 i210:=by kernel_rfl
 i212:=by kernel_rfl
 i232:=by kernel_rfl
 i233:=by kernel_rfl
 m15:=by kernel_rfl
 m16:=by kernel_rfl
 m17:=by kernel_rfl
 m18:=by kernel_rfl
 m19:=by kernel_rfl
 c0:=by kernel_rfl
 c2:=by kernel_rfl
 c3:=by kernel_rfl
 c4:=by kernel_rfl
 c5:=by kernel_rfl
 c9:=by kernel_rfl
 c20:=by kernel_rfl
 c21:=by kernel_rfl
 c37:=by kernel_rfl
 c46:=by kernel_rfl
 c51:=by kernel_rfl
 c53:=by kernel_rfl
 c75:=by kernel_rfl
 c76:=by kernel_rfl
 c80:=by kernel_rfl
 c85:=by kernel_rfl
 c127:=by kernel_rfl
 c143:=by kernel_rfl
 c145:=by kernel_rfl
 c167:=by kernel_rfl
 c168:=by kernel_rfl
 c171:=by kernel_rfl
 c173:=by kernel_rfl
 c175:=by kernel_rfl
 c210:=by kernel_rfl
 c212:=by kernel_rfl
 c213:=by kernel_rfl
 c232:=by kernel_rfl
 c233:=by kernel_rfl }
end Go.Proofs
namespace Go.Proofs.YthnillhnjhalmaaGreatDoor
namespace Nu
open Go.RowKit
structure Env (w:af):Prop where
 ae7:2<w.heap.size
 ae5:1<w.heap.size
 ae6:0<w.heap.size
 tab:Lib.TabIs ae w "internal/strconv.uint64pow10" .u64 Lib.pow10Tab
 syn:∃tp p,w.var? ae "strconv.ErrSyntax" = U #[.iface tp p]
 rng:∃tp p,w.var? ae "strconv.ErrRange" = U #[.iface tp p]
theorem Env.below {w w':af} (h:Env w) (hb:ah w.heap.size w w'):Env w':=by
 obtain⟨tp,p,h1⟩:=h.syn;obtain⟨tq,q,h2⟩:=h.rng;exact⟨au h.ae7 hb.size,au h.ae5 hb.size,au h.ae6 hb.size,var?_below hb dA h.ae7 h.tab,
  ⟨tp,p,var?_below hb dA h.ae6 h1⟩,⟨tq,q,var?_below hb dA h.ae5 h2⟩⟩
theorem akc (w:af) (k:Nat) (os:Array Obj):ah w.heap.size w (Sort.grow (w.drewN k) os):=
 ⟨rfl,rfl,rfl,by rw[Sort.size_grow];exact Nat.le_add_right _ _,fun j hj=>Sort.heap_grow_old (w.drewN k) os hj⟩
def num (v:Int):ByteArray:=⟨(Lib.itoa v).toArray⟩
theorem amc (v:Int):(num v).data.toList=Lib.itoa v:=rfl
theorem akK (n:Int) (h0:-9223372036854775808<=n) (h1:n<=9223372036854775807) (w:af) (hE:Env w) :
 Calls ae 237 #[.int .i64 n] w fun e w'=>e=.returned (.string (num n))/\ah w.heap.size w w':=
 (show Calls ae 237 #[.int .i64 n] w fun e w' => e = .returned (.string (num n)) ∧ ∃ k os, w' = Sort.grow (w.drewN k) os from Any.strconv_Itoa Tryz.aln n h0 h1 w hE.tab).mono
   fun _ _ ⟨he,k,os,hw⟩=>⟨he,by rw[hw];exact akc w k os⟩
theorem apS (n:Int) (h0:-9223372036854775808<=n) (h1:n<=9223372036854775807) (w:af) (hE:Env w) :
 Calls ae 229 #[.int .i64 n] w fun e w'=>e=.returned (.string (num n))/\ah w.heap.size w w':=by
 go_enter func229,ntmps229;go_wp2_with (go_at_call 237;refine(akK n h0 h1 _ hE).mono ?_;rintro e w' ⟨rfl,hb⟩)
 go_ret;exact⟨rfl,hb⟩
def afy (v:Int) (w:af) (e:Ending) (w':af):Prop:=e=.returned (.tuple #[.int .i64 v,.nilIface])/\ah w.heap.size w w'
def afx (w:af) (e:Ending) (w':af):Prop:=∃v:Int,∃M:Nat,e=.returned (.tuple #[.int .i64 v,.iface 288 (.pointer (U ⟨M,0,aj⟩))])/\ah w.heap.size w w'
theorem Qw (s:ByteArray) (hs:s.size<=140737488355328) (v:Int) (h:Lib.atoiAll s.data.toList=.ok v) (w:af) :
 Calls ae 228 #[.string s] w (afy v w):=
 (show Calls ae 228 #[.string s] w fun e w' => e = .returned (.tuple #[.int .i64 v, .nilIface]) ∧ (w' = w ∨ ∃ t, w' = Lib.bytesWorld w 5 t) from Any.strconv_Atoi_ok Tryz.Tw s bU v h w).mono
   fun _ _ ⟨he,hw⟩=>⟨he,by rcases hw with rfl|⟨t,rfl⟩;exact Below.refl _ _;exact Lib.bytesWorld_below _ _ _⟩
theorem agf (s:ByteArray) (hs:s.size<=140737488355328) (h:∀v,Lib.atoiAll s.data.toList ≠ .ok v) (w:af) (hE:Env w) :
 Calls ae 228 #[.string s] w (afx w):=by
 cases hr:Lib.atoiAll s.data.toList
 · exact absurd hr (h _)
 · obtain⟨tp,p,hv⟩:=hE.syn;exact(Any.strconv_Atoi_syntax_var Tryz.Tw s bU hr tp p w hv).mono fun _ _ ⟨N,he,_,_,hb⟩=>⟨_,N,he,hb⟩
 · obtain⟨tp,p,hv⟩:=hE.rng;exact(Any.strconv_Atoi_range_var Tryz.Tw s bU hr tp p w hv).mono fun _ _ ⟨N,he,_,_,hb⟩=>⟨_,N,he,hb⟩
theorem amd (v:Int) (h0:-1000000000000<=v) (h1:v<=1000000000000):(num v).size<=14:=by
 have:=akO v h0 h1
 show(Lib.itoa v).toArray.size<=14
 simpa using this
theorem adA {p:Prop} (h:p:=by
 rintro e w1 ⟨rfl,hb1⟩;go_wp2_with (first|(go_at_call 138;refine(DU _ _).mono ?_;rintro e w' ⟨rfl,rfl⟩)|(go_at_call 229;refine(apS _ bU bU _ (hE.below hb1)).mono ?_;rintro e w2 ⟨rfl,hb2⟩))
 go_ret2
 exact⟨rfl,hb1.trans (hb2.mono hb1.size)⟩
 ):p:=h
theorem abX (v:Int) (h0:-1000000000000<=v) (h1:v<=1000000000000) (w:af) (hE:Env w) :
 Calls ae 206 #[.string (num v)] w fun e w'=>e=.returned (.tuple #[.int .i64 v,.bool true])/\ah w.heap.size w w':=by
 have hi:=aaz h0 h1;go_enter func206,ntmps206;go_wp2_with fail;refine(Qw _ (by have:=amd v h0 h1;omega) v (by rw[amc];exact agh v bU bU) _).mono ?_;exact adA
theorem apV {a b:ByteArray} (h:a≠b):(a.toList==b.toList)=false:=by
 rw[beq_eq_false_iff_ne,Lib.toList_data,Lib.toList_data];exact fun e=>h (WideShapes.bytes_inj e)
theorem amK (s:ByteArray) (hs:s.size<=140737488355328) (h:∀v,iO v=true->num v≠s) (w:af) (hE:Env w) :
 Calls ae 206 #[.string s] w fun e w'=>e=.returned (.tuple #[.int .i64 0,.bool false])/\ah w.heap.size w w':=by
 by_cases hv:∃v,Lib.atoiAll s.data.toList=.ok v
 · obtain⟨v,hv⟩:=hv
   cases hi:iO v
   · have Hi:=Lib.hid hi;clear hi;go_enter func206,ntmps206;go_wp2_with fail;refine(Qw _ hs v hv _).mono ?_;rintro e w1 ⟨rfl,hb1⟩;go_wp2_with (go_at_call 138;refine(DU _ _).mono ?_;rintro e w' ⟨rfl,rfl⟩;rw[Hi.out])
     go_ret2
     exact⟨rfl,hb1⟩
   · obtain⟨h0,h1⟩:=aay hi;have hne:((num v).toList==s.toList)=false:=apV (h v hi);go_enter func206,ntmps206;go_wp2_with fail;refine(Qw _ hs v hv _).mono ?_;exact adA
 · go_enter func206,ntmps206;go_wp2_with fail;refine(agf _ hs (fun v e=>hv ⟨v,e⟩) _ hE).mono ?_;rintro e w1 ⟨_,_,rfl,hb1⟩;go_wp2_with fail;go_ret2
   exact⟨rfl,hb1⟩
end Nu
namespace Nu
open Go.ChangeShapes Go.WideShapes Go.ChangeAt Go.RowKit
section
variable {H:Type} {enc:TypeId×Value->H}
theorem Tv {f:Func} {s:ChangeSpec} {W W':af} {args:Array Value} {b:Bool} {ds:List (DataW H)} {before:List MemPlace}
 (hW:DataW.Whole enc ae f.params.toList s.vars false W args.toList ds [] before)
 (hres:DataW.TrodAll enc ae W' W.heap.size (fun _=>false) false f.resultTypes.toList ((Value.bool b).resultList f.resultTypes.size) (s.fn H (ds++[])).results [])
 (hargs:DataW.TrodAll enc ae W' 0 (fun k=>decide (k<W.heap.size)) true f.params.toList args.toList (s.fn H (ds++[])).args before)
 (hvars:DataW.TrodVars enc ae W' (fun k=>decide (k<W.heap.size)) s.vars (s.fn H (ds++[])).vars [])
 (hb:ah W.heap.size W W'):s.post enc ae f false true false false W args (.bool b) W':=
 ⟨ds,[],before,[],before,[],hW,hres,hargs,hvars,World.keptBut_mono (fun _ hp=>⟨hp,Or.inr (Or.inl hp)⟩) (hb.frame (· ∈ before)),fun h=>by cases h⟩
end
theorem own:ownKnob Tryz.prog.godebug=aj:=by kernel_rfl
def laidAll:List (String×DataW Unit):=[("math/bits.deBruijn32tab",Rows.laid_math_bits_deBruijn32tab),("math/bits.deBruijn64tab",Rows.laid_math_bits_deBruijn64tab),("internal/strconv.uint64pow10",Rows.laid_internal_strconv_uint64pow10),("strconv.ErrRange",Rows.laid_strconv_ErrRange),("strconv.ErrSyntax",Rows.laid_strconv_ErrSyntax)]
theorem YL (os:Os) (args:Array Value):laidMetH ae laidAll ((World.doorLaid ae 62 os).forCall (fun _ _=>0) ⟨#[],args,[]⟩).memory:=
 laidMetH_of_parts3 (fuel:=8) (laidMet_of_run' 8 dA dA) dA dA
theorem U0 {P:Program} {w:af} {n:String} {cs:Array Value} {g:Nat} (hg:P.globalNamed n=U g) (hv:w.var? P n=U cs):g<w.heap.size:=by
 unfold World.var? at hv;rw[hg] at hv;simp only[Option.bind_some] at hv;rcases Nat.lt_or_ge g w.heap.size with h|h
 · exact h
 · rw[Array.getElem?_eq_none h] at hv;cases hv
theorem amU:(Rows.laid_internal_strconv_uint64pow10:DataW Unit)=Lib.tabData .u64 Lib.pow10Tab:=by kernel_rfl
theorem ahe:Tryz.prog.cellsOf 322=20:=by kernel_rfl
theorem ahf:Tryz.prog.cellsOf 301=1:=by kernel_rfl
theorem aac:Tryz.prog.globalNamed "internal/strconv.uint64pow10" = U 2:=by kernel_rfl
theorem aaa:Tryz.prog.globalNamed "strconv.ErrRange" = U 1:=by kernel_rfl
theorem aab:Tryz.prog.globalNamed "strconv.ErrSyntax" = U 0:=by kernel_rfl
theorem apN:(Tryz.prog.globals[2]?).map (·.type)=U 322:=by kernel_rfl
theorem apL:(Tryz.prog.globals[1]?).map (·.type)=U 275:=by kernel_rfl
theorem apM:(Tryz.prog.globals[0]?).map (·.type)=U 275:=by kernel_rfl
theorem jV {cs:Array Value} {x:Value} (h:cs.toList=[x]):cs=#[x]:=by cases cs;simp at h;rw[h]
theorem Zn {W:af} (h:laidMetH ae laidAll W):Env W:=by
 rw[MakeChecks.laidMetH_plain _ _ _ dA] at h;obtain⟨ps,⟨g0,t0,c0,f0,p0,q0,_,_,_,_,⟨g1,t1,c1,f1,p1,q1,_,_,_,_,⟨g2,t2,c2,f2,p2,q2,hg2,ht2,hv2,hd2,⟨g3,t3,c3,f3,p3,q3,hg3,ht3,hv3,hd3,⟨g4,t4,c4,f4,p4,q4,hg4,ht4,hv4,hd4,_,_⟩,_⟩,_⟩,_⟩,_⟩,_,_⟩:=h;obtain rfl:=Option.some.inj (aac.symm.trans hg2);obtain rfl:=Option.some.inj (aaa.symm.trans hg3);obtain rfl:=Option.some.inj (aab.symm.trans hg4);obtain rfl:=Option.some.inj (apN.symm.trans ht2);obtain rfl:=Option.some.inj (apL.symm.trans ht3);obtain rfl:=Option.some.inj (apM.symm.trans ht4);rw[amU] at hd2;have e2:=Lib.cells_of_tab underlying322 underlying301 ahf ahe hd2;obtain⟨_,u3,v3,e3,_,_⟩:=iface_of_trod underlying275 hd3;obtain⟨_,u4,v4,e4,_,_⟩:=iface_of_trod underlying275 hd4;exact⟨U0 aac hv2,U0 aaa hv3,U0 aab hv4,by unfold Lib.TabIs;rw[hv2,← e2],⟨u4,v4,by rw[hv4,jV e4]⟩,⟨u3,v3,by rw[hv3,jV e3]⟩⟩
end Nu
namespace Na
def Gb:List (List UInt8):=[
 [97,100,100],
 [97,102,116,101,114],
 [97,110,100],
 [97,116],
 [98,101,108,116],
 [98,111,111,108],
 [99,111,110,115,101,114,118,101],
 [99,111,110,115,116],
 [99,111,117,110,116],
 [99,121,99,108,101],
 [100,111,119,110],
 [100,114,97,119],
 [100,117,114],
 [101,108,115,101],
 [101,110,100],
 [101,118,101,114,121],
 [102,97,108,115,101],
 [102,97,117,108,116],
 [102,105,102,111],
 [102,114,101,101],
 [102,114,111,109],
 [103,101,111,109],
 [103,101,116],
 [104,111,108,100],
 [105,102],
 [105,110,116],
 [105,110,116,111],
 [108,101,97,115,116],
 [108,101,118,101,108],
 [108,105,102,111],
 [108,105,110,107],
 [108,111,99,97,108],
 [109,97,120],
 [109,105,110],
 [109,111,100,101,108],
 [110,111,116],
 [110,111,119],
 [111,98,115,101,114,118,101],
 [111,114],
 [112,97,114,97,109],
 [112,114,101,101,109,112,116],
 [112,114,105,111],
 [112,117,116],
 [113,117,101,117,101],
 [114,101,108,101,97,115,101],
 [114,101,115,111,117,114,99,101],
 [114,105,100,101],
 [114,111,117,116,105,110,101],
 [115,101,105,122,101],
 [115,101,110,100],
 [115,101,116],
 [115,104,105,102,116],
 [115,105,103,110,97,108],
 [115,105,116,101],
 [115,105,122,101],
 [115,112,97,119,110],
 [115,116,97,114,116],
 [115,116,111,112],
 [115,116,111,114,101],
 [115,116,114,101,97,109],
 [115,117,109],
 [116,97,98,108,101],
 [116,97,108,108,121],
 [116,105,99,107,115],
 [116,105,109,101],
 [116,114,117,101],
 [117,110,105,102,111,114,109],
 [117,110,116,105,108],
 [117,112],
 [118,97,114],
 [119,97,105,116],
 [119,97,105,116,105,110,103],
 [119,104,105,108,101]]
def iP (l:List UInt8):Bool:=Gb.contains l
def gM (x:Int):Bool:=decide (97<=x)&&decide (x<=122)
def gV (x:Int):Bool:=decide (48<=x)&&decide (x<=57)
def wG (x:Int):Bool:=gM x||gV x||decide (x=95)
def gq (c:UInt8):Bool:=gM (c.toNat:Int)
def BI (c:UInt8):Bool:=wG (c.toNat:Int)
def BU (l:List UInt8):Bool:=decide (1<=l.length)&&decide (l.length<=24)&&gq (l.headD 0) && !iP l&&l.all BI
def fT (l:List UInt8):Int:=if BU l=true then 0 else 3
theorem ahQ {l:List UInt8} (h:BU l=true):fT l=0:=if_pos h
theorem Iw {l:List UInt8} (h:BU l=false):fT l=3:=if_neg (by simp[h])
theorem Su {x:Int} (h:gM x=true):wG x=true:=by unfold wG;rw[h];rfl
theorem aaj {x:Int} (h:gV x=true):wG x=true:=by unfold wG;rw[h];simp
theorem aal {x:Int} (h:x=95):wG x=true:=by unfold wG;simp[h]
theorem Sv {x:Int} (h1:gM x=false) (h2:gV x=false) (h3:¬x=95):wG x=false:=by unfold wG;simp[h1,h2,h3]
theorem abG {l:List UInt8}:BU l=true↔1<=l.length/\l.length<=24/\gq (l.headD 0)=true/\iP l=false/\l.all BI=true:=by
 unfold BU;simp only[Bool.and_eq_true,decide_eq_true_eq,Bool.not_eq_true'];constructor
 · rintro⟨⟨⟨⟨a,b⟩,c⟩,d⟩,e⟩;exact⟨a,b,c,d,e⟩
 · rintro⟨a,b,c,d,e⟩;exact⟨⟨⟨⟨a,b⟩,c⟩,d⟩,e⟩
theorem JL {l:List UInt8} (h:¬(1<=l.length/\l.length<=24/\gq (l.headD 0)=true/\iP l=false/\l.all BI=true)):BU l=false:=by
 rw[← Bool.not_eq_true,abG];exact h
theorem M7 {l:List UInt8} (h:0<l.length):l.headD 0=l[0]:=by
 cases l with
 | nil=>simp at h
 | cons c t=>rfl
theorem Xl {l:List UInt8} (h:l.length<1):fT l=3:=Iw (JL fun g=>by omega)
theorem Xk {l:List UInt8} (h:24<l.length):fT l=3:=Iw (JL fun g=>by omega)
theorem Xi {l:List UInt8} (h0:0<l.length) (h:gq l[0]=false):fT l=3:=Iw (JL fun g=>by
 have:=g.2.2.1;rw[M7 h0,h] at this;cases this)
theorem Xj {l:List UInt8} (h:iP l=true):fT l=3:=Iw (JL fun g=>by
 have:=g.2.2.2.1;rw[h] at this;cases this)
theorem Xh {l:List UInt8} {k:Nat} (hk:k<l.length) (h:BI l[k]=false):fT l=3:=Iw (JL fun g=>by
 have:=List.all_eq_true.1 g.2.2.2.2 _ (List.getElem_mem hk);rw[h] at this;cases this)
theorem all_good {l:List UInt8} (h1:1<=l.length) (h2:l.length<=24) (h3:gq l[0]=true) (h4:iP l=false) (h5:∀j,(hj:j<l.length)->BI l[j]=true):fT l=0:=
 ahQ (abG.2 ⟨h1,h2,by rw[M7 h1];exact h3,h4,List.all_eq_true.2 fun c hc=>by
  obtain⟨j,hj,rfl⟩:=List.getElem_of_mem hc;exact h5 j hj⟩)
abbrev bs (s:ByteArray):List UInt8:=s.data.toList
theorem eF (s:ByteArray):(bs s).length=s.size:=by simp[bs]
theorem kH {a b:ByteArray} (h:bs a=bs b):a=b:=by
 cases a;cases b
 simp only[bs,ByteArray.mk.injEq] at *
 exact Array.toList_inj.1 h
def fst:List ByteArray->ByteArray->Int
 | [],_=>-1
 | x::t,s=>if bs x=bs s then 0 else if fst t s = -1 then -1 else fst t s+1
theorem MV (s:ByteArray):∀l:List ByteArray,-1<=fst l s
 | []=>Int.le_refl _
 | x::t=>by
  have:=MV s t;unfold fst
  split
  · omega
  · split <;> omega
theorem ZY {s:ByteArray}:∀{l:List ByteArray} {k:Nat} (hk:k<l.length),(∀j,(hj:j<k)->¬bs (l[j]'(by omega))=bs s)->bs l[k]=bs s->fst l s=(k:Int)
 | [],k,hk,_,_=>absurd hk (Nat.not_lt_zero _)
 | x::t,0,hk,_,e=>by
  unfold fst;exact if_pos e
 | x::t,k+1,hk,h,e=>by
  have h0:¬bs x=bs s:=h 0 (Nat.succ_pos _);have hk':k<t.length:=by simp at hk;omega
  have ih:=ZY (s:=s) (l:=t) (k:=k) hk' (fun j hj=>h (j+1) bU) e;unfold fst;rw[if_neg h0,ih,if_neg bU];omega
theorem Z5 {s:ByteArray}:∀{l:List ByteArray},(∀j,(hj:j<l.length)->¬bs l[j]=bs s)->fst l s = -1
 | [],_=>rfl
 | x::t,h=>by
  have h0:¬bs x=bs s:=h 0 cz;have ih:=Z5 (s:=s) (l:=t) (fun j hj=>h (j+1) vD);unfold fst;rw[if_neg h0,ih,if_pos rfl]
theorem Sj (s:ByteArray):∀l:List ByteArray,fst l s<l.length
 | []=>by show(-1:Int)<0;decide
 | x::t=>by
  have:=Sj s t;unfold fst;rw[List.length_cons]
  split
  · omega
  · split <;> omega
def okB (l:List ByteArray) (k:Nat):Bool:=match l[k]? with
 | some x=>BU (bs x)&&decide (fst l x=(k:Int))
 | none=>true
def dst (l:List ByteArray):Int:=match (List.range l.length).find? (fun k=>!okB l k) with
 | none=>0
 | some k=>if BU (bs (l.getD k ⟨#[]⟩))=true then 4 else 3
end Na
namespace Ex
open Na (bs kH fT)
inductive Ex where
 | mk (o:Int) (s:ByteArray) (n:Int) (l:List Ex)
def Ex.o:Ex->Int
 | .mk o _ _ _=>o
def Ex.s:Ex->ByteArray
 | .mk _ s _ _=>s
def Ex.n:Ex->Int
 | .mk _ _ n _=>n
def Ex.l:Ex->List Ex
 | .mk _ _ _ l=>l
mutual
def cnt:Ex->Nat
 | .mk _ _ _ l=>iM l+1
def iM:List Ex->Nat
 | []=>0
 | x::t=>cnt x+iM t
end
mutual
def dep:Ex->Nat
 | .mk _ _ _ l=>kI l+1
def kI:List Ex->Nat
 | []=>0
 | x::t=>max (dep x) (kI t)
end
mutual
def pre:Ex->List Ex
 | .mk o s n l=>.mk o s n l::fA l
def fA:List Ex->List Ex
 | []=>[]
 | x::t=>pre x++fA t
end
theorem IA:∀e:Ex,1<=cnt e
 | .mk _ _ _ l=>by unfold cnt;omega
theorem Ra:∀a b:List Ex,iM (a++b)=iM a+iM b
 | [],b=>by simp[iM]
 | x::t,b=>by simp only[ag,iM,Ra t b];omega
theorem Rf:∀a b:List Ex,kI (a++b)=max (kI a) (kI b)
 | [],b=>by simp[kI]
 | x::t,b=>by simp only[ag,kI,Rf t b];omega
theorem NI:∀a b:List Ex,fA (a++b)=fA a++fA b
 | [],b=>rfl
 | x::t,b=>by simp only[ag,fA,NI t b,List.append_assoc]
theorem apQ {α:Type} {l:List α} {k:Nat} (h:k<l.length):l.take (k+1)=l.take k++[l[k]]:=by rw[List.take_add_one,List.getElem?_eq_getElem h];rfl
theorem take_one {α:Type} {l:List α} {k:Nat} {x:α} (h:l[k]?=U x):l.take (k+1)=l.take k++[x]:=by rw[List.take_add_one,h];rfl
theorem Rb {l:List Ex} {k:Nat} {x:Ex} (h:l[k]?=U x):iM (l.take (k+1))=iM (l.take k)+cnt x:=by rw[take_one h,Ra];simp[iM]
theorem Yk {l:List Ex} {k:Nat} {x:Ex} (h:l[k]?=U x):kI (l.take (k+1))=max (kI (l.take k)) (dep x):=by rw[take_one h,Rf];simp[kI]
theorem TR {l:List Ex} {k:Nat} {x:Ex} (h:l[k]?=U x):fA (l.take (k+1))=fA (l.take k)++pre x:=by rw[take_one h,NI];simp[fA]
theorem Yb (l:List Ex) (k:Nat):iM (l.take k)<=iM l:=by
 have:=Ra (l.take k) (l.drop k);rw[List.take_append_drop] at this;omega
theorem aiq (l:List Ex) (k:Nat):kI (l.take k)<=kI l:=by
 have:=Rf (l.take k) (l.drop k);rw[List.take_append_drop] at this;omega
theorem Yc:∀{l:List Ex} {x:Ex},x∈l->cnt x<=iM l
 | [],x,h=>by cases h
 | y::t,x,h=>by
  unfold iM;rcases List.mem_cons.1 h with rfl|h
  · omega
  · have:=Yc h;omega
theorem Ym:∀{l:List Ex} {x:Ex},x∈l->dep x<=kI l
 | [],x,h=>by cases h
 | y::t,x,h=>by
  unfold kI;rcases List.mem_cons.1 h with rfl|h
  · omega
  · have:=Ym h;omega
theorem Ex.ind {P:Ex->Prop} (h:∀o s n l,(∀x∈l,P x)->P (.mk o s n l)) (e:Ex):P e:=by
 have:∀k e,cnt e<=k->P e:=by
  intro k
  induction k with
  | zero=>intro e he;have:=IA e;omega
  | succ k ih=>
   intro e he;obtain⟨o,s,n,l⟩:=e;refine h o s n l fun x hx=>ih x ?_;have:=Yc hx;unfold cnt at he;omega
 exact this _ e (ak _)
mutual
theorem TS:∀e:Ex,(pre e).length=cnt e
 | .mk o s n l=>by unfold pre cnt;simp[TQ l]
theorem TQ:∀l:List Ex,(fA l).length=iM l
 | []=>rfl
 | x::t=>by unfold fA iM;rw[List.length_append,TS x,TQ t]
end
theorem ab1:∀{l:List Ex} {x y:Ex},x∈l->y∈pre x->y∈fA l
 | [],x,y,h,_=>by cases h
 | z::t,x,y,h,g=>by
  unfold fA;rcases List.mem_cons.1 h with rfl|h
  · exact List.mem_append_left _ g
  · exact List.mem_append_right _ (ab1 h g)
theorem Rh (e:Ex):dep e<=cnt e:=by
 have key:∀l:List Ex,(∀x∈l,dep x<=cnt x)->kI l<=iM l:=by
  intro l
  induction l with
  | nil=>intro _;simp[kI,iM]
  | cons x t ih=>
   intro h;have h1:=h x List.mem_cons_self;have h2:=ih fun z hz=>h z (List.mem_cons_of_mem _ hz);unfold kI iM;omega
 induction e using Ex.ind with
 | h o s n l ih=>
  have:=key l ih;unfold dep cnt;omega
theorem amW:∀e:Ex,e∈pre e
 | .mk o s n l=>by unfold pre;exact List.mem_cons_self
theorem amV {o:Int} {s:ByteArray} {n:Int} {l:List Ex} {x y:Ex} (hx:x∈l) (hy:y∈pre x):y∈pre (.mk o s n l):=by
 unfold pre;exact List.mem_cons_of_mem _ (ab1 hx hy)
def gT (o:Int):Int:=if o<1∨26<o then -1 else if 5<=o/\o<=8 then 1 else if 9<=o/\o<=21 then 2 else 0
def obj (o:Int):Bool:=decide (22<=o)&&decide (o<=24)
def most (o:Int):Int:=if o=25 then 15 else if o=26 then 31 else 63
def known (c:Bool) (o:Int):Bool:=decide (0<=gT o)&&(c && !decide (o=3) || !c&&decide (o<=24))
def named (c:Bool) (o:Int):Bool:=!c&&(decide (o=3)||obj o)
def counted (c:Bool) (o:Int):Bool:=c&&(obj o||decide (o=25)||decide (o=26))
def numbered (c:Bool) (o:Int):Bool:=decide (o=1)||decide (o=2)||counted c o
def AA (n:Int):Bool:=decide (-1000000000000<=n)&&decide (n<=1000000000000)
def rA (c:Bool) (o:Int) (s:List UInt8) (n:Int) (m:Nat):Bool:=!known c o || !named c o && !decide (s=[]) || !numbered c o && !decide (n=0) || !decide ((m:Int)=gT o)
def fG (c:Bool) (o n:Int):Bool:=decide (o=1) && !AA n||decide (o=2) && !decide (n=0) && !decide (n=1)||counted c o&&(decide (n<0)||decide (most o<n))
def nd (c:Bool) (o:Int) (s:List UInt8) (n:Int) (m:Nat):Int:=if rA c o s n m then 1 else if fG c o n then 2 else if named c o then fT s else 0
def xU (c:Bool) (e:Ex):Int:=nd c e.o (bs e.s) e.n e.l.length
def bad (c:Bool):List Ex->Int
 | []=>0
 | x::t=>if xU c x=0 then bad c t else xU c x
theorem Fq {c:Bool} {x:Ex} {t:List Ex} (h:xU c x=0):bad c (x::t)=bad c t:=if_pos h
theorem LQ {c:Bool} {x:Ex} {t:List Ex} (h:¬xU c x=0):bad c (x::t)=xU c x:=if_neg h
theorem QD {c:Bool}:∀{a b:List Ex},bad c a=0->bad c (a++b)=bad c b
 | [],b,_=>rfl
 | x::t,b,h=>by
  by_cases g:xU c x=0
  · rw[Fq g] at h;rw[ag,Fq g,QD h]
  · rw[LQ g] at h;exact absurd h g
theorem QC {c:Bool}:∀{a b:List Ex},¬bad c a=0->bad c (a++b)=bad c a
 | [],b,h=>absurd rfl h
 | x::t,b,h=>by
  by_cases g:xU c x=0
  · rw[Fq g] at h;rw[ag,Fq g,Fq g,QC h]
  · rw[ag,LQ g,LQ g]
def fU (c:Bool) (e:Ex):Int:=if 60<cnt e then 6 else if 12<dep e then 11 else bad c (pre e)
mutual
def same:Ex->Ex->Bool
 | .mk o s n l,.mk o2 s2 n2 l2=>decide (o=o2)&&decide (bs s=bs s2)&&decide (n=n2)&&jY l l2
def jY:List Ex->List Ex->Bool
 | [],[]=>true
 | x::t,y::u=>same x y&&jY t u
 | [],_::_=>false
 | _::_,[]=>false
end
mutual
theorem same_eq:∀{a b:Ex},same a b=true->a=b
 | .mk o s n l,.mk o2 s2 n2 l2,h=>by
  unfold same at h;simp only[Bool.and_eq_true,decide_eq_true_eq] at h;obtain⟨⟨⟨rfl,h1⟩,rfl⟩,h2⟩:=h;rw[kH h1,J5 h2]
theorem J5:∀{a b:List Ex},jY a b=true->a=b
 | [],[],_=>rfl
 | x::t,y::u,h=>by
  unfold jY at h;rw[Bool.and_eq_true] at h;rw[same_eq h.1,J5 h.2]
 | [],_::_,h=>by unfold jY at h;cases h
 | _::_,[],h=>by unfold jY at h;cases h
end
mutual
theorem N_:∀a:Ex,same a a=true
 | .mk o s n l=>by unfold same;simp[J6 l]
theorem J6:∀a:List Ex,jY a a=true
 | []=>by unfold jY;rfl
 | x::t=>by unfold jY;rw[N_ x,J6 t];rfl
end
theorem aow {a b:Ex} (h:a=b):same a b=true:=by rw[h];exact N_ b
theorem same_iff {a b:Ex}:same a b=true↔a=b:=⟨same_eq,aow⟩
theorem aor:∀{a b:List Ex},jY a b=true->a.length=b.length:=fun h=>by rw[J5 h]
end Ex
namespace Ex
open Go.RowKit
open Na (bs kH)
theorem nZ {k:IntKind} {a b:Int} (h:a=b):Ending.returned (.int k a)=.returned (.int k b):=by rw[h]
def Gives (v:Value) (w:af) (e:Ending) (w':af):Prop:=e=.returned v/\ah w.heap.size w w'
theorem below_drewN {B:Nat} {a w:af} (h:ah B a w) (n:Nat):ah B a (w.drewN n):=⟨h.os,h.tape,h.output,h.size,h.block⟩
section
variable {a w w2:af}
theorem iw {o:Obj} (h:ah a.heap.size a w):ah a.heap.size a (w.alloc o):=h.alloc h.size o
theorem vN {n:Nat} (h:ah a.heap.size a w):ah a.heap.size a (w.drewN n):=below_drewN h n
theorem rC (h:ah a.heap.size a w):ah a.heap.size a w.drew:=h.drew
theorem zf {p:ai} (h:ah a.heap.size a w) (hp:a.heap.size<=p.block) (u:Value):ah a.heap.size a (w.setCell p u):=h.setCell hp u
theorem sQ (h:ah a.heap.size a w) (hb:ah w.heap.size w w2):ah a.heap.size a w2:=h.trans (hb.mono h.size)
end
theorem clash {x:Bool} (h:x=true) (g:x=false):False:=by rw[h] at g;cases g
theorem nS {a b:ByteArray} (h:bs a=bs b):(a.toList==b.toList)=true:=by rw[kH h];simp
theorem pE {a b:ByteArray} (h:¬bs a=bs b):(a.toList==b.toList)=false:=by
 exact afk
theorem Ff (b o j:Nat):(⟨b,o,aj⟩:ai).add j=⟨b,o+j,aj⟩:=by unfold Addr.add;split <;> simp_all
theorem block_lt {w:af} {b k:Nat} {v:Value} (h:w.cell? ⟨b,k,aj⟩=U v):b<w.heap.size:=by
 rcases Nat.lt_or_ge b w.heap.size with g|g
 · exact g
 · unfold World.cell? at h;rw[Array.getElem?_eq_none g] at h;cases h
def c4 (x:Ex) (p:Option ai) (m c:Nat) (r:Nat):Value:=match r with
 | 0=>.int .i64 x.o
 | 1=>.string x.s
 | 2=>.int .i64 x.n
 | _=>.slice p m c
def h_ (w:af) (g o:Nat) (x:Ex) (p:Option ai) (m c:Nat):Prop:=w.cell? ⟨g,o,aj⟩=U (.int .i64 x.o)/\w.cell? ⟨g,o+1,aj⟩=U (.string x.s)/\w.cell? ⟨g,o+2,aj⟩=U (.int .i64 x.n)/\w.cell? ⟨g,o+3,aj⟩=U (.slice p m c)
theorem h_.keep {w w2:af} {g o:Nat} {x:Ex} {p:Option ai} {m c:Nat} (hb:w2.heap[g]?=w.heap[g]?) (h:h_ w g o x p m c):h_ w2 g o x p m c:=by
 obtain⟨h0,h1,h2,h3⟩:=h;exact⟨(World.cell?_of_block (w:=w) (a:=⟨g,o,aj⟩) hb).trans h0,(World.cell?_of_block (w:=w) (a:=⟨g,o+1,aj⟩) hb).trans h1,(World.cell?_of_block (w:=w) (a:=⟨g,o+2,aj⟩) hb).trans h2,(World.cell?_of_block (w:=w) (a:=⟨g,o+3,aj⟩) hb).trans h3⟩
theorem h_.on {w w2:af} {g o:Nat} {x:Ex} {p:Option ai} {m c:Nat} (hb:ah w.heap.size w w2) (hg:g<w.heap.size) (h:h_ w g o x p m c):h_ w2 g o x p m c:=h.keep (hb.block g hg)
theorem Q9 {w:af} {g o:Nat} {x:Ex} {p:Option ai} {m c:Nat} (h:∀r,r<4->w.cell? ⟨g,o+r,aj⟩=U (c4 x p m c r)):h_ w g o x p m c:=
 ⟨h 0 bU,h 1 bU,h 2 bU,h 3 bU⟩
mutual
def bW (G:Nat->Prop) (w:af):Ex->Option ai->Nat->Prop
 | .mk _ _ _ l,p,m=>l.length=m/\m<=9223372036854775807/\(m=0∨∃b o,p=U ⟨b,o,aj⟩/\G b/\b<w.heap.size/\Rows G w l b o)
def Rows (G:Nat->Prop) (w:af):List Ex->Nat->Nat->Prop
 | [],_,_=>True
 | x::t,b,o=>(∃p m c,h_ w b o x p m c/\bW G w x p m)/\Rows G w t b (o+4)
end
theorem NU {G:Nat->Prop} {w:af}:∀{l:List Ex} {b o:Nat},Rows G w l b o ↔ ∀k,(h:k<l.length)->∃p m c,h_ w b (o+k*4) l[k] p m c/\bW G w l[k] p m
 | [],b,o=>⟨fun _ k h=>absurd h (Nat.not_lt_zero _),fun _=>trivial⟩
 | x::t,b,o=>by
  unfold Rows;constructor
  · rintro⟨h1,h2⟩ k hk
    match k,hk with
    | 0,_=>exact h1
    | k+1,hk=>
     have:=NU.1 h2 k (by simpa using hk);rw[show o+4+k*4=o+(k+1)*4 by omega] at this;exact this
  · intro h;refine⟨h 0 cz,NU.2 fun k hk=>?_⟩;have:=h (k+1) (by simpa using hk);rw[show o+(k+1)*4=o+4+k*4 by omega] at this;exact this
theorem alc {G:Nat->Prop} {w:af} {o':Int} {s:ByteArray} {n:Int} {l:List Ex} {p:Option ai} {m:Nat}:bW G w (.mk o' s n l) p m↔l.length=m/\m<=9223372036854775807/\(m=0∨∃b o,p=U ⟨b,o,aj⟩/\G b/\b<w.heap.size/\Rows G w l b o):=by rw[bW]
theorem qN {G:Nat->Prop} {w:af} {o':Int} {s:ByteArray} {n:Int} {l:List Ex} {p:Option ai} {m:Nat}:bW G w (.mk o' s n l) p m↔l.length=m/\m<=9223372036854775807/\(m=0∨∃b o,p=U ⟨b,o,aj⟩/\G b/\b<w.heap.size/\Hid (∀k,(h:k<l.length)->∃p m c,h_ w b (o+k*4) l[k] p m c/\bW G w l[k] p m)):=by
 rw[alc];refine and_congr_right fun _=>and_congr_right fun _=>or_congr_right ?_;constructor
 · rintro⟨b,o,h1,h2,h3,h4⟩;exact⟨b,o,h1,h2,h3,Lib.hid (NU.1 h4)⟩
 · rintro⟨b,o,h1,h2,h3,h4⟩;exact⟨b,o,h1,h2,h3,NU.2 h4.out⟩
theorem bW.map {G H:Nat->Prop} {w w2:af} (hs:w.heap.size<=w2.heap.size) (hk:∀b,G b->b<w.heap.size->H b/\w2.heap[b]?=w.heap[b]?) (e:Ex):∀{p m},bW G w e p m->bW H w2 e p m:=by
 induction e using Ex.ind with
 | h o s n l ih=>
  intro p m h;rw[qN] at h ⊢;obtain⟨h1,h2,h3|⟨b,o,rfl,hg,hb,h4⟩⟩:=h
  · exact⟨h1,h2,.inl h3⟩
  · obtain⟨g1,g2⟩:=hk b hg hb;refine⟨h1,h2,.inr ⟨b,o,rfl,g1,by omega,Lib.hid fun k hk=>?_⟩⟩;obtain⟨q,j,c,h5,h6⟩:=h4.out k hk;exact⟨q,j,c,h5.keep g2,ih _ (List.getElem_mem hk) h6⟩
theorem bW.mono {G H:Nat->Prop} {w:af} {e:Ex} {p:Option ai} {m:Nat} (hk:∀b,G b->b<w.heap.size->H b) (h:bW G w e p m):bW H w e p m:=bW.map (ak _) (fun b g hb=>⟨hk b g hb,rfl⟩) e h
abbrev Lo (B:Nat):Nat->Prop:=fun b=>b<B
abbrev In (w:af) (e:Ex) (p:Option ai) (m:Nat):Prop:=bW (Lo w.heap.size) w e p m
theorem bW.below {B:Nat} {w w2:af} {e:Ex} {p:Option ai} {m:Nat} (hb:ah B w w2) (h:bW (Lo B) w e p m):bW (Lo B) w2 e p m:=bW.map hb.size (fun b g _=>⟨g,hb.block b g⟩) e h
theorem bW.all {G:Nat->Prop} {w:af} {e:Ex} {p:Option ai} {m:Nat} (h:bW G w e p m):In w e p m:=h.mono fun b _ hb=>hb
theorem bW.on {w w2:af} {e:Ex} {p:Option ai} {m:Nat} (hb:ah w.heap.size w w2) (h:In w e p m):In w2 e p m:=(bW.below hb h).all
theorem bW.alloc {w:af} {e:Ex} {p:Option ai} {m:Nat} (o:Obj) (h:In w e p m):In (w.alloc o) e p m:=h.on ((Below.refl _ _).alloc (ak _) o)
theorem bW.len {G:Nat->Prop} {w:af} {o:Int} {s:ByteArray} {n:Int} {l:List Ex} {p:Option ai} {m:Nat} (h:bW G w (.mk o s n l) p m):l.length=m/\m<=9223372036854775807:=⟨(qN.1 h).1,(qN.1 h).2.1⟩
theorem bW.zero {G:Nat->Prop} {w:af} {o:Int} {s:ByteArray} {n:Int} {p:Option ai}:bW G w (.mk o s n []) p 0:=qN.2 ⟨rfl,by omega,.inl rfl⟩
theorem bW.kids {G:Nat->Prop} {w:af} {o:Int} {s:ByteArray} {n:Int} {l:List Ex} {p:Option ai} {m:Nat} (h:bW G w (.mk o s n l) p m) (hm:0<m):∃b o,p=U ⟨b,o,aj⟩/\G b/\b<w.heap.size/\Hid (∀k,(h:k<l.length)->∃p m c,h_ w b (o+k*4) l[k] p m c/\bW G w l[k] p m):=by
 rcases (qN.1 h).2.2 with h|h
 · omega
 · exact h
def Sz (e:Ex):Prop:=∀x∈pre e,x.s.size<=140737488355328
theorem Sz.kid {o:Int} {s:ByteArray} {n:Int} {l:List Ex} (h:Sz (.mk o s n l)) {x:Ex} (hx:x∈l):Sz x:=fun y hy=>h y (amV hx hy)
theorem Sz.self {o:Int} {s:ByteArray} {n:Int} {l:List Ex} (h:Sz (.mk o s n l)):s.size<=140737488355328:=h _ (amW _)
theorem xV {w:af} {x:Ex} {p:Option ai} {m c:Nat} {t:TypeId}:h_ (w.alloc (.cells #[.int .i64 x.o,.string x.s,.int .i64 x.n,.slice p m c] t)) w.heap.size 0 x p m c:=by
 exact afe
def dW (w:af) (g:Nat) (o:Int) (s:ByteArray) (n:Int) (p:Option ai) (m c:Nat):Prop:=w.cell? ⟨g,0,aj⟩=U (.int .i64 o)/\w.cell? ⟨g,1,aj⟩=U (.string s)/\w.cell? ⟨g,2,aj⟩=U (.int .i64 n)/\w.cell? ⟨g,3,aj⟩=U (.slice p m c)
theorem dW.lt {w:af} {g:Nat} {o:Int} {s:ByteArray} {n:Int} {p:Option ai} {m c:Nat} (h:dW w g o s n p m c):g<w.heap.size:=block_lt h.1
theorem dW.on {w w2:af} {g:Nat} {o:Int} {s:ByteArray} {n:Int} {p:Option ai} {m c:Nat} (hb:ah w.heap.size w w2) (h:dW w g o s n p m c):dW w2 g o s n p m c:=by
 have hg:=h.lt;exact zzq
theorem gK {w:af} {o:Int} {s:ByteArray} {n:Int} {p:Option ai} {m c:Nat} {t:TypeId}:dW (w.alloc (.cells #[.int .i64 o,.string s,.int .i64 n,.slice p m c] t)) w.heap.size o s n p m c:=by
 have h:=xV (w:=w) (x:=.mk o s n []) (p:=p) (m:=m) (c:=c) (t:=t);obtain⟨h0,h1,h2,h3⟩:=h;simp only[Nat.zero_add] at h1 h2 h3;exact⟨h0,h1,h2,h3⟩
theorem dW.alloc {w:af} {g:Nat} {o:Int} {s:ByteArray} {n:Int} {p:Option ai} {m c:Nat} (ob:Obj) (h:dW w g o s n p m c):dW (w.alloc ob) g o s n p m c:=h.on ((Below.refl _ _).alloc (ak _) ob)
theorem Ml {o n:Int} {s:ByteArray} {l:List Ex}:dep (.mk o s n l)=kI l+1:=by rw[dep]
theorem Dw {o n:Int} {s:ByteArray} {l:List Ex}:cnt (.mk o s n l)=iM l+1:=by rw[cnt]
theorem NJ {o n:Int} {s:ByteArray} {l:List Ex}:pre (.mk o s n l)=.mk o s n l::fA l:=by rw[pre]
theorem Yl {l:List Ex} (k:Nat) {x:Ex} (hx:x∈l) (h:iM l+1<=1000000):kI (l.take k)<=1000000/\dep x<=1000000:=by
 have h1:=Rh (.mk 0 ⟨#[]⟩ 0 l);have h2:=aiq l k;have h3:=Ym hx;rw[Ml,Dw] at h1;omega
theorem air {l:List Ex} (h:iM l+1<=1000000):kI l<=1000000:=by
 have h1:=Rh (.mk 0 ⟨#[]⟩ 0 l);rw[Ml,Dw] at h1;omega
theorem Rc {l:List Ex} (k:Nat) {x:Ex} (hx:l[k]?=U x) (h:iM l+1<=1000000):iM (l.take k)+cnt x<=1000000/\cnt x<=1000000:=by
 have h1:=Rb hx;have h2:=Yb l (k+1);omega
end Ex
end Go.Proofs.YthnillhnjhalmaaGreatDoor
