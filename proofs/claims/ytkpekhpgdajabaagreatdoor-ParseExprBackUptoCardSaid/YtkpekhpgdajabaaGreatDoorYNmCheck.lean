/-
  Parts of this proof: The contract of Check. The scope of a check in memory, and the contract. Rows of records that a call made.
-/
import Derived.Test.YtkpekhpgdajabaaGreatDoorYQBase
import Derived.Test.YtkpekhpgdajabaaGreatDoorYNmLet
open Go.Proofs.Tryz
open Go.Proofs.Tryz renaming prog->ae
open List renaming length_append->af
open Go renaming World->ag,Value->ah
set_option linter.unusedVariables false
set_option maxHeartbeats 2000000
open Go.Lib (hid)
namespace Go.Proofs.YtkpekhpgdajabaaGreatDoor
namespace Na
open Go.RowKit
theorem J9 (s:ByteArray) (a b:Nat):bs (s.extract a b)=((bs s).drop a).take (b-a):=by
 show(s.extract a b).data.toList=_
 rw[ByteArray.data_extract,Array.toList_extract]
theorem agS (s:ByteArray) (h:1<=s.size):(s.extract 1 s.size).size+1=s.size:=by rw[ByteArray.size_extract];omega
theorem ae6 (s:ByteArray):bs (s.extract 1 s.size)=(bs s).drop 1:=by
 rw[J9,List.take_of_length_le (by rw[List.length_drop,fJ];exact Nat.le_refl _)]
def Good (l:List UInt8) (k:Nat):Prop:=∀j,j<k->(h:j<l.length)->zF l[j]=true
theorem Le {l:List UInt8} (h0:0<l.length) (h:gN l[0]=true):Good l 1:=by
 intro j hj hl;obtain rfl:j=0:=by omega
 exact QM h
theorem aiQ {l:List UInt8}:Good l 0:=fun _ hj=>absurd hj (Nat.not_lt_zero _)
theorem good_step {l:List UInt8} {k:Nat} (hk:k<l.length) (h:Good l k) (e:zF l[k]=true):Good l (k+1):=by
 exact adP
theorem YT {l:List UInt8} {k:Nat} (h:Good l k) (hk:l.length=k) (h1:1<=l.length) (h2:l.length<=24) (h3:gN (l[0])=true) (h4:gX l=false):fB l=0:=
 all_good h1 h2 h3 h4 fun j hj=>h j bT hj
theorem TW {p:Prop} (h:p:=by
 exact adI
 ):p:=h
theorem Nq {p:Prop} (h:p:=by
 exact Oa
 ):p:=h
set_option maxRecDepth 100000 in
theorem nZ (s:ByteArray) (w:ag) (hs:s.size<=9223372036854775807):Calls ae 53 #[.string s] w (Gives (.int .i64 (fB (bs s))) w):=by
 have hs':(s.size:Int)<=9223372036854775807:=by omega
 by_cases h1:s.size<1
 · have t1:decide ((s.size:Int)<1)=true:=decide_eq_true bT;have HR:=hid (Vt (l:=bs s) (by rw[fJ];exact h1));go_enter func53,ntmps53;exact Nq
 have t1:decide ((s.size:Int)<1)=false:=decide_eq_false bT;by_cases h2:24<s.size
 · have t2:decide (24<(s.size:Int))=true:=decide_eq_true bT;have HR:=hid (Vs (l:=bs s) (by rw[fJ];exact h2));go_enter func53,ntmps53;exact Nq
 have t2:decide (24<(s.size:Int))=false:=decide_eq_false bT;have c0:(0:Int)<(s.size:Int):=by omega
 have hs0:0<s.size:=by omega
 by_cases h3:iT ((s[0]).toNat:Int)=true
 · by_cases h4:gX (bs s)=true
   · have HR:=hid (Vr h4);go_enter func53,ntmps53;go_wp2_with fail;refine(yE h3 w).mono ?_;rintro e w1 ⟨rfl,rfl⟩;go_wp2_with fail;refine(aap h4 w1).mono ?_;rintro e w1 ⟨rfl,rfl⟩;exact Nq
   · have h4':gX (bs s)=false:=by simpa using h4
     go_enter func53,ntmps53;go_wp2_with fail;refine(yE h3 w).mono ?_;rintro e w1 ⟨rfl,rfl⟩;go_wp2_with fail;refine(aap h4' w1).mono ?_;rintro e w1 ⟨rfl,rfl⟩;have c1:(1:Int)<=(s.size:Int):=by omega
     have HL:Hid (1<=(bs s).length/\(bs s).length<=24):=hid (by rw[fJ];omega);have HC:=hid (show gN (bs s)[0]=true from h3);have HK:=hid h4';have HM:=agS s bT;have HT:=ae6 s;obtain⟨c,w2,q1,hq1,hb2⟩:=ae7 (s.extract 1 s.size) bT w1;obtain⟨S,hS⟩:∃S,s.extract 1 s.size=S:=⟨_,rfl⟩
     rw[hS] at HM HT hq1;rw[show(s.extract 1 s.size).size=S.size by rw[hS]] at q1;obtain⟨M,eM⟩:∃M,S.size=M:=⟨_,rfl⟩
     rw[eM] at HM hq1 q1;have hM:(M:Int)<=24:=by omega
     have HQ:=hid hq1;have HT':=hid HT;have JH:=hid HM;have Gl:=hid (fJ s);clear HT hq1 eM HM hS h3 h4 h4';go_wp2_with fail;go_loop [27] (fun i=>∃k:Nat,k<=M/\i=.int .i64 (k:Nat)/\Hid (Good (bs s) (k+1))) (fun i=>M-(intOf i).toNat)
     case atStart=>exact⟨0,Nat.zero_le _,rfl,hid (Le HL.out.1 HC.out)⟩
     case round=>
      obtain⟨k,hk,rfl,HG⟩:=hrel;have d1:(0:Int)<=(k:Int):=by omega
      rcases Nat.lt_or_ge k M with h|h
      · have hks:k+1<(bs s).length:=by rw[Gl.out,← JH.out];omega
        obtain⟨hlen,-,h0|⟨b,o,hp,hb,hcell⟩⟩:=HQ.out
        · omega
        · cases hp
          have hkl:k<(bs S).length:=by omega
          have e1:=hcell.out k hkl;have e2:(bs S)[k]=(bs s)[k+1]:=by simp only[HT'.out,List.getElem_drop,Nat.add_comm]
          rw[e2,Nat.zero_add] at e1;have d2:(k:Int)<(M:Int):=by omega
          have HY:=hid (fun h=>good_step hks HG.out h);have HN:=hid (fun h=>Vp hks h);have HD:Hid (zF (bs s)[k+1]=vz (((bs s)[k+1]).toNat:Int)):=hid rfl;obtain⟨x,hx⟩:∃x:Int,(((bs s)[k+1]).toNat:Int)=x:=⟨_,rfl⟩
          rw[hx] at e1 HD;rw[HD.out] at HY HN;clear hcell e2 hlen hkl hks hx HD;by_cases g1:iT x=true
          · have vY:=hid (HY.out (QM g1));clear HY HN;go_wp2_with fail;refine(yE g1 w2).mono ?_;exact TW
          have g1':iT x=false:=by simpa using g1
          by_cases g2:j_ x=true
          · have vY:=hid (HY.out (YS g2));clear HY HN g1;go_wp2_with fail;refine(yE g1' w2).mono ?_;rintro e w3 ⟨rfl,rfl⟩;go_wp2_with fail;refine(EB g2 w3).mono ?_;exact TW
          have g2':j_ x=false:=by simpa using g2
          by_cases g3:x=95
          · have vY:=hid (HY.out (YU g3));subst g3;clear HY HN g1 g2;go_wp2_with fail;refine(yE g1' w2).mono ?_;rintro e w3 ⟨rfl,rfl⟩;go_wp2_with fail;refine(EB g2' w3).mono ?_;exact TW
          · have HR:=hid (HN.out (He g1' g2' g3));have q3:(x==95)=false:=beq_eq_false_iff_ne.2 g3;clear HY HN g1 g2;go_wp2_with fail;refine(yE g1' w2).mono ?_;rintro e w3 ⟨rfl,rfl⟩;go_wp2_with fail;refine(EB g2' w3).mono ?_;rintro e w3 ⟨rfl,rfl⟩;exact UB
      · obtain rfl:M=k:=by omega
        have HR:=hid (YT HG.out (by rw[Gl.out,JH.out]) HL.out.1 HL.out.2 HC.out HK.out);exact UB
 · have h3':iT ((s[0]).toNat:Int)=false:=by simpa using h3
   have HR:=hid (Vq (l:=bs s) (by rw[fJ];exact hs0) h3');go_enter func53,ntmps53;go_wp2_with fail;refine(yE h3' w).mono ?_;rintro e w1 ⟨rfl,rfl⟩;exact Nq
end Na
namespace Md
open Go.RowKit Go.Maps
open Na (bs jl fB)
open Sm (rT kG)
open Ex (Gives iJ uy qJ)
set_option maxRecDepth 100000
structure But (b:Nat) (a w:ag):Prop where
 os:w.os=a.os
 tape:w.tape=a.tape
 output:w.output=a.output
 size:a.heap.size<=w.heap.size
 block:∀k,k<a.heap.size->k≠b->w.heap[k]?=a.heap[k]?
theorem But.of {b:Nat} {a w:ag} (h:Below a.heap.size a w):But b a w:=⟨h.os,h.tape,h.output,h.size,fun k hk _=>h.block k hk⟩
theorem But.trans {b:Nat} {u v w:ag} (h:But b u v) (g:But b v w):But b u w:=⟨g.os.trans h.os,g.tape.trans h.tape,g.output.trans h.output,Nat.le_trans h.size g.size,fun k hk hb=>(g.block k (Nat.lt_of_lt_of_le hk h.size) hb).trans (h.block k hk hb)⟩
theorem But.below {b B:Nat} {w0 a w:ag} (h0:Below B w0 a) (h:But b a w) (hB:B<=b) (hs:B<=a.heap.size):Below B w0 w:=⟨h.os.trans h0.os,h.tape.trans h0.tape,h.output.trans h0.output,Nat.le_trans h0.size h.size,fun k hk=>(h.block k bT bT).trans (h0.block k hk)⟩
theorem But.then {b:Nat} {u v w:ag} (h:But b u v) (g:Below v.heap.size v w):But b u w:=h.trans (But.of g)
theorem But.refl (b:Nat) (w:ag):But b w w:=But.of (Below.refl _ _)
theorem But.alloc {b:Nat} {a w:ag} {o:Obj} (h:But b a w):But b a (w.alloc o):=h.then (iJ (Below.refl _ _))
theorem But.drew {b:Nat} {a w:ag} (h:But b a w):But b a w.drew:=h.then (qJ (Below.refl _ _))
theorem But.drewN {b n:Nat} {a w:ag} (h:But b a w):But b a (w.drewN n):=h.then (uy (Below.refl _ _))
theorem bU.but {b g:Nat} {w w2:ag} {t:TypeId} {c:Array ah} (hb:But b w w2) (hg:g≠b) (h:bU w g t c):bU w2 g t c:=h.keep (hb.block g h.lt hg)
theorem law:Keyed ae 9:=string_keyed underlying9
theorem adH (w:ag):(zeroValue 4).run ae w=.ok (.bool false) w:=by kernel_rfl
theorem aaZ {H:Type} {v:ah} {z:DataW H×List MemPlace} (h:plainElem ae 4 v=some z):∃c,v=.bool c/\z=(.lit (.bool c),[]):=by
 unfold plainElem at h;rw[underlying4] at h
 cases v <;> simp at h
 exact⟨_,rfl,h.symm⟩
def wR (x:ByteArray):Lit:=.string (bs x)
theorem ajD {x y:ByteArray} (h:wR x=wR y):x=y:=by unfold wR at h;exact jl (Lit.string.inj h)
theorem ajH (x:ByteArray):WideAt.IsKeyLit (wR x):=by unfold wR;simp[WideAt.IsKeyLit]
theorem Yu {u z:DataW Unit} {k:Lit}:∀{acc:List Lit} {m:DataW Unit},k ∉ acc->(acc.foldl (fun m x=>m.put x u) m).atKey k z=m.atKey k z:=by
 intro acc
 induction acc with
 | nil=>intro m _;rfl
 | cons y r ih=>intro m hn;rw[List.foldl_cons,ih (fun hh=>hn (by simp[hh])),atKey_put_other (fun e=>hn (by simp[e]))]
theorem Yt {u z:DataW Unit} {k:Lit}:∀{acc:List Lit} {m:DataW Unit},IsMap m->(∀x∈acc,WideAt.IsKeyLit x)->k∈acc->(acc.foldl (fun m x=>m.put x u) m).atKey k z=u
 | [],m,_,_,h=>by simp at h
 | x::t,m,hm,ha,h=>by
  rw[List.foldl_cons];by_cases g:k∈t
  · exact Yt (hm.put x u) (fun y hy=>ha y (by simp[hy])) g
  · obtain rfl:k=x:=by rcases List.mem_cons.1 h with h|h;exact h;exact absurd h g
    have hk:=ha k cK;rw[Yu g,atKey_put_same hm hk]
def Da (acc:List Lit):DataW Unit:=setOf (.lit (.bool true)) acc
theorem UW (acc:List Lit) (k:Lit):(Da acc).put k (.lit (.bool true))=Da (acc++[k]):=by unfold Da;rw[setOf_snoc]
theorem UU {acc:List Lit} {k:Lit} (ha:∀x∈acc,WideAt.IsKeyLit x) {c:Bool} (h:(Da acc).atKey k (.lit (.bool false))=.lit (.bool c)):c=true↔k∈acc:=by
 by_cases g:k∈acc
 · unfold Da setOf at h;rw[Yt isMap_empty ha g] at h;injection h with h;injection h with h;exact⟨fun _=>g,fun _=>h.symm⟩
 · unfold Da setOf at h;rw[Yu g] at h;have:(DataW.lit (Lit.bool false):DataW Unit)=.lit (.bool c):=h;injection this with h;injection h with h;exact⟨fun e=>absurd (h.trans e) bR,fun e=>absurd e g⟩
def il (b:Nat) (acc:List ByteArray) (w:ag):Prop:=w.ownsMap ae 9 (plainElem ae 4) b acc.length (Da (acc.map wR))
theorem aaS {kt:TypeId} {w w2:ag} {b n:Nat} {D:DataW Unit} (h:w.ownsMap ae kt (plainElem ae 4) b n D) (hb:Below w.heap.size w w2):w2.ownsMap ae kt (plainElem ae 4) b n D:=
 h.kept (row:=none) ⟨hb.os,hb.tape,hb.output,hb.size,fun k hk _=>hb.block k hk⟩ cK
theorem il.on {b:Nat} {acc:List ByteArray} {w w2:ag} (h:il b acc w) (hb:Below w.heap.size w w2):il b acc w2:=aaS h hb
theorem ajG {x:ByteArray} (h:x.size<=9223372036854775807):keyOf ae 9 (.string x)=some (wR x):=by
 refine Go.WideMaps.keyOf_string_mk underlying9 ?_;unfold maxLen;omega
theorem akf {x:ByteArray} {acc:List ByteArray}:wR x∈acc.map wR↔x∈acc:=by
 rw[List.mem_map];constructor
 · rintro⟨y,hy,e⟩;rw[← ajD e];exact hy
 · intro h;exact⟨x,h,rfl⟩
theorem ajJ (acc:List ByteArray):∀k∈acc.map wR,WideAt.IsKeyLit k:=fun k hk=>by obtain⟨y,-,rfl⟩:=List.mem_map.1 hk;exact ajH y
theorem aay {w:ag} {b:Nat} {acc:List ByteArray} {x:ByteArray} (h:il b acc w) (hkey:keyOf ae 9 (.string x)=some (wR x)) :
 (Instr.lookup 108 (.map (some b)) (.string x) false).run ae w=.ok (.bool (decide (x∈acc))) w:=by
 obtain⟨v,ps,hrun,hv⟩:=World.ownsMap.lookup (t:=108) h law underlying108 (adH w) (plainElem_bool underlying4 false) hkey;obtain⟨c,rfl,hc⟩:=aaZ hv;simp only[Prod.mk.injEq] at hc;have:=UU (ajJ acc) hc.1;rw[akf] at this;rw[hrun];by_cases g:x∈acc
 · rw[decide_eq_true g,this.2 g]
 · rw[decide_eq_false g]
   cases c with
   | true=>exact absurd (this.1 rfl) g
   | false=>rfl
def iY (acc:List ByteArray) (x:ByteArray):List ByteArray:=if jh acc x=0 then acc++[x] else acc
def Decl (b:Nat) (acc:List ByteArray) (x:ByteArray) (w:ag) (e:Ending) (w':ag):Prop:=e=.returned (.int .i64 (jh acc x))/\il b (iY acc x) w'/\But b w w'
theorem agn (l:List UInt8):fB l=0∨fB l=3:=by unfold fB;split <;> simp
theorem RG {s:ByteArray} {x:Int} (h:fB (bs s)=x) (hs:s.size<=9223372036854775807) (w:ag):Calls ae 53 #[.string s] w (Gives (.int .i64 x) w):=by rw[← h];exact Na.nZ s w hs
theorem WL (b:Nat) (acc:List ByteArray) (x:ByteArray) (w:ag) (hS:il b acc w) (hn:acc.length<=100000) (hx:x.size<=9223372036854775807):Calls ae 89 #[.map (some b),.string x] w (Decl b acc x w):=by
 have HS:=hid hS;clear hS;rcases agn (bs x) with h1|h1
 · have hkey:=ajG hx;by_cases hin:x∈acc
   · have HD:=hid (show jh acc x=4 by unfold jh;rw[h1,kG,if_pos hin]);have HA:=hid (show iY acc x=acc by unfold iY;rw[HD.out];rfl);go_enter func89,ntmps89;go_wp2_with fail;refine(RG h1 hx w).mono ?_;rintro e w2 ⟨rfl,hb2⟩;have hl:=aay (HS.out.on hb2) hkey;rw[decide_eq_true hin] at hl;go_wp2_with fail;go_ret;exact⟨by rw[HD.out];rfl,by rw[HA.out];exact HS.out.on hb2,But.of hb2⟩
   · have HD:=hid (show jh acc x=0 by unfold jh;rw[h1,kG,if_neg hin]);have HA:=hid (show iY acc x=acc++[x] by unfold iY;rw[HD.out];rfl);go_enter func89,ntmps89;go_wp2_with fail;refine(RG h1 hx w).mono ?_;rintro e w2 ⟨rfl,hb2⟩;have HS2:=hid (HS.out.on hb2);have hl:=aay HS2.out hkey;rw[decide_eq_false hin] at hl;go_wp2_with (at_mapUpdate;refine wpList_mapUpdate_own _ rfl _ _ _ 108 rfl 9 4 law underlying108 _ b acc.length _ rfl HS2.out Ga _ _ _ rfl rfl hkey _ [] (plainElem_bool underlying4 true) ?_)
     intro w3 hown3 hgrow3;have Gn:=hid hown3;rw[UW] at Gn;have HG:=hid hgrow3;have HB:=hid hb2;clear hown3 hgrow3 hl hb2;go_wp2_with fail;go_ret;refine⟨by rw[HD.out];rfl,?_,(But.of HB.out).trans ⟨HG.out.os,HG.out.tape,HG.out.output,HG.out.size,fun k hk hne=>HG.out.block k hk (fun e=>hne (Option.some.inj e))⟩⟩;rw[HA.out];unfold il;rw[List.map_append,af];exact Gn.out
 · have HD:=hid (show jh acc x=3 by unfold jh;rw[h1];exact rT bT);have HA:=hid (show iY acc x=acc by unfold iY;rw[HD.out];rfl);go_enter func89,ntmps89;go_wp2_with fail;refine(RG h1 hx w).mono ?_;rintro e w2 ⟨rfl,hb2⟩;go_wp2_with fail;go_ret;exact⟨by rw[HD.out];rfl,by rw[HA.out];exact HS.out.on hb2,But.of hb2⟩
theorem AJ {b:Nat} {acc:List ByteArray} {x:ByteArray} {v:Int} {yj:List ByteArray} (hv:jh acc x=v) (h2:iY acc x=yj) (w:ag) (hS:il b acc w) (hn:acc.length<=100000) (hx:x.size<=9223372036854775807):Calls ae 89 #[.map (some b),.string x] w fun e w'=>e=.returned (.int .i64 v)/\il b yj w'/\But b w w':=by
 subst hv h2;exact WL b acc x w hS hn hx
end Md
namespace Md
open Go.RowKit
open Ex (Lo wu)
def mU (L:List (Array ah)):List ah:=L.flatMap (·.toList)
theorem Qv (c:Array ah) (t:List (Array ah)):mU (c::t)=c.toList++mU t:=rfl
theorem Qu (a b:List (Array ah)):mU (a++b)=mU a++mU b:=List.flatMap_append
theorem G7 {k:Nat}:∀{L:List (Array ah)},(∀c∈L,c.size=k)->(mU L).length=L.length*k
 | [],_=>by simp[mU]
 | c::t,h=>by
  rw[Qv,af,Array.length_toList,h c List.mem_cons_self,G7 fun d hd=>h d (List.mem_cons_of_mem _ hd),List.length_cons,Nat.add_mul];omega
theorem KW {k:Nat}:∀{L:List (Array ah)} {i r:Nat} (hL:∀c∈L,c.size=k) (hi:i<L.length),r<k->(mU L)[i*k+r]?=L[i][r]?
 | [],i,r,_,hi,_=>absurd hi (Nat.not_lt_zero _)
 | c::t,0,r,hL,hi,hr=>by
  have hc:=hL c List.mem_cons_self;rw[Qv,List.getElem?_append_left (by rw[Array.length_toList];omega),Array.getElem?_toList,show 0*k+r=r by omega];rfl
 | c::t,i+1,r,hL,hi,hr=>by
  have hc:=hL c List.mem_cons_self;rw[Qv,List.getElem?_append_right (by rw[Array.length_toList,hc,Nat.add_mul];omega),Array.length_toList,hc,show(i+1)*k+r-k=i*k+r by rw[Nat.add_mul];omega,KW (fun d hd=>hL d (List.mem_cons_of_mem _ hd)) (by simpa using hi) hr];rfl
theorem Qw {L:List (Array ah)} (hL:∀c∈L,c.all (·.oneCell')=true):∀u∈mU L,u.oneCell'=true:=by
 intro u hu;obtain⟨c,hc,h⟩:=List.mem_flatMap.1 hu;have:=hL c hc;rw[Array.all_eq_true_iff_forall_mem] at this;exact this u (Array.mem_def.2 h)
structure Kind (LT T:TypeId) (k:Nat):Prop where
 slice:Tryz.prog.underlying LT=some (.slice T)
 info:∃i z,Tryz.prog.info? T=some i/\i.zero=some z/\i.size=k/\z.cells.size=k/\i.bytes<=1000
 pos:0<k
def g_ {α:Type} (k:Nat) (R:Rec α):Prop:=∀{G:Nat->Prop} {w:ag} {x:α} {c:Array ah},R G w x c->c.size=k/\c.all (·.oneCell')=true
def kZ {α:Type} (T:TypeId) (k:Nat) (R:Rec α) (base:Nat) (w:ag) (v:ah) (l:List α):Prop:=
 ∃L:List (Array ah),L.length=l.length/\(∀i,(h:i<l.length)->(h2:i<L.length)->R (Lo base) w l[i] L[i])/\w.ownsRow base T k v l.length (mU L)
section
variable {α:Type} {LT T:TypeId} {k:Nat} {R:Rec α} {base:Nat} {w w2:ag} {v:ah} {l l2:List α}
theorem kZ.nil:kZ T k R base w (.slice none 0 0) ([]:List α):=⟨[],rfl,fun i h=>absurd h (Nat.not_lt_zero _),World.ownsRow_nil _ _ _ _⟩
theorem kZ.on (hm:fe R) (h:kZ T k R base w v l) (hb:Below w.heap.size w w2) (hbs:base<=w.heap.size):kZ T k R base w2 v l:=by
 obtain⟨L,h1,h2,h3⟩:=h;exact⟨L,h1,fun i hi hi2=>hm hb.size (fun b g hg=>⟨g,hb.block b hg⟩) (h2 i hi hi2),h3.kept (row:=none) ⟨hb.os,hb.tape,hb.output,hb.size,fun k hk _=>hb.block k hk⟩ (by cases v.ownBlock <;> simp)⟩
theorem kZ.below {w0:ag} (h:kZ T k R base w v l) (hg:w.grownBy w2 v.ownBlock) (hb0:Below w0.heap.size w0 w) (h0:w0.heap.size<=base) (hbs:base<=w.heap.size):Below w0.heap.size w0 w2:=by
 obtain⟨L,h1,h2,h3⟩:=h;exact hb0.grown hg bT fun j hj=>by have:=(h3.lt j hj).1;omega
theorem kZ.rw (hm:fe R) (hs:g_ k R) (h:kZ T k R base w v l) (hn:l.length<=1000000):∃p c,v=.slice p l.length c/\Rw k R (Lo w.heap.size) w l p l.length:=by
 obtain⟨L,h1,h2,h3⟩:=h;rcases h3.2 with⟨rfl,h0⟩|⟨g,cap,cur,rfl,hb,hg,-⟩
 · exact⟨none,0,by rw[h0],rfl,by omega,.inl h0⟩
 · have hgl:g<w.heap.size:=(Array.getElem?_eq_some_iff.1 hg).1;have hL:∀c∈L,c.size=k:=fun c hc=>by
    obtain⟨i,hi,rfl⟩:=List.getElem_of_mem hc;exact(hs (h2 i bT hi)).1
   refine⟨some ⟨g,0,none⟩,cap,rfl,rfl,by omega,.inr ⟨g,0,rfl,hgl,hgl,hid fun i hi=>?_⟩⟩;have hi2:i<L.length:=by omega
   have hR:=h2 i hi hi2;refine⟨L[i],(hs hR).1,fun r u hu=>?_,hm (Nat.le_refl _) (fun b _ hb=>⟨hb,rfl⟩) hR⟩;exact zzh
theorem aez {P:Program} {w:ag} (base:Nat) (t ty e:TypeId) (i:TypeInfo) (size:Nat) (ht:P.underlying t=some (.slice e)) (hi:P.info? e=some i)
 (v:ah) (n:Nat) (xs:List ah) (hown:w.ownsRow base e size v n xs) (c:Nat):(Builtin.append_ #[t,t] ty #[v,.slice none 0 c]).run P w=.ok v w:=by
 rcases hown.2 with⟨rfl,rfl⟩|⟨g,cap,cur,rfl,-,-,hnc,-⟩
 · simp[Builtin.append_,run_underlying ht,sizeOf,typeInfo,hi,Builtin.lenOf,Builtin.firstCells]
 · simp[Builtin.append_,run_underlying ht,sizeOf,typeInfo,hi,Builtin.lenOf,Builtin.firstCells,hnc,storeCells]
theorem Rw.list {G:Nat->Prop} {p:Option Addr} {m:Nat} (hs:g_ k R) (h:Rw k R G w l p m):∃L:List (Array ah),L.length=l.length/\(∀i,(h:i<l.length)->(h2:i<L.length)->R G w l[i] L[i])/\∀a,p=some a->∀j u,(mU L)[j]?=some u->w.cell? (a.add j)=some u:=by
 obtain⟨h1,h2,h3|⟨b,o,rfl,hg,hb,h4⟩⟩:=h
 · have h0:l.length=0:=by omega
   exact⟨[],by rw[h0];rfl,fun i hi=>by omega,fun a _ j u hu=>by simp[mU] at hu⟩
 · have hc:=h4.out
   let L:List (Array ah):=(List.range l.length).map fun i=>if hi:i<l.length then (hc i hi).choose else #[]
   have Y_:L.length=l.length:=by simp[L]
   have QQ:∀i,(hi:i<l.length)->(hi2:i<L.length)->L[i]=(hc i hi).choose:=fun i hi hi2=>by simp[L,hi]
   have hz:∀c∈L,c.size=k:=fun c hcm=>by
    obtain⟨i,hi,rfl⟩:=List.getElem_of_mem hcm;rw[QQ i bT hi];exact(hc i bT).choose_spec.1
   refine⟨L,Y_,fun i hi hi2=>by rw[QQ i hi hi2];exact(hc i hi).choose_spec.2.2,fun a ha j u hu=>?_⟩;cases ha
   rw[wu];have hj:j<l.length*k:=by
    have:=(List.getElem?_eq_some_iff.1 hu).1;rwa [G7 hz,Y_] at this
   have hk:0<k:=by
    rcases Nat.eq_zero_or_pos k with h0|h0
    · subst h0;omega
    · exact h0
   have e:j=(j / k)*k+j % k:=by rw[Nat.mul_comm];exact(Nat.div_add_mod j k).symm
   have hi:j / k<l.length:=Nat.div_lt_of_lt_mul (by rwa [Nat.mul_comm]);have hi2:j / k<L.length:=by omega
   rw[e,KW hz hi2 (Nat.mod_lt _ hk)] at hu;rw[QQ _ hi hi2] at hu;have:=(hc _ hi).choose_spec.2.1 _ _ hu;rwa [Nat.add_assoc,← e] at this
theorem kZ.app (I:Kind LT T k) (hm:fe R) (hs:g_ k R) (ho:kZ T k R base w v l) {p:Option Addr} {m:Nat} (h:Rw k R (Lo base) w l2 p m) (c:Nat) (hb:base<=w.heap.size) (hn:l.length+m<=1000000) :
 ∃(v':ah) (w':ag),(Builtin.append_ #[LT,LT] LT #[v,.slice p m c]).run ae w=.ok v' w'/\kZ T k R base w' v' (l++l2)/\w.grownBy w' v.ownBlock:=by
 obtain⟨L0,a1,a2,a3⟩:=ho;obtain⟨L,b1,b2,b3⟩:=Rw.list hs h;have hlm:=h.1;have hz0:∀c∈L0,c.size=k:=fun c hc=>by
  obtain⟨i,hi,rfl⟩:=List.getElem_of_mem hc;exact(hs (a2 i bT hi)).1
 have hz:∀c∈L,c.size=k/\c.all (·.oneCell')=true:=fun c hc=>by
  obtain⟨i,hi,rfl⟩:=List.getElem_of_mem hc;exact hs (b2 i bT hi)
 obtain⟨i0,z,hi0,hi1,hi2,hi3,hi4⟩:=I.info
 cases p with
 | none=>
  obtain rfl:m=0:=by
   rcases h.2.2 with h|⟨b,o,h,-⟩
   · exact h
   · cases h
  obtain rfl:=List.length_eq_zero_iff.1 hlm;exact⟨v,w,aez base _ _ _ i0 k I.slice hi0 v _ _ a3 c,⟨L0,by simpa using a1,fun i hi hi2=>by have:=a2 i (by simpa using hi) hi2;simpa using this,by simpa using a3⟩,⟨rfl,rfl,rfl,Nat.le_refl _,fun _ _ _=>rfl⟩⟩
 | some a=>
  have hmx:(l.length+m)*i0.bytes<=140737488355328:=by
   have h1:(l.length+m)*i0.bytes<=1000000*1000:=Nat.mul_le_mul hn hi4;omega
  obtain⟨v',w',e1,e2,e3,-,-⟩:=run_append_own_at (P:=ae) w base LT LT T i0 z k i0.bytes I.slice hi0 hi1 hi2 rfl hi3 I.pos v l.length _ a3 a m c (mU L) (by rw[G7 fun c hc=>(hz c hc).1,b1,hlm]) (b3 a rfl) (Qw fun c hc=>(hz c hc).2) Ga hmx hb;have keep:∀{x:α} {c:Array ah},R (Lo base) w x c->R (Lo base) w' x c:=fun {x c} hr=>hm e3.size (fun b hbb hlt=>⟨hbb,e3.block b hlt (fun he=>by
   have:=(a3.lt b he.symm).1;have:b<base:=hbb;omega)⟩) hr
  refine⟨v',w',e1,⟨L0++L,by rw[af,af,a1,b1],fun i hi hi2=>?_,by rw[Qu,af,hlm];exact e2⟩,e3⟩;rw[List.getElem_append,List.getElem_append];by_cases h0:i<l.length
  · rw[dif_pos h0,dif_pos bT];exact keep (a2 i h0 bT)
  · rw[dif_neg h0,dif_neg bT];simp only[a1];exact keep (b2 (i-l.length) (by rw[af] at hi;omega) (by rw[af] at hi2;omega))
end
theorem lW {LT T:TypeId} {k b:Nat} {z:ah} (h1:Tryz.prog.underlying LT=some (.slice T)) (h2:(Tryz.prog.info? T).map (fun i=>(i.zero,i.size,i.bytes))=some (some z,k,b)) (h3:z.cells.size=k) (h4:b<=1000) (h5:0<k):Kind LT T k:=by
 cases h:Tryz.prog.info? T with
 | none=>rw[h] at h2;cases h2
 | some i=>
  rw[h] at h2;simp only[Option.map_some,Option.some.injEq,Prod.mk.injEq] at h2;obtain⟨e1,e2,e3⟩:=h2;exact⟨h1,⟨i,z,h,e1,e2,by rw[h3],by rw[e3];exact h4⟩,h5⟩
theorem H7:Kind 49 9 1:=lW underlying49 (z:=.string ⟨#[]⟩) (b:=16) dx bR bR bR
theorem Cy:Kind 213 247 2:=lW underlying213 (z:=.agg #[.string ⟨#[]⟩,.int .i64 0]) (b:=24) dx bR bR bR
theorem ajx:Kind 37 54 13:=lW underlying37 (z:=.agg #[.string ⟨#[]⟩,.slice none 0 0,.slice none 0 0,.slice none 0 0,.slice none 0 0,.slice none 0 0,.slice none 0 0,.slice none 0 0,.slice none 0 0,.slice none 0 0,.slice none 0 0,.slice none 0 0,.slice none 0 0]) (b:=304) dx bR bR bR
theorem zX:g_ 2 dE:=fun h=>dE.is h
theorem jT:g_ 13 gK:=fun h=>gK.is h
end Md
end Go.Proofs.YtkpekhpgdajabaaGreatDoor
