/-
  Closing tactics of this proof, by name.
-/
import Derived.ArgAppend
import Derived.BigQuiet
import Derived.ChangeKeysEq
import Derived.ChangeSame
import Derived.Deep.CutBlock
import Derived.Deep.DeepCutAuto
import Derived.Deep.Fields
import Derived.Deep.MidRow
import Derived.Deep.QuietTactic
import Derived.Deep.RegionHeld3
import Derived.Deep.RegionLaw
import Derived.Deep.RegionWith
import Derived.Deep.Slices
import Derived.Deep.TreeCalls
import Derived.Deep.WholeRow
import Derived.DeepKeys4
import Derived.Defers
import Derived.Great.BuildSlice
import Derived.JoinedCond
import Derived.LaidHandle
import Derived.LaidMore
import Derived.Laws.Cover1
import Derived.Laws.OwnMore
import Derived.Laws.Strings3
import Derived.Lib.AppendZeros
import Derived.Lib.AtoiAll
import Derived.Lib.Bytealg
import Derived.Lib.Hide
import Derived.Lib.ItoaNum
import Derived.Lib.LaidTab
import Derived.Lib.OthersKept
import Derived.Lib.OwnBridge
import Derived.Lib.RowBridge
import Derived.Lib.SliceRun
import Derived.Lib.SlicesCompact
import Derived.Lib.SmallJoins
import Derived.LoopIn
import Derived.LoopNIn
import Derived.LoopTactic
import Derived.MakeChecks
import Derived.Maps.AppendAt
import Derived.Maps.OwnSet
import Derived.Maps.RangeWalk
import Derived.OpenShut
import Derived.OrdersHeld
import Derived.Outline
import Derived.OwnWalk
import Derived.OwnWalkIn
import Derived.ProofKit
import Derived.RangeFuncBound
import Derived.RangeFuncBox
import Derived.RangeFuncCalls
import Derived.RangeFuncLeaves
import Derived.RangeFuncNested
import Derived.RangeFuncRecord
import Derived.Recover
import Derived.RegionTactic
import Derived.Shelf.Abstract
import Derived.Shelf.LaysC
import Derived.Shelf.LaysM
import Derived.Shelf.Strconv.Atoi
import Derived.Shelf.Strconv.AtoiAll
import Derived.Shelf.Strconv.AtoiErrFast
import Derived.Shelf.Strconv.AtoiFail
import Derived.Shelf.Strconv.AtoiInnerAll
import Derived.Shelf.Strconv.AtoiLong
import Derived.Shelf.Strconv.Clone
import Derived.Shelf.Strconv.ErrVarAll
import Derived.Shelf.Strconv.Itoa0
import Derived.Shelf.Strconv.Itoa1
import Derived.Shelf.Strconv.Itoa2
import Derived.Shelf.Strconv.Itoa3
import Derived.Shelf.Strconv.Lower
import Derived.Shelf.Strconv.ParseInt10
import Derived.Shelf.Strconv.ParseIntEmpty
import Derived.Shelf.Strconv.ParseUint10
import Derived.Shelf.Strconv.ParseUint10Any
import Derived.Shelf.Strconv.ParseUint10Empty
import Derived.Shelf.Strconv.RangeError
import Derived.Shelf.Strconv.SyntaxError
import Derived.Shelf.Strconv.ToError
import Derived.Shelf.Strconv.ToErrorRange
import Derived.SizedLaws
import Derived.SliceStrings
import Derived.Sort.EncStr
import Derived.Sort.OwnSorted
import Derived.StillTailTactics
import Derived.Stop.Joined
import Derived.TacticsInMore
import Derived.WalkKit
import Derived.WalkLawsBesides
import Derived.WalkMore
import Derived.WalkSpells
set_option linter.unusedVariables false
open Go.RowKit
namespace Go.Proofs.YtkpekhpgdajabaaGreatDoor
section
theorem dX {p:Prop} (h:p:=by
 go_wp2_with fail;go_ret;exact⟨rfl,bl⟩
 ):p:=h
theorem BK {p:Prop} (h:p:=by
 go_enter Tryz.func22,Tryz.ntmps22;go_wp2_with (first|(go_at_call 43;refine(HA.out _).mono ?_;rintro e w1 ⟨rfl,rfl⟩)|(go_at_call 44;refine(HB.out _).mono ?_;rintro e w1 ⟨rfl,rfl⟩))
 go_ret;exact⟨rfl,bl⟩
 ):p:=h
theorem UD {p:Prop} (h:p:=by
 rw[hE] at HI1 Gp HE;clear hE;go_wp2_with fail;refine HI1.mono ?_;rintro e w2 ⟨rfl,hb2⟩;have HW2:Hid (Below w.heap.size w w2):=Lib.hid (by have bY:=HW.out;exact bl);have yf:=Lib.hid (ig.out.on hb2);clear hb2 HI1;by_cases hE0:E=0
 · subst hE0;have HR:=HE.out;have HR2:=Lib.hid HR;clear HR;go_wp2_with fail;go_roundw
   case rel=>exact⟨k+1,by omega,HR2,by go_num,HW2,yf⟩
   case measure=>simp[intOf];omega
 · have e1:(E==0)=false:=beq_eq_false_iff_ne.2 hE0;have HR:=Lib.hid (Gp.out hE0);go_wp2_with fail;go_ret;exact⟨by rw[HR.out];rfl,HW2.out⟩
 ):p:=h
theorem Al {p:Prop} (h:p:=by
 exact results_cell_row rfl _ _ w.heap.size 25 _ (0,0) _ rfl (qK Z.out rfl) Tryz.underlying25 rfl (by kernel_rfl)
 ):p:=h
theorem UH {p:Prop} (h:p:=by
 clear o4 Et o5 hg5 HB HR HO HY;go_wp2_with (at_builtin;refine Lib.wpList_append_run _ rfl _ _ _ _ rfl _ _ rfl rfl _ _ hrun ?_)
 go_roundg k
 case measure=>omega
 case rel=>
  have h0:=BP.out.2;have h1:=oD.out;have h2:=HK.out;have h3:=HN.out;have h4:=HL.out;exact⟨⟨_,u4,HS.out,by omega,by omega,by simp at h4 ⊢; omega,O5.out,R5.out⟩,B5.out⟩
 ):p:=h
theorem zz5 {p:Prop} (h:p:=by
 rw[hE] at HI1 HS HE;clear hE;have hb1:b'<wr.heap.size:=Nat.lt_of_lt_of_le hG' HW.out.size;go_wp2_with fail;go_region_with (go_at_call 9;refine(HI1.out _ (mO.out.on (by have bY:=HW.out;exact bl)) (JG.out.on (by have bY:=HW.out;exact bl))).mono ?_;rintro e w2 ⟨rfl,hb2⟩)
 all_goals
  have HW2:Hid (Below w.heap.size w w2):=Lib.hid (by have bY:=HW.out;exact bl);clear hb2 HI1
  cases E with
  | true=>
   have HR:=Lib.hid (HE.out rfl HT0.out);go_wp2_with fail;go_roundw
   case rel=>exact⟨k+1,by omega,HR,by go_num,HW2⟩
   case measure=>simp[intOf];omega
  | false=>
   have HR:=Lib.hid (HS.out rfl);go_wp2_with fail;go_ret;exact⟨by rw[HR.out];rfl,HW2.out⟩
 ):p:=h
theorem NZ {p:Prop} (h:p:=by
 unfold dG Bg at h;simp only[List.contains_eq_mem,List.mem_cons,List.not_mem_nil,or_false,decide_eq_true_eq] at h;rcases h with rfl|rfl|rfl|rfl|rfl|rfl|rfl|rfl|rfl|rfl|rfl|rfl|rfl|rfl|rfl|rfl <;> decide
 ):p:=h
theorem UI {p:Prop} (h:p:=by
 clear o4 c4 o5 hg5 HB HR HO HY;go_wp2_with (at_builtin;refine Lib.wpList_append_run _ rfl _ _ _ _ rfl _ _ rfl rfl _ _ hrun ?_)
 go_roundg k
 case measure=>omega
 case rel=>
  have h1:=oD.out;have h2:=HK.out;have h3:=HN.out;have h4:=HL.out;exact⟨⟨_,u3,HS.out,by omega,by omega,by simp at h4 ⊢; omega,O5.out,R5.out⟩,B5.out⟩
 ):p:=h
theorem UJ {p:Prop} (h:p:=by
 obtain⟨k,hk,HT0,rfl,HW,ig⟩:=hrel;obtain⟨b0,b1,b2,b3⟩:=ig.out;obtain rfl:k=0:=by omega
 have hl0:l=[]:=List.length_eq_zero_iff.1 HL.out;have HR:Hid (bad false (eD l)=0):=Lib.hid (by rw[hl0,eD,bad]);clear hl0;go_wp2_with fail;go_ret;exact⟨by rw[HR.out];rfl,HW.out⟩
 ):p:=h
theorem UK {p:Prop} (h:p:=by
 obtain⟨k,hk,HT0,rfl,HW,ig⟩:=hrel;obtain⟨b0,b1,b2,b3⟩:=ig.out;obtain rfl:k=0:=by omega
 have hl0:l=[]:=List.length_eq_zero_iff.1 HL.out;have HR:Hid (bad true (eD l)=0):=Lib.hid (by rw[hl0,eD,bad]);clear hl0;go_wp2_with fail;go_ret;exact⟨by rw[HR.out];rfl,HW.out⟩
 ):p:=h
theorem D_ {p:Prop} (h:p:=by
 exact results_cell_row rfl _ _ w.heap.size 62 _ (0,0) _ rfl gQ.out Tryz.underlying62 rfl (by kernel_rfl)
 ):p:=h
theorem N_ {p:Prop} (h:p:=by
 go_wp2_with fail;go_ret;exact⟨by rw[HR.out];rfl,HW.out⟩
 ):p:=h
theorem zzc {p:Prop} (h:p:=by
 have JL:=Lib.hid (lM.out _ _ r9);replace HS:=eY HS r9;replace HB:Hid (Bt g w w9):=Lib.hid (by have bY:=HB.out;exact bS.call (S':=fun k=>k<w.heap.size/\¬k=g) bY b9 (fun k hk hs=>⟨hk,hs⟩));replace HD:=Lib.hid D9;replace HR:=Lib.hid R9;clear D9 R9 b9 r9 h9 HM HX lM;go_wp2_with fail;go_roundg k
 case measure=>omega
 case rel=>
  obtain⟨c,h1,h2,h3⟩:=JL.out;exact⟨⟨y9,V9,d+c,u9,HS.out,by have:=HKK.out;omega,h3,by have:=HL.out;omega,HD.out,HR.out⟩,HB.out⟩
 ):p:=h
theorem zzd {p:Prop} (h:p:=by
 have hb:(x.k != k)=true:=by simp[h]
 have HK:=Lib.hid h;clear hR l1 l2 l3 l4 hx hj h;go_enter Tryz.func71,Tryz.ntmps71;go_wp2_with fail;refine(C1.out _ bl).mono ?_;rintro e w1 ⟨rfl,hb1⟩;have hB1:Below w.heap.size w w1:=bl;have HB1:=Lib.hid hB1;clear hb1 hB1;go_wp2_with fail;refine(C2.out _ (by have bY:=HB1.out;exact bl)).mono ?_;rintro e w2 ⟨rfl,hb2⟩;go_wp2_with fail;refine⟨rfl,?_,.inr ⟨by rw[HX.out];exact HK.out,by rw[HX.out];rfl⟩⟩;exact bS.of (by have bY:=HB1.out;exact bl)
 ):p:=h
theorem UL {p:Prop} (h:p:=by
 obtain rfl:m=k:=by omega
 have HT:Hid (l.take m=l):=Lib.hid (List.take_of_length_le (by rw[HL.out];exact Nat.le_refl _));rw[HT.out] at HT0;go_wp2_with fail;go_ret;exact⟨by rw[HT0.out];rfl,HW.out⟩
 ):p:=h
theorem zzf {p:Prop} (h:p:=by
 obtain rfl:m=k:=by omega
 have HT:Hid (l.take m=l):=Lib.hid (List.take_of_length_le (by rw[HL.out];exact Nat.le_refl _));have d1:=agX HC.out;rw[HT.out];obtain⟨D,hD⟩:∃D,jZ l=D:=⟨_,rfl⟩
 rw[hD] at d1 ⊢;have HD:=Lib.hid hD;clear hD;go_wp2_with fail;go_ret;exact⟨by rw[HD.out];go_num,HW.out⟩
 ):p:=h
theorem zzg {p:Prop} (h:p:=by
 obtain⟨h0,h1,h2,h3,h4,h5⟩:=h;exact⟨(hb.cell (p:=⟨g,0,none⟩) h5).trans h0,(hb.cell (p:=⟨g,1,none⟩) h5).trans h1,(hb.cell (p:=⟨g,2,none⟩) h5).trans h2,(hb.cell (p:=⟨g,3,none⟩) h5).trans h3,fun o=>(hb.frozen (p:=⟨g,o,none⟩) h5).trans (h4 o),Nat.lt_of_lt_of_le h5 hb.size⟩
 ):p:=h
theorem zzh {p:Prop} (h:p:=by
 have hr:r<k:=by have:=(Array.getElem?_eq_some_iff.1 hu).1;rwa [(hs hR).1] at this
 have hlt:i*k+r<l.length*k:=by
  have:=Nat.mul_le_mul_right k (show i+1<=l.length by omega);rw[Nat.add_mul] at this;omega
 rw[Nat.zero_add,h3.cellAt (i*k+r) hlt,KW hL hi2 hr];exact hu
 ):p:=h
theorem UM {p:Prop} (h:p:=by
 have h1:=HT.out;exact⟨⟨[],u1,HS.out,by unfold FU;omega,h1,by simp;omega,bZ.nil,(HR.out.low qe)⟩,by have bY:=HB.out;exact qe⟩
 ):p:=h
theorem UN {p:Prop} (h:p:=by
 have HW:=Lib.hid hrw;clear b2 o2 hrw HO;go_wp2_with fail;go_ret;exact PO.ok (dz HS) HB.out ⟨p,_,c,rfl,HW.out⟩ HR.out
 ):p:=h
theorem zzk {p:Prop} (h:p:=by
 obtain⟨h0,hl,h|⟨b,o,rfl,h1,h2⟩⟩:=h
 · exact⟨h0,hl,.inl h⟩
 · exact⟨h0,hl,.inr ⟨b,o,rfl,Nat.lt_of_lt_of_le h1 hb.size,Lib.hid fun i hi=>(hb.cell (p:=⟨b,o+i,none⟩) h1).trans (h2.out i hi)⟩⟩
 ):p:=h
theorem zzl {p:Prop} (h:p:=by
 gi_wp2
 refine⟨(EP ig.out).trans ((KeepsOthers.setCell _ _ _).from _),⟨rfl,v,hv0,JK.out,?_⟩,oN (lL.out.trans (ig.out.mono lL.out.size)) (by omega) _⟩;exact World.cell?_setCell_same' _ _ _ (by rw[g2];rfl)
 ):p:=h
theorem zzm {p:Prop} (h:p:=by
 obtain⟨h0,h1,h2,h3⟩:=h;exact⟨(hb.cell (p:=⟨g,0,none⟩) hg).trans h0,(hb.cell (p:=⟨g,1,none⟩) hg).trans h1,(hb.cell (p:=⟨g,2,none⟩) hg).trans h2,(hb.cell (p:=⟨g,3,none⟩) hg).trans h3⟩
 ):p:=h
theorem UO {p:Prop} (h:p:=by
 obtain⟨e1,e2,e3|⟨b',o',e,hlt,hc⟩⟩:=HT.out
 · have h1:=HG.out.ne;omega
 · cases e;exact hlt
 ):p:=h
theorem zzo {p:Prop} (h:p:=by
 go_wp2_with fail;refine(BG _ (HR.out.low qe)).mono ?_;rintro e TJ ⟨rfl,O0⟩;have bY:=HB.out;go_wp2_with fail;exact⟨rfl,DO.no (MN HS) (iw (by have q:Bt g _ TJ:=bS.of O0;exact qe))⟩
 ):p:=h
theorem Ea {p:Prop} (h:p:=by
 go_wp2_with fail;go_ret;exact⟨rfl,rfl⟩
 ):p:=h
theorem UQ {p:Prop} (h:p:=by
 unfold World.cell? at hc
 split at hc
 · rename_i h;exact(Array.getElem?_eq_some_iff.1 h).1
 all_goals cases hc
 ):p:=h
theorem Oa {p:Prop} (h:p:=by
 go_wp2_with fail;go_ret;exact⟨nN HR.out.symm,Below.refl _ _⟩
 ):p:=h
theorem UR {p:Prop} (h:p:=by
 refine(eX (i:=0) (v:=.int .i64 (hd u1).l) (cZ N1.out ?_)).get (r:=0) rfl;exact qe
 ):p:=h
theorem zzt {p:Prop} (h:p:=by
 go_wp2_with fail;go_roundw
 case rel=>exact⟨k+1,by omega,by go_num,Lib.hid (by have bY:=HW.out;exact bl),HN⟩
 case measure=>simp[intOf];omega
 ):p:=h
theorem zzu {p:Prop} (h:p:=by
 refine⟨fun {t u x} g e=>?_⟩
 cases hi:is s t with
 | true=>rw[Dw hi] at e;exact hA.out g e
 | false=>rw[vL hi] at e;exact hB.out g e
 ):p:=h
theorem zzv {p:Prop} (h:p:=by
 cases o with
 | none=>cases h
 | some i=>simp only[Option.map_some,Option.some.injEq,Prod.mk.injEq] at h;exact⟨i,rfl,h.1,h.2.1,h.2.2⟩
 ):p:=h
theorem UT {p:Prop} (h:p:=by
 show(w.heap.push _)[p.block]?=_
 rw[Array.getElem?_push,if_neg (by omega)]
 ):p:=h
theorem zzx {p:Prop} (h:p:=by
 rwa [show(w.alloc (.cells #[.string ⟨#[]⟩,.slice none 0 0,.slice none 0 0,.slice none 0 0] 40)).heap.size=w.heap.size+1 by simp] at h
 ):p:=h
theorem zzy {p:Prop} (h:p:=by
 refine Kj fun r hr=>?_;rw[World.cell?_alloc_mark,Nat.zero_add]
 match r,hr with
 | 0,_=>rfl
 | 1,_=>rfl
 | 2,_=>rfl
 | 3,_=>rfl
 ):p:=h
theorem Gc {p:Prop} (h:p:=by
 have KK:=KC.out;exact jI KK qe
 ):p:=h
theorem adI {p:Prop} (h:p:=by
 rintro e w3 ⟨rfl,rfl⟩;go_wp2_with fail;go_round
 case rel=>exact⟨k+1,by omega,by go_num,vY⟩
 case measure=>simp[intOf];omega
 ):p:=h
theorem adJ {p:Prop} (h:p:=by
 refine⟨fun {t u x} g e=>?_⟩;by_cases hi:(hd t).k=j
 · rw[EN hi] at e;exact hA.out g e
 · rw[yC hi] at e;exact hB.out g e
 ):p:=h
theorem Ux {p:Prop} (h:p:=by
 have bY:=HB.out;go_wp2_with fail;exact⟨rfl,PE.no (fw HS r1) qe⟩
 ):p:=h
theorem adK {p:Prop} (h:p:=by
 rwa [show(w.alloc (.cells #[.int .i64 0,.string ⟨#[]⟩,.int .i64 0,.slice none 0 0] 25)).heap.size=w.heap.size+1 by simp] at h
 ):p:=h
theorem Uy {p:Prop} (h:p:=by
 rintro e v1 ⟨rfl,hb1⟩;go_wp2_with fail;go_ret;exact⟨rfl,hb1⟩
 ):p:=h
theorem adL {p:Prop} (h:p:=by
 obtain rfl:n=k:=by omega
 have HR:=Lib.hid (aky HL.out HN.out);go_wp2_with fail;go_ret;exact⟨nN HR.out,rfl⟩
 ):p:=h
theorem Uz {p:Prop} (h:p:=by
 rw[beq_eq_false_iff_ne,Lib.toList_data,Lib.toList_data];exact h
 ):p:=h
theorem Jr {p:Prop} (h:p:=by
 rintro e w1 ⟨rfl,rfl⟩;exact Ag
 ):p:=h
theorem adM {p:Prop} (h:p:=by
 go_wp2_with fail;go_roundw
 case rel=>exact⟨k+1,by omega,HR,by go_num,HW2⟩
 case measure=>simp[intOf];omega
 ):p:=h
theorem NS {p:Prop} (h:p:=by
 go_wp2_with fail;go_ret;exact⟨rfl,0,rfl⟩
 ):p:=h
theorem adN {p:Prop} (h:p:=by
 go_wp2_with fail;go_ret;exact⟨lC (by simp only[qy,h0,h1,h2,h3,Bool.false_and,Bool.and_false]),bq⟩
 ):p:=h
theorem Js {p:Prop} (h:p:=by
 have KK:=KN.out;exact jI KK qe
 ):p:=h
theorem NT {p:Prop} (h:p:=by
 go_enter Tryz.func90,Tryz.ntmps90;exact Ag
 ):p:=h
theorem UA {p:Prop} (h:p:=by
 exact FO.no HK.out (oh (by have BB:=B1.out;exact qe))
 ):p:=h
theorem adO {p:Prop} (h:p:=by
 go_wp2_with fail;go_ret;exact⟨lC (by simp only[qy,h0,h1,h2,Bool.false_and,Bool.and_false]),bq⟩
 ):p:=h
theorem adP {p:Prop} (h:p:=by
 intro j hj hl;rcases Nat.lt_or_ge j k with h1|h1
 · exact h j h1 hl
 · obtain rfl:j=k:=by omega
   exact e
 ):p:=h
theorem adQ {p:Prop} (h:p:=by
 rw[Lib.toList_data]
 show(bs s).isEmpty=false
 cases g:bs s with
 | nil=>exact absurd g h
 | cons x t=>rfl
 ):p:=h
theorem adR {p:Prop} (h:p:=by
 go_wp2_with fail;go_ret;exact⟨lC (by simp only[qy,h0,h1,Bool.false_and,Bool.and_false]),bq⟩
 ):p:=h
theorem UB {p:Prop} (h:p:=by
 go_wp2_with fail;go_ret;exact⟨nN HR.out.symm,hb2⟩
 ):p:=h
theorem NU {p:Prop} (h:p:=by
 go_wp2_with fail;go_ret;exact⟨rfl,bq⟩
 ):p:=h
theorem adS {p:Prop} (h:p:=by
 exact results_cell_row rfl _ _ w.heap.size 219 _ (0,0) _ rfl gQ.out Tryz.underlying219 rfl (by kernel_rfl)
 ):p:=h
theorem adT {p:Prop} (h:p:=by
 rw[hfair.trans (show _=(2:Int) by rw[hR];rfl),if_neg (by decide)];clear hkn hnm hct hnb hA hB hfair hs0 hR hM;go_enter Tryz.func22,Tryz.ntmps22;go_wp2_with (first|(go_at_call 43;refine(HA.out _).mono ?_;rintro e w1 ⟨rfl,rfl⟩)|(go_at_call 44;refine(HB.out _).mono ?_;rintro e w1 ⟨rfl,rfl⟩))
 go_quiet ((go_at_call 46;exact Calls.quiet_of_same (Ee.out _)))
 exact dX
 ):p:=h
theorem adU {p:Prop} (h:p:=by
 rw[hfair.trans (show _=(2:Int) by rw[hR];rfl),if_neg (by decide)];clear hkn hnm hct hnb hA hB hfair hs0 hR h2 hn0 hn1;go_enter Tryz.func22,Tryz.ntmps22;go_wp2_with (first|(go_at_call 43;refine(HA.out _).mono ?_;rintro e w1 ⟨rfl,rfl⟩)|(go_at_call 44;refine(HB.out _).mono ?_;rintro e w1 ⟨rfl,rfl⟩))
 go_quiet (fail)
 exact dX
 ):p:=h
theorem adV {p:Prop} (h:p:=by
 obtain⟨l0,l1,l2,l3,-⟩:=dM Y.out;obtain⟨y0,y1,y2,y3,fz⟩:=dM Z.out;go_wp2_with fail;have bY:=HB.out;refine bodyPost_ret (v:=.agg (cu (x1) (p1) m1 c1)) ?_ rfl (PO.ok (dz HS) qe ⟨(p1),m1,c1,rfl,?_⟩ (HR.out.low qe))
 · exact Al
 · have KK:=d_.out;exact jI KK qe
 ):p:=h
theorem adW {p:Prop} (h:p:=by
 obtain rfl:m=k:=by omega
 have HR:Hid (jU l l2=true):=Lib.hid (by
  have h1:=HT0.out;rw[List.take_of_length_le (by rw[HL.out];exact Nat.le_refl _),List.take_of_length_le (by rw[HL2.out];exact Nat.le_refl _)] at h1;rw[h1];exact IQ _)
 exact N_
 ):p:=h
theorem D8 {p:Prop} (h:p:=by
 rintro e w2 ⟨rfl,hb2⟩;exact dX
 ):p:=h
theorem UC {p:Prop} (h:p:=by
 go_wp2_with fail;refine(CB.out _).mono ?_;rintro e w2 ⟨rfl,rfl⟩;exact dX
 ):p:=h
theorem F9 {p:Prop} (h:p:=by
 rintro e w1 ⟨rfl,hb1⟩;exact dX
 ):p:=h
theorem Jt {p:Prop} (h:p:=by
 rintro e v1 ⟨rfl,hb1⟩;exact dX
 ):p:=h
theorem bR {p:Prop} (h:p:=by decide):p:=h
theorem bT {p:Prop} (h:p:=by omega):p:=h
theorem dx {p:Prop} (h:p:=by kernel_rfl):p:=h
theorem cK {p:Prop} (h:p:=by simp):p:=h
theorem qG {p:Prop} (h:p:=by have bY:=HW.out;exact bl):p:=h
theorem nT {p:Prop} (h:p:=by have:=HL.out;omega):p:=h
theorem x_ {p:Prop} (h:p:=by rw[HL.out];exact Nat.le_refl _):p:=h
theorem yc {p:Prop} (h:p:=by rw[List.take_zero,eD,bad]):p:=h
theorem BL {p:Prop} (h:p:=by have:=o4.blk b hb;show ¬b<=g;omega):p:=h
theorem UE {p:Prop} (h:p:=by have bY:=HB.out;have q1:=hb3;have q:bS (fun k=>k<w.heap.size) _ w3:=bS.of q1;exact qe):p:=h
theorem Ju {p:Prop} (h:p:=by have h:=HS.out;rw[← HK.out] at h;exact h):p:=h
theorem F_ {p:Prop} (h:p:=by simp[Act.eval,Array.replicate]):p:=h
theorem NV {p:Prop} (h:p:=by intro q hq;exact hu _ (by revert q;decide)):p:=h
theorem UF {p:Prop} (h:p:=by have h:0<(y::l).length:=Nat.zero_lt_succ _;omega):p:=h
theorem za {p:Prop} (h:p:=by simp;omega):p:=h
theorem UG {p:Prop} (h:p:=by have h1:=BP.out.2;have h2:=HN.out;omega):p:=h
theorem NW {p:Prop} (h:p:=by rwa [Array.getElem?_toList] at hv):p:=h
theorem Ga {p:Prop} (h:p:=by unfold maxLen;omega):p:=h
theorem Gb {p:Prop} (h:p:=by rw[fJ];exact h):p:=h
theorem NY {p:Prop} (h:p:=by rw[HL.out,HL2.out];exact hmm):p:=h
end
end Go.Proofs.YtkpekhpgdajabaaGreatDoor
