/-
  Closing tactics of this proof, by name.
-/
import Derived.ArgAppend
import Derived.BigQuiet
import Derived.ChangeKeysEq
import Derived.ChangeSame
import Derived.Deep.CutBlock
import Derived.Deep.CutRange
import Derived.Deep.DeepCutAuto
import Derived.Deep.Fields
import Derived.Deep.MidRow
import Derived.Deep.QuietTactic
import Derived.Deep.RegionHeld3
import Derived.Deep.RegionLaw
import Derived.Deep.RegionWith
import Derived.Deep.Slices
import Derived.Deep.TreeCalls
import Derived.Deep.WholeRow
import Derived.DeepKeys4
import Derived.Defers
import Derived.Great.BuildSlice
import Derived.JoinedCond
import Derived.LaidHandle
import Derived.LaidMore
import Derived.Laws.Cover1
import Derived.Laws.OwnMore
import Derived.Laws.Strings3
import Derived.Lib.AppendZeros
import Derived.Lib.AtoiAll
import Derived.Lib.Bytealg
import Derived.Lib.Hide
import Derived.Lib.ItoaNum
import Derived.Lib.LaidTab
import Derived.Lib.OthersKept
import Derived.Lib.OwnBridge
import Derived.Lib.RowBridge
import Derived.Lib.SliceRun
import Derived.Lib.SlicesCompact
import Derived.Lib.SmallJoins
import Derived.LoopIn
import Derived.LoopNIn
import Derived.LoopTactic
import Derived.MakeChecks
import Derived.Maps.AppendAt
import Derived.Maps.OwnSet
import Derived.Maps.RangeWalk
import Derived.OpenShut
import Derived.OrdersHeld
import Derived.Outline
import Derived.OwnWalk
import Derived.OwnWalkIn
import Derived.ProofKit
import Derived.RangeFuncBound
import Derived.RangeFuncBox
import Derived.RangeFuncCalls
import Derived.RangeFuncLeaves
import Derived.RangeFuncNested
import Derived.RangeFuncRecord
import Derived.Recover
import Derived.RegionTactic
import Derived.SevenTiedAt
import Derived.Shelf.Abstract
import Derived.Shelf.LaysC
import Derived.Shelf.LaysM
import Derived.Shelf.Strconv.Atoi
import Derived.Shelf.Strconv.AtoiAll
import Derived.Shelf.Strconv.AtoiErrFast
import Derived.Shelf.Strconv.AtoiFail
import Derived.Shelf.Strconv.AtoiInnerAll
import Derived.Shelf.Strconv.AtoiLong
import Derived.Shelf.Strconv.Clone
import Derived.Shelf.Strconv.ErrVarAll
import Derived.Shelf.Strconv.Itoa0
import Derived.Shelf.Strconv.Itoa1
import Derived.Shelf.Strconv.Itoa2
import Derived.Shelf.Strconv.Itoa3
import Derived.Shelf.Strconv.Lower
import Derived.Shelf.Strconv.ParseInt10
import Derived.Shelf.Strconv.ParseIntEmpty
import Derived.Shelf.Strconv.ParseUint10
import Derived.Shelf.Strconv.ParseUint10Any
import Derived.Shelf.Strconv.ParseUint10Empty
import Derived.Shelf.Strconv.RangeError
import Derived.Shelf.Strconv.SyntaxError
import Derived.Shelf.Strconv.ToError
import Derived.Shelf.Strconv.ToErrorRange
import Derived.SizedLaws
import Derived.SliceStrings
import Derived.Sort.EncStr
import Derived.Sort.OwnSorted
import Derived.StillTailTactics
import Derived.Stop.Joined
import Derived.TacticsInMore
import Derived.WalkKit
import Derived.WalkLawsBesides
import Derived.WalkMore
import Derived.WalkSpells
set_option linter.unusedVariables false
open Go.RowKit
namespace Go.Proofs.YthnillhnjhalmaaGreatDoor
section
theorem dS {p:Prop} (h:p:=by
 go_wp2_with fail;go_ret;exact⟨rfl,bl⟩
 ):p:=h
theorem sJ {p:Prop} (h:p:=by
 exact results_cell_row rfl _ _ w.heap.size 26 _ (0,0) _ rfl (mi Z.out rfl) Tryz.underlying26 rfl (by kernel_rfl)
 ):p:=h
theorem CG {p:Prop} (h:p:=by
 go_enter Tryz.func79,Tryz.ntmps79;go_wp2_with (first|(go_at_call 128;refine(HA.out _).mono ?_;rintro e w1 ⟨rfl,rfl⟩)|(go_at_call 129;refine(HB.out _).mono ?_;rintro e w1 ⟨rfl,rfl⟩))
 go_ret;exact⟨rfl,bl⟩
 ):p:=h
theorem Wn {p:Prop} (h:p:=by
 rw[hE] at HI1 Ia HE;clear hE;go_wp2_with fail;refine HI1.mono ?_;rintro e w2 ⟨rfl,hb2⟩;have HW2:Hid (Below w.heap.size w w2):=Lib.hid (by have bZ:=HW.out;exact bl);have y8:=Lib.hid (iH.out.on hb2);clear hb2 HI1;by_cases hE0:E=0
 · subst hE0;have HR:=HE.out;have HR2:=Lib.hid HR;clear HR;go_wp2_with fail;go_roundw
   case rel=>exact⟨k+1,by omega,HR2,by go_num,HW2,y8⟩
   case measure=>simp[intOf];omega
 · have e1:(E==0)=false:=beq_eq_false_iff_ne.2 hE0;have HR:=Lib.hid (Ia.out hE0);go_wp2_with fail;go_ret;exact⟨by rw[HR.out];rfl,HW2.out⟩
 ):p:=h
theorem Wo {p:Prop} (h:p:=by
 clear o4 Fx o5 hg5 HB HR HO HY;go_wp2_with (at_builtin;refine Lib.wpList_append_run _ rfl _ _ _ _ rfl _ _ rfl rfl _ _ hrun ?_)
 go_roundg k
 case measure=>omega
 case rel=>
  have h0:=Dc.out.2;have h1:=oO.out;have h2:=HK.out;have h3:=HN.out;have h4:=HL.out;exact⟨⟨_,u4,HS.out,by omega,by omega,by simp at h4 ⊢; omega,O5.out,R5.out⟩,B5.out⟩
 ):p:=h
theorem zz5 {p:Prop} (h:p:=by
 rw[hE] at HI1 HS HE;clear hE;have hb1:b'<wr.heap.size:=Nat.lt_of_lt_of_le hG' HW.out.size;go_wp2_with fail;go_region_with (go_at_call 7;refine(HI1.out _ (ng.out.on (by have bZ:=HW.out;exact bl)) (Lh.out.on (by have bZ:=HW.out;exact bl))).mono ?_;rintro e w2 ⟨rfl,hb2⟩)
 all_goals
  have HW2:Hid (Below w.heap.size w w2):=Lib.hid (by have bZ:=HW.out;exact bl);clear hb2 HI1
  cases E with
  | true=>
   have HR:=Lib.hid (HE.out rfl HT0.out);go_wp2_with fail;go_roundw
   case rel=>exact⟨k+1,by omega,HR,by go_num,HW2⟩
   case measure=>simp[intOf];omega
  | false=>
   have HR:=Lib.hid (HS.out rfl);go_wp2_with fail;go_ret;exact⟨by rw[HR.out];rfl,HW2.out⟩
 ):p:=h
theorem Wp {p:Prop} (h:p:=by
 clear o4 c4 o5 hg5 HB HR HO HY;go_wp2_with (at_builtin;refine Lib.wpList_append_run _ rfl _ _ _ _ rfl _ _ rfl rfl _ _ hrun ?_)
 go_roundg k
 case measure=>omega
 case rel=>
  have h1:=oO.out;have h2:=HK.out;have h3:=HN.out;have h4:=HL.out;exact⟨⟨_,u3,HS.out,by omega,by omega,by simp at h4 ⊢; omega,O5.out,R5.out⟩,B5.out⟩
 ):p:=h
theorem Wq {p:Prop} (h:p:=by
 obtain⟨k,hk,HT0,rfl,HW,iH⟩:=hrel;obtain⟨b0,b1,b2,b3⟩:=iH.out;obtain rfl:k=0:=by omega
 have hl0:l=[]:=List.length_eq_zero_iff.1 HL.out;have HR:Hid (bad false (fA l)=0):=Lib.hid (by rw[hl0,fA,bad]);clear hl0;go_wp2_with fail;go_ret;exact⟨by rw[HR.out];rfl,HW.out⟩
 ):p:=h
theorem Ws {p:Prop} (h:p:=by
 obtain⟨k,hk,HT0,rfl,HW,iH⟩:=hrel;obtain⟨b0,b1,b2,b3⟩:=iH.out;obtain rfl:k=0:=by omega
 have hl0:l=[]:=List.length_eq_zero_iff.1 HL.out;have HR:Hid (bad true (fA l)=0):=Lib.hid (by rw[hl0,fA,bad]);clear hl0;go_wp2_with fail;go_ret;exact⟨by rw[HR.out];rfl,HW.out⟩
 ):p:=h
theorem EX {p:Prop} (h:p:=by
 exact results_cell_row rfl _ _ w.heap.size 58 _ (0,0) _ rfl ig.out Tryz.underlying58 rfl (by kernel_rfl)
 ):p:=h
theorem K7 {p:Prop} (h:p:=by
 go_wp2_with fail;go_ret;exact⟨by rw[HR.out];rfl,HW.out⟩
 ):p:=h
theorem zzb {p:Prop} (h:p:=by
 have Lp:=Lib.hid (kg.out _ _ r9);replace HS:=fB HS r9;replace HB:Hid (Bt g w w9):=Lib.hid (by have bZ:=HB.out;exact bT.call (S':=fun k=>k<w.heap.size/\¬k=g) bZ b9 (fun k hk hs=>⟨hk,hs⟩));replace HD:=Lib.hid D9;replace HR:=Lib.hid R9;clear D9 R9 b9 r9 h9 HM HX kg;go_wp2_with fail;go_roundg k
 case measure=>omega
 case rel=>
  obtain⟨c,h1,h2,h3⟩:=Lp.out;exact⟨⟨y9,V9,d+c,u9,HS.out,by have:=HKK.out;omega,h3,by have:=HL.out;omega,HD.out,HR.out⟩,HB.out⟩
 ):p:=h
theorem zzc {p:Prop} (h:p:=by
 have hb:(x.k != k)=true:=by simp[h]
 have HK:=Lib.hid h;clear hR l1 l2 l3 l4 hx hj h;go_enter Tryz.func67,Tryz.ntmps67;go_wp2_with fail;refine(C1.out _ bl).mono ?_;rintro e w1 ⟨rfl,hb1⟩;have hB1:Below w.heap.size w w1:=bl;have HB1:=Lib.hid hB1;clear hb1 hB1;go_wp2_with fail;refine(C2.out _ (by have bZ:=HB1.out;exact bl)).mono ?_;rintro e w2 ⟨rfl,hb2⟩;go_wp2_with fail;refine⟨rfl,?_,.inr ⟨by rw[HX.out];exact HK.out,by rw[HX.out];rfl⟩⟩;exact bT.of (by have bZ:=HB1.out;exact bl)
 ):p:=h
theorem Wt {p:Prop} (h:p:=by
 unfold fZ J9 at h;simp only[List.contains_eq_mem,List.mem_cons,List.not_mem_nil,or_false,decide_eq_true_eq] at h;rcases h with rfl|rfl|rfl|rfl|rfl|rfl|rfl|rfl|rfl|rfl|rfl|rfl|rfl|rfl|rfl|rfl <;> decide
 ):p:=h
theorem Wu {p:Prop} (h:p:=by
 obtain rfl:m=k:=by omega
 have HT:Hid (l.take m=l):=Lib.hid (List.take_of_length_le (by rw[HL.out];exact Nat.le_refl _));rw[HT.out] at HT0;go_wp2_with fail;go_ret;exact⟨by rw[HT0.out];rfl,HW.out⟩
 ):p:=h
theorem zzf {p:Prop} (h:p:=by
 obtain rfl:m=k:=by omega
 have HT:Hid (l.take m=l):=Lib.hid (List.take_of_length_le (by rw[HL.out];exact Nat.le_refl _));have d1:=air HC.out;rw[HT.out];obtain⟨D,hD⟩:∃D,kI l=D:=⟨_,rfl⟩
 rw[hD] at d1 ⊢;have HD:=Lib.hid hD;clear hD;go_wp2_with fail;go_ret;exact⟨by rw[HD.out];go_num,HW.out⟩
 ):p:=h
theorem zzg {p:Prop} (h:p:=by
 obtain⟨h0,h1,h2,h3,h4,h5⟩:=h;exact⟨(hb.cell (p:=⟨g,0,none⟩) h5).trans h0,(hb.cell (p:=⟨g,1,none⟩) h5).trans h1,(hb.cell (p:=⟨g,2,none⟩) h5).trans h2,(hb.cell (p:=⟨g,3,none⟩) h5).trans h3,fun o=>(hb.frozen (p:=⟨g,o,none⟩) h5).trans (h4 o),Nat.lt_of_lt_of_le h5 hb.size⟩
 ):p:=h
theorem zzh {p:Prop} (h:p:=by
 have hr:r<k:=by have:=(Array.getElem?_eq_some_iff.1 hu).1;rwa [(hs hR).1] at this
 have hlt:i*k+r<l.length*k:=by
  have:=Nat.mul_le_mul_right k (show i+1<=l.length by omega);rw[Nat.add_mul] at this;omega
 rw[Nat.zero_add,h3.cellAt (i*k+r) hlt,MJ hL hi2 hr];exact hu
 ):p:=h
theorem Wv {p:Prop} (h:p:=by
 have h1:=HT.out;exact⟨⟨[],u1,HS.out,by unfold FU;omega,h1,by simp;omega,cu.nil,(HR.out.low qe)⟩,by have bZ:=HB.out;exact qe⟩
 ):p:=h
theorem zzj {p:Prop} (h:p:=by
 go_wp2_with fail
 all_goals first
  | exact(clash (by assumption) (by assumption)).elim
  | (go_ret;exact⟨lJ (aoW (by assumption) (by decide)),rfl⟩)
  | (go_ret;exact⟨lJ (by rw[aoV];simp only[J9,List.any_cons,List.any_nil,Bool.or_false, *]),rfl⟩)
 ):p:=h
theorem Ww {p:Prop} (h:p:=by
 rintro e w3 ⟨rfl,rfl⟩;go_wp2_with fail;go_round
 case rel=>exact⟨k+1,by omega,by go_num,oP⟩
 case measure=>simp[intOf];omega
 ):p:=h
theorem zzl {p:Prop} (h:p:=by
 go_wp2_with fail;go_region
 go_wp2_with fail;refine bodyPost_ret (v:=.agg #[.int .i64 x.k,.string x.t,.int .i64 x.n,.int .i64 x.l]) ?_ rfl ⟨rfl,bl⟩;refine results_cell_row rfl _ _ w.heap.size 87 _ (0,0) _ rfl ?_ Tryz.underlying87 rfl (by kernel_rfl);exact bX.new
 ):p:=h
theorem Wx {p:Prop} (h:p:=by
 have HW:=Lib.hid hrw;clear b2 o2 hrw HO;go_wp2_with fail;go_ret;exact PO.ok (dD HS) HB.out ⟨p,_,c,rfl,HW.out⟩ HR.out
 ):p:=h
theorem CQ {p:Prop} (h:p:=by
 go_wp2_with fail;go_ret;exact⟨rfl,rfl⟩
 ):p:=h
theorem Wy {p:Prop} (h:p:=by
 obtain⟨h0,hl,h|⟨b,o,rfl,h1,h2⟩⟩:=h
 · exact⟨h0,hl,.inl h⟩
 · exact⟨h0,hl,.inr ⟨b,o,rfl,Nat.lt_of_lt_of_le h1 hb.size,Lib.hid fun i hi=>(hb.cell (p:=⟨b,o+i,none⟩) h1).trans (h2.out i hi)⟩⟩
 ):p:=h
theorem zzp {p:Prop} (h:p:=by
 gi_wp2
 refine⟨(F_ iH.out).trans ((KeepsOthers.setCell _ _ _).from _),⟨rfl,v,hv0,Lm.out,?_⟩,pq (mg.out.trans (iH.out.mono mg.out.size)) (by omega) _⟩;exact World.cell?_setCell_same' _ _ _ (by rw[g2];rfl)
 ):p:=h
theorem zzq {p:Prop} (h:p:=by
 obtain⟨h0,h1,h2,h3⟩:=h;exact⟨(hb.cell (p:=⟨g,0,none⟩) hg).trans h0,(hb.cell (p:=⟨g,1,none⟩) hg).trans h1,(hb.cell (p:=⟨g,2,none⟩) hg).trans h2,(hb.cell (p:=⟨g,3,none⟩) hg).trans h3⟩
 ):p:=h
theorem zzr {p:Prop} (h:p:=by
 exact⟨e1,e2,.inr ⟨L.b,L.o,rfl,Nat.lt_of_lt_of_le hb hbl.size,Lib.hid fun i hi=>by
  obtain⟨q0,q1,q2,q3⟩:=hc.out i hi;exact⟨(hk _).trans q0,(hk _).trans q1,(hk _).trans q2,(hk _).trans q3⟩⟩⟩
 ):p:=h
theorem Wz {p:Prop} (h:p:=by
 obtain⟨e1,e2,e3|⟨b',o',e,hlt,hc⟩⟩:=HT.out
 · have h1:=HG.out.ne;omega
 · cases e;exact hlt
 ):p:=h
theorem WA {p:Prop} (h:p:=by
 intro j hj hl;rcases Nat.lt_or_ge j k with h1|h1
 · exact h j h1 hl
 · obtain rfl:j=k:=by omega
   exact e
 ):p:=h
theorem zzu {p:Prop} (h:p:=by
 go_wp2_with fail;refine(Cw _ (HR.out.low qe)).mono ?_;rintro e U4 ⟨rfl,Qz⟩;have bZ:=HB.out;go_wp2_with fail;exact⟨rfl,DO.no (Oe HS) (iK (by have q:Bt g _ U4:=bT.of Qz;exact qe))⟩
 ):p:=h
theorem WB {p:Prop} (h:p:=by
 unfold World.cell? at hc
 split at hc
 · rename_i h;exact(Array.getElem?_eq_some_iff.1 h).1
 all_goals cases hc
 ):p:=h
theorem zzw {p:Prop} (h:p:=by
 exact Ex.bW.map (by simp) (fun b hb hlt=>⟨⟨by have:w.heap.size+1<=b:=hb;omega,by omega⟩,by show(w1.heap.push _)[b]?=_;rw[Array.getElem?_push,if_neg (by omega)]⟩) x1 K1.out
 ):p:=h
theorem zzx {p:Prop} (h:p:=by
 have h1:=h.gd.ne;have h2:t.length<=L.l.length:=by
  have:=congrArg List.length h.drop;rw[List.length_drop] at this;unfold Lk.at at this;omega
 have h3:=h.toks.1;unfold Lk.at;omega
 ):p:=h
theorem PH {p:Prop} (h:p:=by
 go_wp2_with fail;go_ret;exact⟨nZ HR.out.symm,Below.refl _ _⟩
 ):p:=h
theorem WC {p:Prop} (h:p:=by
 refine(eX (i:=0) (v:=.int .i64 (hd u1).l) (cO N1.out ?_)).get (r:=0) rfl;exact qe
 ):p:=h
theorem ae9 {p:Prop} (h:p:=by
 go_wp2_with fail;go_roundw
 case rel=>exact⟨k+1,by omega,by go_num,Lib.hid (by have bZ:=HW.out;exact bl),HN⟩
 case measure=>simp[intOf];omega
 ):p:=h
theorem ae_ {p:Prop} (h:p:=by
 refine⟨fun {t u x} g e=>?_⟩
 cases hi:is s t with
 | true=>rw[Ez hi] at e;exact hA.out g e
 | false=>rw[Ey hi] at e;exact hB.out g e
 ):p:=h
theorem afa {p:Prop} (h:p:=by
 have h5:eG ((bs s).drop q) a n=eG (((bs s).drop q).drop (dm gL ((bs s).drop q))) a n:=by rw[hd];exact alp
 rw[h5,List.drop_drop]
 ):p:=h
theorem afb {p:Prop} (h:p:=by
 cases o with
 | none=>cases h
 | some i=>simp only[Option.map_some,Option.some.injEq,Prod.mk.injEq] at h;exact⟨i,rfl,h.1,h.2.1,h.2.2⟩
 ):p:=h
theorem afc {p:Prop} (h:p:=by
 rintro e w2 ⟨rfl,q2,R2⟩;go_wp2_with fail
 (first|go_end0|refine bodyPost_ret (results_none rfl _ _ _) rfl ?_)
 exact QO.mk rfl qe R2 HL.out
 ):p:=h
theorem afd {p:Prop} (h:p:=by
 show(w.heap.push _)[p.block]?=_
 rw[Array.getElem?_push,if_neg (by omega)]
 ):p:=h
theorem VV {p:Prop} (h:p:=by
 rwa [show(w.alloc (.cells #[.string ⟨#[]⟩,.slice none 0 0,.slice none 0 0,.slice none 0 0] 36)).heap.size=w.heap.size+1 by simp] at h
 ):p:=h
theorem afe {p:Prop} (h:p:=by
 refine Q9 fun r hr=>?_;rw[World.cell?_alloc_mark,Nat.zero_add]
 match r,hr with
 | 0,_=>rfl
 | 1,_=>rfl
 | 2,_=>rfl
 | 3,_=>rfl
 ):p:=h
theorem aff {p:Prop} (h:p:=by
 have KK:=KC.out;exact iQ KK qe
 ):p:=h
theorem Ho {p:Prop} (h:p:=by
 first|(go_simp;done)|(go_simp;with_reducible rfl)
 ):p:=h
theorem Pq {p:Prop} (h:p:=by
 refine c.mono ?_;rintro e w' ⟨rfl,h⟩;exact ok w' (bT.of h) h (Lib.hid (HR.out.low (hr.trans (bT.of h)))) (Lib.hid (hb.trans (bT.of h)))
 ):p:=h
theorem afg {p:Prop} (h:p:=by
 refine⟨fun {t u x} g e=>?_⟩;by_cases hi:(hd t).k=j
 · rw[BO hi] at e;exact hA.out g e
 · rw[DX hi] at e;exact hB.out g e
 ):p:=h
theorem afh {p:Prop} (h:p:=by
 have bZ:=HB.out;go_wp2_with fail;exact⟨rfl,PE.no (fI HS r1) qe⟩
 ):p:=h
theorem VW {p:Prop} (h:p:=by
 rwa [show(w.alloc (.cells #[.int .i64 0,.string ⟨#[]⟩,.int .i64 0,.slice none 0 0] 26)).heap.size=w.heap.size+1 by simp] at h
 ):p:=h
theorem afi {p:Prop} (h:p:=by
 rintro e v1 ⟨rfl,hb1⟩;go_wp2_with fail;go_ret;exact⟨rfl,hb1⟩
 ):p:=h
theorem VY {p:Prop} (h:p:=by
 unfold qV
 split
 · omega
 · split
   · rename_i g2
     have:=Jf g2;rw[List.length_take] at this;omega
   · omega
 ):p:=h
theorem afj {p:Prop} (h:p:=by
 obtain rfl:n=k:=by omega
 have HR:=Lib.hid (al8 HL.out HN.out);go_wp2_with fail;go_ret;exact⟨nZ HR.out,rfl⟩
 ):p:=h
theorem afk {p:Prop} (h:p:=by
 rw[beq_eq_false_iff_ne,Lib.toList_data,Lib.toList_data];exact h
 ):p:=h
theorem VZ {p:Prop} (h:p:=by
 rintro e w1 ⟨rfl,rfl⟩;exact as7
 ):p:=h
theorem KU {p:Prop} (h:p:=by
 go_wp2_with fail;go_roundw
 case rel=>exact⟨k+1,by omega,HR,by go_num,HW2⟩
 case measure=>simp[intOf];omega
 ):p:=h
theorem afl {p:Prop} (h:p:=by
 go_wp2_with fail;go_ret;exact⟨rfl,0,rfl⟩
 ):p:=h
theorem Pt {p:Prop} (h:p:=by
 go_wp2_with fail;go_ret;exact⟨lJ (by simp only[qU,h0,h1,h2,h3,Bool.false_and,Bool.and_false]),bq⟩
 ):p:=h
theorem afm {p:Prop} (h:p:=by
 have KK:=KN.out;exact iQ KK qe
 ):p:=h
theorem KW {p:Prop} (h:p:=by
 go_enter Tryz.func92,Tryz.ntmps92;exact as7
 ):p:=h
theorem Pv {p:Prop} (h:p:=by
 intro q hq;simp only[List.mem_cons,List.not_mem_nil,or_false] at hq;rcases hq with rfl <;> exact no _ (by decide)
 ):p:=h
theorem afn {p:Prop} (h:p:=by
 exact FO.no HK.out (lU (by have BB:=B1.out;exact qe))
 ):p:=h
theorem V_ {p:Prop} (h:p:=by
 go_wp2_with fail;go_ret;exact⟨lJ (by simp only[qU,h0,h1,h2,Bool.false_and,Bool.and_false]),bq⟩
 ):p:=h
theorem afo {p:Prop} (h:p:=by
 rw[← Bool.not_eq_true,List.all_eq_true];intro g;have:=g _ (List.getElem_mem hk);rw[h] at this;cases this
 ):p:=h
theorem afp {p:Prop} (h:p:=by
 rw[Lib.toList_data]
 show(bs s).isEmpty=false
 cases g:bs s with
 | nil=>exact absurd g h
 | cons x t=>rfl
 ):p:=h
theorem afq {p:Prop} (h:p:=by
 go_wp2_with fail;go_ret;exact⟨lJ (by simp only[qU,h0,h1,Bool.false_and,Bool.and_false]),bq⟩
 ):p:=h
theorem afr {p:Prop} (h:p:=by
 go_wp2_with fail;go_ret;exact⟨nZ HR.out.symm,hb2⟩
 ):p:=h
theorem Wd {p:Prop} (h:p:=by
 go_wp2_with fail;go_ret;exact⟨rfl,bq⟩
 ):p:=h
theorem Pw {p:Prop} (h:p:=by
 exact results_cell_row rfl _ _ w.heap.size 214 _ (0,0) _ rfl ig.out Tryz.underlying214 rfl (by kernel_rfl)
 ):p:=h
theorem afs {p:Prop} (h:p:=by
 rw[hfair.trans (show _=(2:Int) by rw[hR];rfl),if_neg (by decide)];clear hkn hnm hct hnb hA hB hfair hs0 hR hM;go_enter Tryz.func79,Tryz.ntmps79;go_wp2_with (first|(go_at_call 128;refine(HA.out _).mono ?_;rintro e w1 ⟨rfl,rfl⟩)|(go_at_call 129;refine(HB.out _).mono ?_;rintro e w1 ⟨rfl,rfl⟩))
 go_quiet ((go_at_call 131;exact Calls.quiet_of_same (E_.out _)))
 exact dS
 ):p:=h
theorem aft {p:Prop} (h:p:=by
 rw[hfair.trans (show _=(2:Int) by rw[hR];rfl),if_neg (by decide)];clear hkn hnm hct hnb hA hB hfair hs0 hR h2 hn0 hn1;go_enter Tryz.func79,Tryz.ntmps79;go_wp2_with (first|(go_at_call 128;refine(HA.out _).mono ?_;rintro e w1 ⟨rfl,rfl⟩)|(go_at_call 129;refine(HB.out _).mono ?_;rintro e w1 ⟨rfl,rfl⟩))
 go_quiet (fail)
 exact dS
 ):p:=h
theorem afu {p:Prop} (h:p:=by
 obtain⟨l0,l1,l2,l3,-⟩:=df Y.out;obtain⟨y0,y1,y2,y3,fz⟩:=df Z.out;go_wp2_with fail;have bZ:=HB.out;refine bodyPost_ret (v:=.agg (b_ (x1) (p1) m1 c1)) ?_ rfl (PO.ok (dD HS) qe ⟨(p1),m1,c1,rfl,?_⟩ (HR.out.low qe))
 · exact sJ
 · have KK:=eB.out;exact iQ KK qe
 ):p:=h
theorem afv {p:Prop} (h:p:=by
 obtain rfl:m=k:=by omega
 have HR:Hid (jY l l2=true):=Lib.hid (by
  have h1:=HT0.out;rw[List.take_of_length_le (by rw[HL.out];exact Nat.le_refl _),List.take_of_length_le (by rw[HL2.out];exact Nat.le_refl _)] at h1;rw[h1];exact J6 _)
 exact K7
 ):p:=h
theorem Px {p:Prop} (h:p:=by
 go_wp2_with fail;refine(C1.out _ bl).mono ?_;rintro e w1 ⟨rfl,hb1⟩;exact dS
 ):p:=h
theorem KY {p:Prop} (h:p:=by
 rintro e w1 ⟨rfl,hb1⟩;exact dS
 ):p:=h
theorem CJ {p:Prop} (h:p:=by
 rintro e w2 ⟨rfl,hb2⟩;exact dS
 ):p:=h
theorem We {p:Prop} (h:p:=by
 go_wp2_with fail;refine(CB.out _).mono ?_;rintro e w2 ⟨rfl,rfl⟩;exact dS
 ):p:=h
theorem KZ {p:Prop} (h:p:=by
 rintro e v1 ⟨rfl,hb1⟩;exact dS
 ):p:=h
theorem bS {p:Prop} (h:p:=by decide):p:=h
theorem bU {p:Prop} (h:p:=by omega):p:=h
theorem dA {p:Prop} (h:p:=by kernel_rfl):p:=h
theorem cz {p:Prop} (h:p:=by simp):p:=h
theorem afw {p:Prop} (h:p:=by(repeat (first|(with_reducible exact Below.refl _ _)|(with_reducible assumption)|(with_reducible apply iw)|(with_reducible apply vN)|(with_reducible apply rC)|(with_reducible refine zf ?_ (by first|(simp;done)|(simp;omega)) _)|(with_reducible refine sQ ?_ (by assumption))))):p:=h
theorem rq {p:Prop} (h:p:=by have bZ:=HW.out;exact bl):p:=h
theorem t_ {p:Prop} (h:p:=by rw[HL.out];exact Nat.le_refl _):p:=h
theorem ou {p:Prop} (h:p:=by have:=HL.out;omega):p:=h
theorem y7 {p:Prop} (h:p:=by rw[List.take_zero,fA,bad]):p:=h
theorem CL {p:Prop} (h:p:=by have:=o4.blk b hb;show ¬b<=g;omega):p:=h
theorem Wh {p:Prop} (h:p:=by have bZ:=HB.out;have q1:=hb3;have q:bT (fun k=>k<w.heap.size) _ w3:=bT.of q1;exact qe):p:=h
theorem Wi {p:Prop} (h:p:=by have q1:=hb;have q:bT (fun k=>k<w.heap.size) _ w1:=bT.of q1;exact qe):p:=h
theorem K6 {p:Prop} (h:p:=by have h:=HS.out;rw[← HK.out] at h;exact h):p:=h
theorem Hq {p:Prop} (h:p:=by simp[Act.eval,Array.replicate]):p:=h
theorem vD {p:Prop} (h:p:=by simp;omega):p:=h
theorem Wj {p:Prop} (h:p:=by have h:0<(y::l).length:=Nat.zero_lt_succ _;omega):p:=h
theorem Ad {p:Prop} (h:p:=by simpa using h):p:=h
theorem Wl {p:Prop} (h:p:=by have h1:=Dc.out.2;have h2:=HN.out;omega):p:=h
theorem Wm {p:Prop} (h:p:=by rwa [Array.getElem?_toList] at hv):p:=h
theorem Py {p:Prop} (h:p:=by unfold maxLen;omega):p:=h
theorem Hr {p:Prop} (h:p:=by rw[eF];exact h):p:=h
theorem Ht {p:Prop} (h:p:=by rw[HL.out,HL2.out];exact hmm):p:=h
end
end Go.Proofs.YthnillhnjhalmaaGreatDoor
