/-
  Parts of this proof: The contracts of check, Check and CheckCode. Words for lists of texts in memory; the contract. The contract of Names. The contract of Uses. The contracts of usage, of checkUsed at its four. The contracts of the library's Grow and Concat a.
-/
import Derived.Test.YtbgodajefaahdaaGreatDoorZTUpt
import Derived.Test.YtbgodajefaahdaaGreatDoorZPDepth
import Derived.Sort.EncStr
import Derived.Sort.OwnSorted
import Derived.Lib.OwnBridge
import Derived.Test.YtbgodajefaahdaaGreatDoorZQScp
import Derived.Test.YtbgodajefaahdaaGreatDoorZQEach
set_option linter.unusedVariables false
open Go.Lib (hid)
namespace Go.Proofs.YtbgodajefaahdaaGreatDoor.Ex
open Go.RowKit Go.Shelf
open Go.Proofs.YtbgodajefaahdaaGreatDoor.Na (bs)
attribute [local go_sem] Oper.semAt_some
set_option maxHeartbeats 4000000
theorem depth_gives {e:Ex} {x:Nat} (h:dep e=x) (p:Option Addr) (m c:Nat) (w:World) (hi:In w e p m) (hc:cnt e<=1000000):Calls Tryz.prog 96 #[.agg #[.int .i64 e.o,.string e.s,.int .i64 e.n,.slice p m c]] w (Gives (.int .i64 (x:Nat)) w):=by rw[← h];exact depth_any e p m c w hi hc
theorem more_gives {e:Ex} {b:Bool} (h:decide (60<cnt e)=b) (p:Option Addr) (m c:Nat) (w:World) (hi:In w e p m) (hs:Sz e) (hc:cnt e<=1000000):Calls Tryz.prog 95 #[.agg #[.int .i64 e.o,.string e.s,.int .i64 e.n,.slice p m c],.int .i64 60] w (Gives (.bool b) w):=by rw[← h];exact more_any e p m c w hi hs hc
theorem cn_gives {c:Bool} {o n v:Int} {s:ByteArray} {m:Nat} (h:nd c o (bs s) n m=v) (p:Option Addr) (c':Nat) (w:World) (hs:s.size<=140737488355328):Calls Tryz.prog 98 #[.agg #[.int .i64 o,.string s,.int .i64 n,.slice p m c'],.bool c] w (Gives (.int .i64 v) w):=by rw[← h];exact cn_any c o s n p m c' w hs
theorem box4.own {β:Type} (g:Nat) (o:Int) (s:ByteArray) (n:Int) (p:Option Addr) (m c:Nat):Own (fun(_:β) W=>box4 W g o s n p m c):=fun _ A B row hs hg hr=>⟨cell_kept hs.1 hg hr,cell_kept hs.2.1 hg hr,cell_kept hs.2.2.1 hg hr,cell_kept hs.2.2.2 hg hr⟩
theorem keeps_below {B:Nat} {W W':World} (h:Below W.heap.size W W'):KeepsFrom B W W':=⟨h.size,fun k o _ hk _=>(h.block k (Array.getElem?_eq_some_iff.1 hk).1).trans hk⟩
theorem bad_snoc {c:Bool} {l:List Ex} {x:Ex} (h:bad c l=0):bad c (l++[x])=ndE c x:=by
 rw[bad_app_yes h];by_cases g:ndE c x=0
 · rw[bad_yes g,g];rfl
 · rw[bad_no g]
def St (w wr:World) (cc:Bool) (o:Int) (s:ByteArray) (nn:Int) (p:Option Addr) (m c:Nat):Prop:=
 box4 wr w.heap.size o s nn p m c/\wr.cell? ⟨w.heap.size+1,0,none⟩=some (.bool cc)/\(wr.cell? ⟨w.heap.size+1+1,0,none⟩=some (.int .i64 0)/\wr.frozen? ⟨w.heap.size+1+1,0,none⟩=false)/\Hid (Below w.heap.size w wr)/\w.heap.size+3<=wr.heap.size
section
variable {w wr w2:World} {cc:Bool} {o:Int} {s:ByteArray} {nn:Int} {p:Option Addr} {m c:Nat}
theorem St.on (h:St w wr cc o s nn p m c) (hb:Below wr.heap.size wr w2):St w w2 cc o s nn p m c:=by
 obtain⟨h1,h2,⟨h3,h4⟩,h5,h6⟩:=h;exact⟨h1.on hb,(hb.cell (p:=⟨w.heap.size+1,0,none⟩) (show w.heap.size+1<wr.heap.size by omega)).trans h2,⟨(hb.cell (p:=⟨w.heap.size+1+1,0,none⟩) (show w.heap.size+1+1<wr.heap.size by omega)).trans h3,(hb.frozen (p:=⟨w.heap.size+1+1,0,none⟩) (show w.heap.size+1+1<wr.heap.size by omega)).trans h4⟩,hid (h5.out.trans (hb.mono (by omega))),Nat.le_trans h6 hb.size⟩
theorem St.new:St w (((w.alloc (.cells #[.int .i64 o,.string s,.int .i64 nn,.slice p m c] 41)).alloc (.cells #[.bool cc] 4)).alloc (.cells #[.int .i64 0] 28)) cc o s nn p m c:=by
 obtain⟨w1,hw1⟩:∃w1,w.alloc (.cells #[.int .i64 o,.string s,.int .i64 nn,.slice p m c] 41)=w1:=⟨_,rfl⟩
 have hz1:w1.heap.size=w.heap.size+1:=by rw[← hw1];simp
 have hb1:Below w.heap.size w w1:=by rw[← hw1];exact bl
 have h1:=box_new (w:=w) (o:=o) (s:=s) (n:=nn) (p:=p) (m:=m) (c:=c) (t:=41);obtain⟨w2,hw2⟩:∃w2,w1.alloc (.cells #[.bool cc] 4)=w2:=⟨_,rfl⟩
 have hz2:w2.heap.size=w.heap.size+2:=by rw[← hw2];simp[hz1]
 have hb2:Below w1.heap.size w1 w2:=by rw[← hw2];exact bl
 have h2:=cell_new w1 (.bool cc) 4;rw[hw2] at h2;obtain⟨w3,hw3⟩:∃w3,w2.alloc (.cells #[.int .i64 0] 28)=w3:=⟨_,rfl⟩
 have hz3:w3.heap.size=w.heap.size+3:=by rw[← hw3];simp[hz2]
 have hb3:Below w2.heap.size w2 w3:=by rw[← hw3];exact bl
 have h3:=cell_new w2 (.int .i64 0) 28;rw[hw3] at h3;rw[hw1] at h1;rw[hw1,hw2,hw3];rw[hz1] at h2;rw[hz2] at h3;exact⟨(h1.on hb2).on hb3,(hb3.cell (p:=⟨w.heap.size+1,0,none⟩) (show w.heap.size+1<w2.heap.size by omega)).trans h2.1,h3,hid (hb1.trans ((hb2.mono (by omega)).trans (hb3.mono (by omega)))),by omega⟩
end
set_option maxRecDepth 100000 in
theorem chkx_any (cc:Bool) (e:Ex) (p:Option Addr) (m c:Nat) (w:World) (h:In w e p m) (hs:Sz e) (hc:cnt e<=1000000):Calls Tryz.prog 54 #[.agg #[.int .i64 e.o,.string e.s,.int .i64 e.n,.slice p m c],.bool cc] w (Gives (.int .i64 (chkE cc e)) w):=by
 by_cases h6:60<cnt e
 · have HM:=hid (fun W hi=>more_gives (decide_eq_true h6) p m c W hi hs hc);have HH:=hid h;rw[show chkE cc e=6 by unfold chkE;rw[if_pos h6]];obtain⟨o,s,nn,kl⟩:=e;simp only[Ex.o,Ex.s,Ex.n] at HM ⊢;clear h hs hc h6;go_enter Tryz.func54,Tryz.ntmps54;go_wp2_with fail;refine(HM.out _ (HH.out.on bl)).mono ?_;rintro e w1 ⟨rfl,hb1⟩;have HST:=hid (St.new.on hb1);have hr:=HST.out.2.2.1.1;have hf:=HST.out.2.2.1.2;clear hb1;go_wp2_with fail
   (try simp only[Exit.inBlock,Exit.then])
   have HBB:=HST.out.2.2.2.1.out;have e1:(w1.setCell ⟨w.heap.size+1+1,0,none⟩ (.int .i64 6)).cell? ⟨w.heap.size+1+1,0,none⟩=some (.int .i64 6):=World.cell?_setCell_same' _ _ _ (by rw[hr];rfl);exact bodyPost_ret (v:=.int .i64 6) (by simp[results,Tryz.f54,go_sem,e1]) rfl ⟨rfl,below_set HBB (by omega) _⟩
 have HM:=hid (fun W hi=>more_gives (decide_eq_false h6) p m c W hi hs hc);have HD:=hid (fun W hi=>depth_gives (e:=e) rfl p m c W hi hc);by_cases h12:12<dep e
 · have HH:=hid h;rw[show chkE cc e=11 by unfold chkE;rw[if_neg h6,if_pos h12]];obtain⟨D,hD⟩:∃D,dep e=D:=⟨_,rfl⟩
   rw[hD] at HD h12;have d1:(12:Int)<(D:Int):=by omega
   have d2:decide ((12:Int)<(D:Int))=true:=decide_eq_true d1;obtain⟨o,s,nn,kl⟩:=e;simp only[Ex.o,Ex.s,Ex.n] at HM HD ⊢;clear h hs hc h6 hD h12;go_enter Tryz.func54,Tryz.ntmps54;go_wp2_with fail;refine(HM.out _ (HH.out.on bl)).mono ?_;rintro e w1 ⟨rfl,hb1⟩;have HST:=hid (St.new.on hb1);obtain⟨x0,x1,x2,x3⟩:=HST.out.1;clear hb1;go_wp2_with fail;refine(HD.out _ (HH.out.on HST.out.2.2.2.1.out)).mono ?_;rintro e w2 ⟨rfl,hb2⟩;have HST2:=hid (HST.out.on hb2);have hr:=HST2.out.2.2.1.1;have hf:=HST2.out.2.2.1.2;clear hb2;go_wp2_with fail
   (try simp only[Exit.inBlock,Exit.then])
   have HBB:=HST2.out.2.2.2.1.out;have e1:(w2.setCell ⟨w.heap.size+1+1,0,none⟩ (.int .i64 11)).cell? ⟨w.heap.size+1+1,0,none⟩=some (.int .i64 11):=World.cell?_setCell_same' _ _ _ (by rw[hr];rfl);exact bodyPost_ret (v:=.int .i64 11) (by simp[results,Tryz.f54,go_sem,e1]) rfl ⟨rfl,below_set HBB (by omega) _⟩
 have HH:=hid h;have HS:=hid hs;have HC:=hid hc;rw[show chkE cc e=bad cc (pre e) by unfold chkE;rw[if_neg h6,if_neg h12]];obtain⟨D,hD⟩:∃D,dep e=D:=⟨_,rfl⟩
 rw[hD] at HD h12;have d1:(D:Int)<=12:=by omega
 have d2:decide ((12:Int)<(D:Int))=false:=decide_eq_false (by omega);obtain⟨o,s,nn,kl⟩:=e;simp only[Ex.o,Ex.s,Ex.n] at HM HD ⊢;clear h hs hc h6 hD h12;refine(callsIn_wide (n:=3)).1 ?_;refine callsIn_of_wp_marks Tryz.func54 rfl trivial ?_ rfl;simp only[Tryz.ntmps54,List.size_toArray,List.length_cons,List.length_nil,Nat.reduceAdd,Nat.reduceSub,Array.replicate_succ,Array.replicate_zero,List.push_toArray,List.append_toArray,List.nil_append,List.cons_append]
 gi_wp2_with fail
 refine⟨trivial,?_⟩;refine(callsIn_wide.2 (HM.out _ (HH.out.on bl))).mono ?_;rintro e w1 ⟨rfl,hb1⟩;have HST:=hid (St.new.on hb1);obtain⟨x0,x1,x2,x3⟩:=HST.out.1;clear hb1
 gi_wp2_with fail
 refine⟨trivial,?_⟩;refine(callsIn_wide.2 (HD.out _ (HH.out.on HST.out.2.2.2.1.out))).mono ?_;rintro e w2 ⟨rfl,hb2⟩;have HST2:=hid (HST.out.on hb2);obtain⟨y0,y1,y2,y3⟩:=HST2.out.1;clear hb2 x0 x1 x2 x3
 gi_wp2_with fail
 refine⟨trivial,?_⟩;refine(nodes_in Fence.wide _ trivial rfl _ _ _ _ _ _ _).mono ?_;rintro e w3 ⟨rfl,hw3⟩;have hb3:Below w2.heap.size w2 w3:=by rw[hw3];exact bl
 have hx3:box4 w3 w2.heap.size o s nn p m c:=by rw[hw3];exact box_new
 have hz3:w3.heap.size=w2.heap.size+1:=by rw[hw3];simp
 have HST3:=HST2.out.on hb3;clear hw3
 gi_wp2
 have hs2:=HST2.out.2.2.2.2;have HBB:=HST3.2.2.2.1;refine wpIn_rangeFunc_ownH rfl (by omega) (gf:=144) (lb:=#[.pointer (some ⟨w2.heap.size,0,none⟩)]) rfl trivial (enters_of Tryz.func144 (by kernel_rfl) rfl)
  (nodes_stops Fence.wide rfl trivial trivial rfl _ w2.heap.size w.heap.size w3.heap.size (.mk o s nn kl) p m c w3 hx3 (HH.out.below HBB.out) HS.out (by omega) (Nat.le_refl _)) (fun h k=>h.trans k) (Kp.put (by omega)) (Below.refl _ _) (fun _=>rfl)
  (fun ps W=>(W.cell? ⟨w.heap.size+1,0,none⟩=some (.bool cc)/\W.cell? ⟨w.heap.size+1+1,0,none⟩=some (.int .i64 0)/\W.frozen? ⟨w.heap.size+1+1,0,none⟩=false/\bad cc (ps.map Nd.x)=0/\w3.heap.size<=W.heap.size)/\Below w.heap.size w W)
  (fun c' ps W=>(c'=.ret/\∃v:Int,¬v=0/\bad cc (ps.map Nd.x)=v/\W.cell? ⟨w.heap.size+1+1,0,none⟩=some (.int .i64 v))/\Below w.heap.size w W)
  (OwnFrom.and (Own.from (fun s A B row hs hg hr=>⟨cell_kept hs.1 hg hr,cell_kept hs.2.1 hg hr,(frozen_kept hs.2.1 hg hr).trans hs.2.2.1,hs.2.2.2.1,Nat.le_trans hs.2.2.2.2 hg.size⟩) _) (ownFrom_below (Nat.le_refl _) (by omega)))
  (fun c'=>OwnFrom.and (Own.from (fun s A B row hs hg hr=>⟨hs.1,let ⟨v,h1,h2,h3⟩:=hs.2;⟨v,h1,h2,cell_kept h3 hg hr⟩⟩) _) (ownFrom_below (Nat.le_refl _) (by omega)))
  ⟨⟨HST3.2.1,HST3.2.2.1.1,HST3.2.2.1.2,rfl,Nat.le_refl _⟩,HBB.out⟩
  (fun x a' W=>∃Bx,w3.heap.size<=Bx/\box4 W Bx x.x.o x.x.s x.x.n x.p x.m x.c/\a'={ tmps:=#[.agg #[.int .i64 o,.string s,.int .i64 nn,.slice p m c],.bool cc,.pointer (some ⟨w.heap.size,0,none⟩),.pointer (some ⟨w.heap.size+1,0,none⟩),.pointer (some ⟨w.heap.size+1+1,0,none⟩),.pointer (some ⟨Bx,0,none⟩),undef,.agg #[.int .i64 o,.string s,.int .i64 nn,.slice p m c],.bool false,.agg #[.int .i64 o,.string s,.int .i64 nn,.slice p m c],.int .i64 (D:Nat),.bool false,.agg #[.int .i64 o,.string s,.int .i64 nn,.slice p m c],.func (.func 144) #[] #[.pointer (some ⟨w2.heap.size,0,none⟩)],.agg #[.int .i64 x.x.o,.string x.x.s,.int .i64 x.x.n,.slice x.p x.m x.c],undef,undef,undef,undef,undef,undef],defers:=[] })
  (fun x a' _ A B row hs hg hr=>let ⟨Bx,h1,h2,h3⟩:=hs;⟨Bx,h1,box4.own (β:=Unit) _ _ _ _ _ _ _ () A B row h2 hg (fun r e=>(hr r e).2),h3⟩) ?assign ?body ?done ?stop
 case assign=>
  intro l ps x W K hi hK;simp only[encN]
  gi_wp2
  have hbW:Below W.heap.size W (W.alloc (.cells #[.int .i64 x.x.o,.string x.x.s,.int .i64 x.x.n,.slice x.p x.m x.c] 41)):=bl;have hle:=hi.2.size;refine hK _ _ (keeps_below hbW) (Kp.of_below hbW hle) ?_ ⟨W.heap.size,?_,box_new,?_⟩
  · exact⟨⟨cell_alloc_on _ hi.1.1,cell_alloc_on _ hi.1.2.1,frozen_alloc_on _ hi.1.2.1 hi.1.2.2.1,hi.1.2.2.2.1,Nat.le_trans hi.1.2.2.2.2 hbW.size⟩,hi.2.trans (hbW.mono hle)⟩
  · exact hi.1.2.2.2.2
  · simp[go_sem]
 case body=>
  rintro l ps x a' W hl ⟨r,hr⟩ ⟨⟨h1,h2,h3,h4,h5⟩,hB⟩ ⟨Bx,hBx,⟨b0,b1,b2,b3⟩,rfl⟩ hlt;obtain⟨v,hv⟩:∃v,nd cc x.x.o (bs x.x.s) x.x.n x.m=v:=⟨_,rfl⟩
  have HN:=hid (cn_gives hv x.p x.c W x.hs);have hndx:ndE cc x.x=v:=by unfold ndE;rw[x.hl];exact hv
  have HSN:=hid (show bad cc ((ps++[x]).map Nd.x)=v by rw[List.map_append];exact(bad_snoc h4).trans hndx);have H4:=hid h4;have H5:=hid h5;have HBW:=hid hB;clear hv hndx h4 h5 hB hlt hr
  gi_wp2_with fail
  refine⟨trivial,?_⟩;refine(CallsIn.inRound l (callsIn_wide.2 HN.out)).mono ?_;rintro e w4 ⟨rfl,hb4⟩;have g1:=(hb4.cell (p:=⟨w.heap.size+1,0,none⟩) (block_lt h1)).trans h1;have g2:=(hb4.cell (p:=⟨w.heap.size+1+1,0,none⟩) (block_lt h2)).trans h2;have g3:=(hb4.frozen (p:=⟨w.heap.size+1+1,0,none⟩) (block_lt h2)).trans h3;have HB4:=hid hb4;clear hb4 h1 h2 h3 b0 b1 b2 b3;by_cases hv0:v=0
  · subst hv0
    gi_wp2
    exact⟨keeps_below HB4.out,Kp.of_below HB4.out HBW.out.size,⟨g1,g2,g3,HSN.out,Nat.le_trans H5.out HB4.out.size⟩,HBW.out.trans (HB4.out.mono HBW.out.size)⟩
  · have t0:(v==0)=false:=beq_eq_false_iff_ne.2 hv0
    gi_wp2
    refine⟨(keeps_below HB4.out).trans ((KeepsOthers.setCell _ _ _).from _),⟨rfl,v,hv0,HSN.out,?_⟩,below_set (HBW.out.trans (HB4.out.mono HBW.out.size)) (by omega) _⟩;exact World.cell?_setCell_same' _ _ _ (by rw[g2];rfl)
 case done=>
  rintro D' ys W hD hys ⟨⟨h1,h2,h3,h4,h5⟩,hB⟩ hK;have HV:=hid (show bad cc (pre (.mk o s nn kl))=0 by rw[← hys];exact h4)
  gi_wp2
  have hK':=(KeepsOthers.setCell W ⟨w.heap.size+1+1,0,none⟩ (.int .i64 0)).same D' _ hK rfl;refine⟨by simp,.inl ⟨_,_,rfl,run_takeDeferred hK',?_⟩⟩;have hc5:=cell_kept (World.cell?_setCell_same' W ⟨w.heap.size+1+1,0,none⟩ (.int .i64 0) (by rw[h2];rfl)) (grownBy_putObj' _ D' (.deferred none)) (fun r e=>by cases e;exact⟨_,hK',rfl⟩);refine⟨.int .i64 0,?_,by rw[HV.out],(below_set hB (by omega) _).trans (belowK_b (w:=w) (Nat.le_refl _) _ D' _ _ (by omega) hK' rfl rfl)⟩;simp[results,Tryz.f54,go_sem,hc5]
 case stop=>
  rintro D' c' ps W hD hps ⟨⟨rfl,v,hv0,hbv,hr⟩,hB⟩ hK;have HV:=hid (show bad cc (pre (.mk o s nn kl))=v by
   obtain⟨r,hr⟩:=hps;rw[← hr,bad_app_no (by rw[hbv];exact hv0),hbv])
  gi_wp2
  refine⟨by simp,.inl ⟨_,_,rfl,run_takeDeferred hK,?_⟩⟩;have hc5:=cell_kept hr (grownBy_putObj' _ D' (.deferred none)) (fun r e=>by cases e;exact⟨_,hK,rfl⟩);refine⟨.int .i64 v,?_,by rw[HV.out],hB.trans (belowK_b (w:=w) (Nat.le_refl _) W D' _ _ (by omega) hK rfl rfl)⟩;simp[results,Tryz.f54,go_sem,hc5]
theorem check_any (e:Ex) (p:Option Addr) (m c:Nat) (w:World) (h:In w e p m) (hs:Sz e) (hc:cnt e<=1000000):Calls Tryz.prog 25 #[.agg #[.int .i64 e.o,.string e.s,.int .i64 e.n,.slice p m c]] w (Gives (.int .i64 (chkE false e)) w):=by
 have H:=hid (fun W hi=>chkx_any false e p m c W hi hs hc);have HH:=hid h;obtain⟨v,hv⟩:∃v,chkE false e=v:=⟨_,rfl⟩
 rw[hv] at H ⊢;obtain⟨o,s,nn,kl⟩:=e;simp only[Ex.o,Ex.s,Ex.n] at H ⊢;clear h hs hc hv;go_enter Tryz.func25,Tryz.ntmps25;go_wp2_with fail;refine(H.out _ (HH.out.on bl)).mono ?_;rintro e w1 ⟨rfl,hb1⟩;go_wp2_with fail;go_ret;exact⟨rfl,bl⟩
end Go.Proofs.YtbgodajefaahdaaGreatDoor.Ex
namespace Go.Proofs.YtbgodajefaahdaaGreatDoor.Ex
open Go.RowKit
set_option maxHeartbeats 2000000
def tb (l:Nm):ByteArray:=⟨l.toArray⟩
def Txs (w:World) (p:Option Addr) (n:Nat) (l:List Nm):Prop:=
 l.length=n/\n<=9223372036854775807/\(n=0∨∃b o,p=some ⟨b,o,none⟩/\b<w.heap.size/\Hid (∀i,(h:i<l.length)->w.cell? ⟨b,o+i,none⟩=some (.string (tb l[i]))))
theorem Txs.on {w w2:World} {p:Option Addr} {n:Nat} {l:List Nm} (hb:Below w.heap.size w w2) (h:Txs w p n l):Txs w2 p n l:=by
 obtain⟨h0,hl,h|⟨b,o,rfl,h1,h2⟩⟩:=h
 · exact⟨h0,hl,.inl h⟩
 · exact⟨h0,hl,.inr ⟨b,o,rfl,Nat.lt_of_lt_of_le h1 hb.size,hid fun i hi=>(hb.cell (p:=⟨b,o+i,none⟩) h1).trans (h2.out i hi)⟩⟩
theorem Txs.nil {w:World} {p:Option Addr}:Txs w p 0 []:=⟨rfl,by omega,.inl rfl⟩
abbrev tbs (l:List Nm):List Value:=l.map fun x=>.string (tb x)
abbrev OwnT (lo:Nat) (w:World) (v:Value) (l:List Nm):Prop:=w.ownsRow lo 9 1 v l.length (tbs l)
theorem OwnT.below {lo:Nat} {w w2:World} {v:Value} {l:List Nm} (h:OwnT lo w v l) (hb:Below w.heap.size w w2):OwnT lo w2 v l:=
 World.ownsRow.kept h (row:=none) ⟨hb.os,hb.tape,hb.output,hb.size,fun k hk _=>hb.block k hk⟩ (by cases v.ownBlock <;> simp)
end Go.Proofs.YtbgodajefaahdaaGreatDoor.Ex
namespace Go.Proofs.YtbgodajefaahdaaGreatDoor.Ex
open Go.RowKit Go.Shelf Go.Sort
attribute [local go_sem] Oper.semAt_some
set_option maxHeartbeats 4000000
theorem Kp.app {n₀ T B:Nat} {W w1:World} {v v':Value} {l:List Nm} {tmp:Obj} (hn:n₀<=W.heap.size) (hB:n₀<=B) (hT:B<T) (hrow:OwnT n₀ W v l) (hgrow:(W.alloc tmp).grownBy w1 v.ownBlock) (hbel:Below n₀ W (w1.setCell ⟨B,0,none⟩ v')):Kp n₀ T W (w1.setCell ⟨B,0,none⟩ v'):=
 ⟨hbel, fun k c fr hk hc => by
   have hkl:=(Array.getElem?_eq_some_iff.1 hc).1;rw[(grownBy_setCell' w1 B v').block k (Nat.lt_of_lt_of_le hkl (Nat.le_trans (by simp) hgrow.size)) (fun e=>by cases e;omega)];rw[hgrow.block k (by simp;omega) (fun e=>by
    rcases hrow.2 with⟨rfl,_⟩|⟨g',cap,cur,rfl,_,hgb,_⟩
    · simp[Value.ownBlock] at e
    · obtain rfl:g'=k:=by simpa [Value.ownBlock] using e.symm
      rw[hgb] at hc
      cases hc)]
   exact(Below.heap_alloc W tmp k hkl).trans hc⟩
end Go.Proofs.YtbgodajefaahdaaGreatDoor.Ex
namespace Go.Proofs.YtbgodajefaahdaaGreatDoor.Sm
open Go.RowKit Go.Shelf Go.Sort
open Go.Proofs.YtbgodajefaahdaaGreatDoor.Ex (Nm OwnT)
attribute [local go_sem] Oper.semAt_some
attribute [local go_sem] cs0 cs1 cs2 cs3 cs4 cs5 cs6 cs7 cs8 cs9 cs10 cs11 cs12 cs13 cs14 cs15 cs16 cs17 cs18 cs19 cs20
set_option maxHeartbeats 8000000
theorem box21.own {β:Type} (g:Nat) (x:St) (P:Pl):Own (fun(_:β) W=>box21 W g x P):=fun _ A B row hs hg hr=>by
 refine(hg.block g hs.lt (fun e=>?_)).trans hs;obtain⟨o,ho,hc⟩:=hr g e.symm;rw[show A.heap[g]?=_ from hs] at ho;cases ho
 cases hc
theorem Kp.app {n₀ T B:Nat} {W w1:World} {v v':Value} {l:List Nm} {tmp:Obj} (hn:n₀<=W.heap.size) (hB:n₀<=B) (hT:B<T) (hrow:OwnT n₀ W v l) (hgrow:(W.alloc tmp).grownBy w1 v.ownBlock) (hbel:Below n₀ W (w1.setCell ⟨B,0,none⟩ v')):Kp n₀ T W (w1.setCell ⟨B,0,none⟩ v'):=
 ⟨hbel, fun k c fr hk hc => by
   have hkl:=(Array.getElem?_eq_some_iff.1 hc).1;rw[(grownBy_setCell' w1 B v').block k (Nat.lt_of_lt_of_le hkl (Nat.le_trans (by simp) hgrow.size)) (fun e=>by cases e;omega)];rw[hgrow.block k (by simp;omega) (fun e=>by
    rcases hrow.2 with⟨rfl,_⟩|⟨g',cap,cur,rfl,_,hgb,_⟩
    · simp[Value.ownBlock] at e
    · obtain rfl:g'=k:=by simpa [Value.ownBlock] using e.symm
      rw[hgb] at hc
      cases hc)]
   exact(Below.heap_alloc W tmp k hkl).trans hc⟩
end Go.Proofs.YtbgodajefaahdaaGreatDoor.Sm
namespace Go.Proofs.YtbgodajefaahdaaGreatDoor.Sm
open Go.RowKit
open Go.Proofs.YtbgodajefaahdaaGreatDoor.Ex (Ex In Sz Gives chkE ret_int)
attribute [local go_sem] cs0 cs1 cs2 cs3 cs4 cs5 cs6 cs7 cs8 cs9 cs10 cs11 cs12 cs13 cs14 cs15 cs16 cs17 cs18 cs19 cs20
set_option maxHeartbeats 2000000
abbrev usV (o:Int):Value:=.agg #[.bool (uN o),.bool (uO o),.bool (uE o),.bool (uF o),.bool (uA o),.bool (uD o),.bool (uG o),.bool (uB o),.bool (uL o)]
theorem op_cases (o:Int):(o=1∨o=2∨o=3∨o=4∨o=5∨o=6∨o=7∨o=8∨o=9∨o=10∨o=11∨o=12∨o=13∨o=14∨o=15∨o=16∨o=17∨o=18)∨(o<1∨18<o):=by omega
theorem zDY_1 {p:Prop} (h:p:=by omega):p:=h
set_option maxRecDepth 100000 in
theorem usage_any (o:Int) (w:World):Calls Tryz.prog 84 #[.int .i64 o] w (Gives (.tuple #[usV o,.bool (kn o)]) w):=by
 rcases op_cases o with h|h
 · rcases h with rfl|rfl|rfl|rfl|rfl|rfl|rfl|rfl|rfl|rfl|rfl|rfl|rfl|rfl|rfl|rfl|rfl|rfl
   all_goals
    go_enter Tryz.func84,Tryz.ntmps84;go_wp2_with fail;exact bodyPost_ret (v:=.tuple #[usV _,.bool (kn _)]) (by simp[results,Tryz.results84,go_sem,usV,uN,uO,uE,uF,uA,uD,uG,uB,uL,kn]) rfl ⟨rfl,bl⟩
 · have hk:kn o=false:=by unfold kn;rcases h with h|h <;> simp <;> omega
   have e0:usV o=.agg #[.bool false,.bool false,.bool false,.bool false,.bool false,.bool false,.bool false,.bool false,.bool false]:=by
    have a1:uN o=false:=by unfold uN;exact decide_eq_false zDY_1
    have a2:uO o=false:=by unfold uO;exact decide_eq_false zDY_1
    have a3:uE o=false:=by unfold uE;exact decide_eq_false zDY_1
    have a4:uF o=false:=by unfold uF;exact decide_eq_false zDY_1
    have a5:uA o=false:=by unfold uA;exact decide_eq_false zDY_1
    have a6:uD o=false:=by unfold uD;exact decide_eq_false zDY_1
    have a7:uG o=false:=by unfold uG;exact decide_eq_false zDY_1
    have a8:uB o=false:=by unfold uB;exact decide_eq_false zDY_1
    have a9:uL o=false:=by unfold uL;exact decide_eq_false zDY_1
    show Value.agg _=_
    rw[a1,a2,a3,a4,a5,a6,a7,a8,a9]
   rw[hk,e0];have u1:(o==1)=false:=beq_eq_false_iff_ne.2 zDY_1;have u2:(o==2)=false:=beq_eq_false_iff_ne.2 zDY_1;have u3:(o==3)=false:=beq_eq_false_iff_ne.2 zDY_1;have u4:(o==4)=false:=beq_eq_false_iff_ne.2 zDY_1;have u5:(o==5)=false:=beq_eq_false_iff_ne.2 zDY_1;have u6:(o==6)=false:=beq_eq_false_iff_ne.2 zDY_1;have u7:(o==7)=false:=beq_eq_false_iff_ne.2 zDY_1;have u8:(o==8)=false:=beq_eq_false_iff_ne.2 zDY_1;have u9:(o==9)=false:=beq_eq_false_iff_ne.2 zDY_1;have u10:(o==10)=false:=beq_eq_false_iff_ne.2 zDY_1;have u11:(o==11)=false:=beq_eq_false_iff_ne.2 zDY_1;have u12:(o==12)=false:=beq_eq_false_iff_ne.2 zDY_1;have u13:(o==13)=false:=beq_eq_false_iff_ne.2 zDY_1;have u14:(o==14)=false:=beq_eq_false_iff_ne.2 zDY_1;have u15:(o==15)=false:=beq_eq_false_iff_ne.2 zDY_1;have u16:(o==16)=false:=beq_eq_false_iff_ne.2 zDY_1;have u17:(o==17)=false:=beq_eq_false_iff_ne.2 zDY_1;have u18:(o==18)=false:=beq_eq_false_iff_ne.2 zDY_1;clear h hk e0;go_enter Tryz.func84,Tryz.ntmps84;go_wp2_with fail;exact bodyPost_ret (v:=.tuple #[.agg #[.bool false,.bool false,.bool false,.bool false,.bool false,.bool false,.bool false,.bool false,.bool false],.bool false]) (by simp[results,Tryz.results84,go_sem]) rfl ⟨rfl,bl⟩
theorem zDY_0 {p:Prop} (h:p:=by
 go_wp2_with fail;refine((C).out _ bl).mono ?_;rintro e w1 ⟨rfl,hb1⟩;go_wp2_with fail;go_ret;exact⟨rfl,bl⟩
 ):p:=h
set_option maxRecDepth 100000 in
theorem usedS_any (u:Bool) (s:ByteArray) (v:Int) (w:World) (C:Hid (u=true->∀W,Below w.heap.size w W->Calls Tryz.prog 35 #[.string s] W (Gives (.int .i64 v) W))):Calls Tryz.prog 86 #[.bool u,.func (.func 35) #[] #[],.string s] w (Gives (.int .i64 (onE u v)) w):=by
 cases u with
 | false=>
  clear C;go_enter Tryz.func86,Tryz.ntmps86;go_wp2_with fail;go_ret;exact⟨rfl,bl⟩
 | true=>
  replace C:=hid ((C).out rfl);go_enter Tryz.func86,Tryz.ntmps86;exact zDY_0
set_option maxRecDepth 100000 in
theorem usedE_any (u:Bool) (e:Ex) (p:Option Addr) (m c:Nat) (v:Int) (w:World) (C:Hid (u=true->∀W,Below w.heap.size w W->Calls Tryz.prog 25 #[.agg #[.int .i64 e.o,.string e.s,.int .i64 e.n,.slice p m c]] W (Gives (.int .i64 v) W))):Calls Tryz.prog 87 #[.bool u,.func (.func 25) #[] #[],.agg #[.int .i64 e.o,.string e.s,.int .i64 e.n,.slice p m c]] w (Gives (.int .i64 (onE u v)) w):=by
 cases u with
 | false=>
  clear C;go_enter Tryz.func87,Tryz.ntmps87;go_wp2_with fail;go_ret;exact⟨rfl,bl⟩
 | true=>
  replace C:=hid ((C).out rfl);go_enter Tryz.func87,Tryz.ntmps87;exact zDY_0
set_option maxRecDepth 100000 in
theorem usedA_any (u:Bool) (p:Option Addr) (m c:Nat) (v:Int) (w:World) (C:Hid (u=true->∀W,Below w.heap.size w W->Calls Tryz.prog 89 #[.slice p m c] W (Gives (.int .i64 v) W))):Calls Tryz.prog 88 #[.bool u,.func (.func 89) #[] #[],.slice p m c] w (Gives (.int .i64 (onE u v)) w):=by
 cases u with
 | false=>
  clear C;go_enter Tryz.func88,Tryz.ntmps88;go_wp2_with fail;go_ret;exact⟨rfl,bl⟩
 | true=>
  replace C:=hid ((C).out rfl);go_enter Tryz.func88,Tryz.ntmps88;exact zDY_0
set_option maxRecDepth 100000 in
theorem usedD_any (u:Bool) (x:St) (P:Pl) (v:Int) (w:World) (C:Hid (u=true->∀W,Below w.heap.size w W->Calls Tryz.prog 91 #[.agg #[.int .i64 x.di.op,.int .i64 x.di.a,.int .i64 x.di.b,.int .i64 x.di.n,.slice P.vp P.vm P.vc,.slice P.wp P.wm P.wc]] W (Gives (.int .i64 v) W))):Calls Tryz.prog 90 #[.bool u,.func (.func 91) #[] #[],.agg #[.int .i64 x.di.op,.int .i64 x.di.a,.int .i64 x.di.b,.int .i64 x.di.n,.slice P.vp P.vm P.vc,.slice P.wp P.wm P.wc]] w (Gives (.int .i64 (onE u v)) w):=by
 cases u with
 | false=>
  clear C;go_enter Tryz.func90,Tryz.ntmps90;go_wp2_with fail;go_ret;exact⟨rfl,bl⟩
 | true=>
  replace C:=hid ((C).out rfl);go_enter Tryz.func90,Tryz.ntmps90;exact zDY_0
def orL:List Int->Int
 | []=>0
 | x::t=>orE x (orL t)
theorem orL_app:∀a b:List Int,orL (a++b)=orE (orL a) (orL b)
 | [],b=>orE_yes.symm
 | x::t,b=>by rw[List.cons_append,orL,orL,orL_app t b,orE_assoc]
set_option maxRecDepth 100000 in
theorem or_any (l:List Int) (b n c:Nat) (w:World) (hl:l.length=n) (hn:n<=1000000) (hc:Hid (∀i,(h:i<l.length)->w.cell? ⟨b,i,none⟩=some (.int .i64 l[i]))):Calls Tryz.prog 34 #[.slice (some ⟨b,0,none⟩) n c] w fun e w'=>e=.returned (.int .i64 (orL l))/\w=w':=by
 have HL:=hid hl;clear hl;go_enter Tryz.func34,Tryz.ntmps34;go_wp2_with fail;go_loop [8] (fun i=>∃k:Nat,k<=n/\i=.int .i64 k/\Hid (orL (l.take k)=0)) (fun i=>n-(intOf i).toNat)
 case atStart=>exact⟨0,Nat.zero_le _,rfl,hid rfl⟩
 case round=>
  obtain⟨k,hk,rfl,HA⟩:=hrel;rcases Nat.lt_or_ge k n with h|h
  · have hkl:k<l.length:=by rw[HL.out];exact h
    have e1:=hc.out k hkl;have e0:w.cell? ⟨b,0+k,none⟩=some (.int .i64 l[k]):=by rw[Nat.zero_add];exact e1
    have c1:(0:Int)<=(k:Int):=by omega
    have c2:(k:Int)<(n:Int):=by omega
    have hgx:l[k]?=some l[k]:=List.getElem?_eq_getElem hkl;obtain⟨x,hx⟩:∃x,l[k]=x:=⟨_,rfl⟩
    rw[hx] at e1 e0 hgx;by_cases hz:x=0
    · have H:Hid (orL (l.take (k+1))=0):=hid (by rw[Ex.take_one hgx,orL_app,HA.out,orE_yes,hz];rfl);subst hz;clear hgx hx hkl;go_wp2_with fail;go_round
      case rel=>exact⟨k+1,by omega,by go_num,H⟩
      case measure=>simp[intOf];omega
    · have hz2:(x != 0)=true:=by rw[bne_iff_ne];exact hz
      have H:Hid (orL l=x):=hid (by
       have h2:=orL_app (l.take (k+1)) (l.drop (k+1));rw[List.take_append_drop,Ex.take_one hgx,orL_app,HA.out,orE_yes] at h2;rw[h2]
       show orE (orE x 0) _=x
       rw[orE_right,orE_no hz])
      clear hgx hx hkl hz;go_wp2_with fail;go_ret;exact⟨ret_int H.out.symm,rfl⟩
  · obtain rfl:n=k:=by omega
    have H:Hid (orL l=0):=hid (by have h1:=HA.out;rwa [List.take_of_length_le (by rw[HL.out];exact Nat.le_refl _)] at h1);go_wp2_with fail;go_ret;exact⟨ret_int H.out.symm,rfl⟩
theorem xcheck_gives {e:Ex} {v:Int} (h:chkE false e=v) (p:Option Addr) (m c:Nat) (w:World) (hi:In w e p m) (hs:Sz e) (hc:Ex.cnt e<=1000000):Calls Tryz.prog 25 #[.agg #[.int .i64 e.o,.string e.s,.int .i64 e.n,.slice p m c]] w (Gives (.int .i64 v) w):=by rw[← h];exact Ex.check_any e p m c w hi hs hc
set_option maxRecDepth 100000 in
theorem args_check (l:List Ex) (p:Option Addr) (m c:Nat) (w:World) (h:In w (.mk 0 nE 0 l) p m) (hs:∀y∈l,Sz y/\Ex.cnt y<=1000000):Calls Tryz.prog 89 #[.slice p m c] w (Gives (.int .i64 (argE l)) w):=by
 have HH:=hid h;have HS:=hid hs;obtain⟨hl,hm⟩:=h.len;have HL:=hid hl;clear h hs hl;by_cases h6:6<m
 · rw[show argE l=6 by unfold argE;rw[HL.out,if_pos h6]];have t1:decide ((6:Int)<(m:Int))=true:=decide_eq_true zDY_1;have t2:(6:Int)<(m:Int):=by omega
   go_enter Tryz.func89,Tryz.ntmps89;go_wp2_with fail;go_ret;exact⟨rfl,bl⟩
 rw[show argE l=badA l by unfold argE;rw[HL.out,if_neg h6]];have t1:decide ((6:Int)<(m:Int))=false:=decide_eq_false zDY_1;have t2:(m:Int)<=6:=by omega
 go_enter Tryz.func89,Tryz.ntmps89;go_wp2_with fail;go_loopw [11] (fun i wr=>∃k:Nat,k<=m/\Hid (badA (l.take k)=0)/\i=.int .i64 (k:Nat)/\Hid (Below w.heap.size w wr)) (fun i _=>m-(intOf i).toNat)
 case atStart=>exact⟨0,Nat.zero_le _,hid rfl,rfl,hid bl⟩
 case round=>
  obtain⟨k,hk,HT0,rfl,HW⟩:=hrel;have k0:(0:Int)<=(k:Int):=by omega
  rcases Nat.lt_or_ge k m with h|h
  · have k1:(k:Int)<(m:Int):=by omega
    obtain⟨b,o',rfl,-,hG,hcell⟩:=HH.out.kids zDY_1;have hkl:k<l.length:=by rw[HL.out];omega
    obtain⟨q,j,c',hc4,hkin⟩:=hcell.out k hkl;have hmem:l[k]∈l:=List.getElem_mem hkl;have hgx:l[k]?=some l[k]:=List.getElem?_eq_getElem hkl;obtain⟨x,hx⟩:∃x,l[k]=x:=⟨_,rfl⟩
    rw[hx] at hc4 hkin hmem hgx;obtain⟨e0,e1,e2,e3⟩:=hc4.on HW.out hG;have hbr:b<wr.heap.size:=Nat.lt_of_lt_of_le hG HW.out.size;have HKIN:=hid hkin;obtain⟨v,hv⟩:∃v,chkE false x=v:=⟨_,rfl⟩
    have HC:=hid (fun W hi=>xcheck_gives hv q j c' W hi (HS.out x hmem).1 (HS.out x hmem).2);have HTK:=hid (badA_take hgx);have HST:=hid (fun(h1:¬chkE false x=0)=>badA_stop hgx HT0.out h1);have HV:=hid hv;clear hcell hc4 hkin hx hmem hgx hkl hv;go_wp2_with fail;refine(HC.out _ (HKIN.out.on (by have HBB:=HW.out;exact bl))).mono ?_;rintro e w2 ⟨rfl,hb2⟩;have HW2:Hid (Below w.heap.size w w2):=hid (by have HBB:=HW.out;exact bl);clear hb2 HC;by_cases hz:v=0
    · have HR:Hid (badA (l.take (k+1))=0):=hid (by rw[HTK.out,HT0.out,orE_yes,HV.out,hz]);subst hz;go_wp2_with fail;go_roundw
      case rel=>exact⟨k+1,by omega,HR,by go_num,HW2⟩
      case measure=>simp[intOf];omega
    · have HR:Hid (badA l=v):=hid (by rw[HST.out (by rw[HV.out];exact hz),HV.out]);have z1:(v != 0)=true:=bne_iff_ne.2 hz;clear hz;go_wp2_with fail;go_ret;exact⟨by rw[HR.out];rfl,HW2.out⟩
  · obtain rfl:m=k:=by omega
    have HR:Hid (badA l=0):=hid (by have h1:=HT0.out;rwa [List.take_of_length_le (by rw[HL.out];exact Nat.le_refl _)] at h1);go_wp2_with fail;go_ret;exact⟨by rw[HR.out];rfl,HW.out⟩
end Go.Proofs.YtbgodajefaahdaaGreatDoor.Sm
namespace Go.Proofs.YtbgodajefaahdaaGreatDoor.Md
open Go.RowKit Go.Maps
open Go.Proofs.YtbgodajefaahdaaGreatDoor.Ex (Lo)
set_option maxHeartbeats 4000000
set_option maxRecDepth 100000 in
theorem grow_any (n:Nat) (w:World) (hn:n<=1000000):Calls Tryz.prog 190 #[.slice none 0 0,.int .i64 n] w fun e w'=>∃v,e=.returned v/\OwnL 179 2 RFld w.heap.size w' v []/\Below w.heap.size w w':=by
 rcases Nat.eq_zero_or_pos n with h0|h0
 · subst h0;go_enter Tryz.func190,Tryz.ntmps190;go_wp2_with fail;go_ret;exact⟨_,rfl,OwnL.nil,Below.refl _ _⟩
 · obtain⟨i0,z0,hi0,hz0,hz1,hz3,hz2⟩:=kFld.info;have hrun:=fun ty=>Lib.run_append_nil_zeros (P:=Tryz.prog) w 117 3 ty 179 i0 z0 .i64 .i64 Tryz.underlying117 Tryz.underlying3 hi0 hz0 n h0 (by omega) (by omega) (by
    have:=Nat.mul_le_mul (show n<=1000000 from hn) hz2;omega)
   have hG:=grownCap_ge w n 0 179;have hG2:=grownCap_le_maxLen w n 0 179 (by unfold maxLen;omega)
   generalize grownCap w n 0 179=G at hrun hG hG2;have hm:=World.ownsRow_made (base:=w.heap.size) (e:=179) (size:=2) w.drew (Builtin.zeroCells z0.cells n++Builtin.zeroCells z0.cells (G-n)) G (Nat.le_refl _) hG2 (by
    rw[Array.size_append,size_zeroCells,size_zeroCells,hz3];omega)
   unfold maxLen at hG2;have HM:Hid (OwnL 179 2 RFld w.heap.size (w.drew.alloc (.cells (Builtin.zeroCells z0.cells n++Builtin.zeroCells z0.cells (G-n)) 179)) (.slice (some ⟨w.heap.size,0,none⟩) 0 G) []):=hid ⟨[],rfl,fun i h=>absurd h (Nat.not_lt_zero _),hm⟩;clear hm
   generalize Builtin.zeroCells z0.cells n++Builtin.zeroCells z0.cells (G-n)=cs at hrun HM;go_enter Tryz.func190,Tryz.ntmps190;go_wp2_with (at_builtin;refine Lib.wpList_append_run _ rfl _ _ _ _ rfl _ _ rfl rfl _ _ (hrun _) ?_)
   all_goals
    go_ret;exact⟨_,rfl,HM.out,bl⟩
def catL (ls:Nat->List Fld):Nat->List Fld
 | 0=>[]
 | j+1=>catL ls j++ls j
theorem catL_mono {ls:Nat->List Fld} {j k:Nat} (h:j<=k):(catL ls j).length<=(catL ls k).length:=by
 induction k with
 | zero => obtain rfl : j = 0 := by omega
           exact Nat.le_refl _
 | succ m ih=>
  by_cases e:j=m+1
  · subst e;exact Nat.le_refl _
  · refine Nat.le_trans (ih (by omega)) ?_;rw[catL,List.length_append];omega
def CatRel (w:World) (ls:Nat->List Fld) (j:Nat) (v:Value) (wr:World):Prop:=OwnL 179 2 RFld w.heap.size wr v (catL ls j)/\Below w.heap.size w wr
set_option maxRecDepth 100000 in
theorem concat_any (b o k c:Nat) (pp:Nat->Option Addr) (pn pc:Nat->Nat) (ls:Nat->List Fld) (w:World) (hk:k<=9223372036854775807) (hb:b<w.heap.size)
 (hc:Hid (∀j,j<k->w.cell? ⟨b,o+j,none⟩=some (.slice (pp j) (pn j) (pc j)))) (hE:Hid (∀j,j<k->Rw 2 RFld (Lo w.heap.size) w (ls j) (pp j) (pn j))) (hN:(catL ls k).length<=1000000) :
 Calls Tryz.prog 161 #[.slice (some ⟨b,o,none⟩) k c] w fun e w'=>∃v,e=.returned v/\CatRel w ls k v w':=by
 have HM:=hid fun(j:Nat) (h:j<=k)=>catL_mono (ls:=ls) h;have HS:=hid fun(j:Nat) (h:j<k)=>(hE.out j h).1;go_enter Tryz.func161,Tryz.ntmps161;go_wp2_with fail;go_loop [3,11] (fun s i=>∃j m:Nat,j<=k/\i=.int .i64 j/\s=.int .i64 m/\Hid (m=(catL ls j).length)) (fun _ i=>k-(intOf i).toNat)
 case atStart=>exact⟨0,0,Nat.zero_le _,rfl,rfl,hid rfl⟩
 case round=>
  obtain⟨j,m,hj,rfl,rfl,HT⟩:=hrel;have c1:(0:Int)<=(j:Int):=by omega
  have m1:(0:Int)<=(m:Int):=by omega
  rcases Nat.lt_or_ge j k with h|h
  · have c2:(j:Int)<(k:Int):=by omega
    have e1:=hc.out j h;have m2:(m:Int)+(pn j:Int)<=1000000:=by have h1:=HT.out;have h2:=HM.out (j+1) h;have h3:=HS.out j h;rw[catL,List.length_append] at h2;omega
    have m3:(0:Int)<=(pn j:Int):=by omega
    have m4:¬(m:Int)+(pn j:Int)<0:=by omega
    go_wp2_with fail;go_round
    case rel=>exact⟨j+1,m+pn j,by omega,by go_num,by go_num,hid (by rw[HT.out,catL,List.length_append,HS.out j h])⟩
    case measure=>simp[intOf];omega
  · obtain rfl:k=j:=by omega
    have hm:m<=1000000:=by have:=HT.out;omega
    have c2:(k:Int)<=(k:Int):=by omega
    go_wp2_with fail;refine(grow_any m _ hm).mono ?_;rintro e w1 ⟨v1,rfl,ho1,hb1⟩;have HO:=hid ho1;clear ho1;go_wp2_with fail;go_loopw [6,27] (fun v i wr=>∃j:Nat,j<=k/\i=.int .i64 j/\CatRel w ls j v wr) (fun _ i _=>k-(intOf i).toNat)
    case atStart=>exact⟨0,Nat.zero_le _,rfl,HO.out,hb1⟩
    case round=>
     obtain⟨j,hj,rfl,HR⟩:=hrel;have c1:(0:Int)<=(j:Int):=by omega
     rcases Nat.lt_or_ge j k with h|h
     · have c2:(j:Int)<(k:Int):=by omega
       obtain⟨ho,hbr⟩:=HR;have e1:=(hbr.cell (p:=⟨b,o+j,none⟩) hb).trans (hc.out j h);obtain⟨v2,w2,hrun,ho2,hg2⟩:=OwnL.app kFld RFld.map sFld ho ((hE.out j h).below RFld.map hbr) (pc j) hbr.size (by have h2:=HM.out (j+1) h;have h3:=HS.out j h;rw[catL,List.length_append] at h2;omega);have HO2:Hid (CatRel w ls (j+1) v2 w2):=hid ⟨ho2,ho.below hg2 hbr (Nat.le_refl _) hbr.size⟩;clear ho ho2 hg2;go_wp2_with (at_builtin;refine Lib.wpList_append_run _ rfl _ _ _ _ rfl _ _ rfl rfl _ _ hrun ?_)
       go_roundw
       case rel=>exact⟨j+1,by omega,by go_num,HO2.out⟩
       case measure=>simp[intOf];omega
     · obtain rfl:k=j:=by omega
       have H3:=hid HR;clear HR;go_wp2_with fail;go_ret;exact⟨_,rfl,H3.out⟩
theorem concat2 (b:Nat) (p1 p2:Option Addr) (m1 c1 m2 c2:Nat) (l1 l2:List Fld) (w:World) (hb:b<w.heap.size) (h0:w.cell? ⟨b,0,none⟩=some (.slice p1 m1 c1)) (h1:w.cell? ⟨b,1,none⟩=some (.slice p2 m2 c2))
 (hl1:Rw 2 RFld (Lo w.heap.size) w l1 p1 m1) (hl2:Rw 2 RFld (Lo w.heap.size) w l2 p2 m2) (hN:m1+m2<=1000000) :
 Calls Tryz.prog 161 #[.slice (some ⟨b,0,none⟩) 2 2] w fun e w'=>∃v,e=.returned v/\OwnL 179 2 RFld w.heap.size w' v (l1++l2)/\Below w.heap.size w w':=by
 have e1:=hl1.1;have e2:=hl2.1;refine concat_any b 0 2 2 (fun j=>if j=0 then p1 else p2) (fun j=>if j=0 then m1 else m2) (fun j=>if j=0 then c1 else c2) (fun j=>if j=0 then l1 else l2) w (by omega) hb (hid fun j hj=>?_) (hid fun j hj=>?_) ?_
 · have h:j=0∨j=1:=by omega
   rcases h with rfl|rfl
   · exact h0
   · exact h1
 · have h:j=0∨j=1:=by omega
   rcases h with rfl|rfl
   · exact hl1
   · exact hl2
 · show(([]++l1)++l2).length<=_
   rw[List.nil_append,List.length_append];omega
end Go.Proofs.YtbgodajefaahdaaGreatDoor.Md
