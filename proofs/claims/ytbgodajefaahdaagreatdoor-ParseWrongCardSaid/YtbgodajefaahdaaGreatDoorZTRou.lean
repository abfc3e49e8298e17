/-
  Parts of this proof: The contract of the reader's routine. The contract of the reader's resource.
-/
import Derived.Test.YtbgodajefaahdaaGreatDoorZTStF
import Derived.Test.YtbgodajefaahdaaGreatDoorZTSta
import Derived.Test.YtbgodajefaahdaaGreatDoorZTLstF
set_option linter.unusedVariables false
open Go.Lib (hid)
namespace Go.Proofs.YtbgodajefaahdaaGreatDoor.Ps
open Go.Proofs.YtbgodajefaahdaaGreatDoor.Ps.P (rt bd exp)
open Go.RowKit
open Go.Proofs.YtbgodajefaahdaaGreatDoor.Lx (Tk)
open Go.Proofs.YtbgodajefaahdaaGreatDoor.Sm (St Lin)
open Go.Proofs.YtbgodajefaahdaaGreatDoor.Md (Rw Box Rou cRou cRou_one bRou RRou Fld cFld RFld kFld)
set_option maxHeartbeats 1000000
theorem mv_lin {l:List St} {p:Option Addr} {m:Nat}:Mv (fun G w=>Lin G w l p m):=fun hs hk h=>Sm.Lin.map hs hk h
def rouF (z:Nat) (zc:Array Value) (ps:List Fld) (pp:Option Addr) (pm:Nat) (v:Value) (l:List Fld) (bo:List St) (bp:Option Addr) (bm:Nat):Nat->(Nat->Prop)->World->Prop
 | 0=>fun G w=>G z/\Box w z 119 zc
 | 1=>fun G w=>Rw 2 RFld G w ps pp pm
 | 2=>fun G w=>OwnF 179 2 RFld G w v l
 | 3=>fun G w=>Lin G w bo bp bm
 | _+4=>fun _ _=>True
section
variable {z:Nat} {zc:Array Value} {ps:List Fld} {pp:Option Addr} {pm:Nat} {v v':Value} {l l':List Fld} {bo bo':List St} {bp bp':Option Addr} {bm bm':Nat}
theorem rouF_mv:∀j,Mv (rouF z zc ps pp pm v l bo bp bm j)
 | 0=>mv_box
 | 1=>mv_rw RFld.map
 | 2=>mv_own RFld.map
 | 3=>mv_lin
 | _+4=>mv_true
theorem rouF_put:∀j G W,(if j=2 then fun G w=>OwnF 179 2 RFld G w v' l' else rouF z zc ps pp pm v l bo bp bm j) G W->rouF z zc ps pp pm v' l' bo bp bm j G W
 | 0,_,_,h=>h
 | 1,_,_,h=>h
 | 2,_,_,h=>h
 | 3,_,_,h=>h
 | _+4,_,_,h=>trivial
theorem rouF_body:∀j G W,(if j=3 then fun G w=>Lin G w bo' bp' bm' else rouF z zc ps pp pm v l bo bp bm j) G W->rouF z zc ps pp pm v l bo' bp' bm' j G W
 | 0,_,_,h=>h
 | 1,_,_,h=>h
 | 2,_,_,h=>h
 | 3,_,_,h=>h
 | _+4,_,_,h=>trivial
end
abbrev RoB (w:World) (B:Nat) (nm:ByteArray) (ps:List Fld) (pp:Option Addr) (pm pc:Nat) (v:Value) (l:List Fld) (bo:List St) (bp:Option Addr) (bm bc:Nat) (W:World):Prop:=Bld w.heap.size B 119 #[.string nm,.slice pp pm pc,v,.slice bp bm bc] (rouF w.heap.size #[.string ⟨#[]⟩,.slice none 0 0,.slice none 0 0,.slice none 0 0] ps pp pm v l bo bp bm) W
structure RoAt (L:Lk) (g:Nat) (r:R Rou) (K:List Fld->P Rou) (nm:ByteArray) (ps:List Fld) (pp:Option Addr) (pm pc B:Nat) (w:World) (k:Nat) (wr:World):Prop where
 ex:∃l u p c,run (bd (lcL k l) K) u=r/\u.length<k/\l.length+u.length<=30001/\RoB w B nm ps pp pm pc (.slice p l.length c) l [] none 0 0 wr/\Rd L g u wr
 bt:Bt g w wr
section
variable {L:Lk} {g:Nat} {t:List Tk}
theorem zEJ_0 {p:Prop} (h:p:=by
 have HBB:=HB.out;go_wp2_with fail;exact⟨rfl,PO.no (st_no HS (by assumption)) qe⟩
 ):p:=h
set_option maxRecDepth 100000 in
theorem routine_any (w:World) (hR:Rd L g t w):Calls Tryz.prog 155 #[.pointer (some ⟨g,0,none⟩)] w (PO L g (VR RRou) (run rou t) w):=by
 obtain⟨r,hr⟩:∃r,run rou t=r:=⟨_,rfl⟩
 rw[hr];have HS:=hid hr;have hg:=hR.blk;have HR:=hid hR;have HB:Hid (Bt g w w):=hid (Eqv.refl _ _);clear hR hr;have Z:=hid (Box.new (w:=w) (t:=119) (c:=#[.string ⟨#[]⟩,.slice none 0 0,.slice none 0 0,.slice none 0 0]));go_enter Tryz.func155,Tryz.ntmps155;go_wp2_with fail;refine(name_any _ (HR.out.low qe)).mono ?_;rintro e w1 h1;rcases h1.cases with⟨x1,u1,v1,r1,rfl,b1,V1,R1⟩|⟨u1,r1,rfl,b1⟩
 rotate_left 1
 · exact zEJ_0
 replace HS:=st_ok HS r1;replace Z:=hid (box_at (w2:=w1) Z.out qe);replace HB:Hid (Bt g w w1):=hid qh;replace HR:=hid R1;clear b1 R1;clear r1 h1;obtain rfl:=V1;have hz1:=Z.out.lt;go_wp2_with fail;refine(listedF_any 183 fld dn_fld _ (HR.out.low qe) (fun _ _=>rfl) (fun W u hW _=>field_any W hW)).mono ?_;rintro e w2 h2;rcases h2.cases with⟨x2,u2,v2,r2,rfl,b2,V2,R2⟩|⟨u2,r2,rfl,b2⟩
 rotate_left 1
 · exact zEJ_0
 replace HS:=st_ok HS r2;replace Z:=hid (box_at (w2:=w2) Z.out qe);replace HB:Hid (Bt g w w2):=hid qh;replace HR:=hid R2;clear b2 R2;clear r2 h2;obtain⟨p2,m2,c2,rfl,k2⟩:=V2;have hz2:=Z.out.lt;have hd0:Bld w.heap.size w2.heap.size 119 #[.string x1,.slice p2 m2 c2,.slice none 0 0,.slice none 0 0] (rouF w.heap.size #[.string ⟨#[]⟩,.slice none 0 0,.slice none 0 0,.slice none 0 0] [] none 0 (.slice none 0 0) [] [] none 0) (w2.alloc (.cells #[.string x1,.slice p2 m2 c2,.slice none 0 0,.slice none 0 0] 119)):=Bld.new Box.new (Nat.le_of_lt hz2) ⟨⟨Nat.le_refl _,by omega⟩,box_at Z.out qe⟩ mv_box fun j hj G=>(match j,hj with|1,_=>Rw.nil|2,_=>OwnF.nil|3,_=>Sm.Lin.nil|n+4,_=>trivial)
 have hd1:Hid (RoB w w2.heap.size x1 x2 p2 m2 c2 (.slice none 0 0) [] [] none 0 0 (w2.alloc (.cells #[.string x1,.slice p2 m2 c2,.slice none 0 0,.slice none 0 0] 119))):=hid ⟨Box.new,Nat.le_of_lt hz2,fun k=>if k<w1.heap.size then 0 else if k=w2.heap.size then 0 else 1,by simp,fun j=>(match j with
  | 0=>⟨⟨Nat.le_refl _,by simp[hz1],by omega⟩,box_at Z.out qe⟩
  | 1=>k2.map RFld.map (by simp) (fun b hb hlt=>⟨⟨by have hb':w1.heap.size<=b:=hb;omega,by have hb':w1.heap.size<=b:=hb;show(if b<w1.heap.size then 0 else if b=w2.heap.size then 0 else 1)=1;rw[if_neg (by omega),if_neg (by omega)],by omega⟩,by show(w2.heap.push _)[b]?=_;rw[Array.getElem?_push,if_neg (by omega)]⟩)
  | 2=>OwnF.nil
  | 3=>Sm.Lin.nil
  | n+4=>trivial)⟩
 clear hd0 k2 Z;obtain⟨K,hK⟩:∃K:List Fld->P Rou,(fun ls=>bd sts fun b=>bd (exp kEnd) fun _=>bd eol fun _=>rt ⟨x1,x2,ls,b⟩)=K:=⟨_,rfl⟩
 have HK:=hid hK;replace HS:Hid (run (bd eol fun _=>bd (lcL FU []) K) u2=r):=hid (by rw[← hK];exact HS.out);clear hK;go_wp2_with fail;refine(endLine_any _ (HR.out.low qe)).mono ?_;rintro e w3 h3;rcases h3.cases with⟨x3,u3,v3,r3,rfl,b3,V3,R3⟩|⟨u3,r3,rfl,b3⟩
 rotate_left 1
 · exact zEJ_0
 replace HS:=st_ok HS r3;have HD:=hid (hd1.out.up rouF_mv (w1:=w3) qe);replace HB:Hid (Bt g w w3):=hid qh;replace HR:=hid R3;clear b3 R3;clear r3 h3;obtain rfl:=V3;have sm3:=HR.out.small;have hb3:=HD.out.box.lt;clear hd1;go_wp2_with fail;go_loopg [] FU (RoAt L g r K x1 x2 p2 m2 c2 w2.heap.size w)
 case atStart=>exact⟨⟨[],u3,none,0,HS.out,by unfold FU;omega,by simp;omega,HD.out,HR.out⟩,HB.out⟩
 case round=>
  obtain⟨⟨l,u,p,c,hs,hk,hl,hd,hR⟩,hb⟩:=hrel;clear HS HD HR HB;obtain⟨k,rfl⟩:∃k,gk=k+1:=⟨gk-1,by omega⟩
  rw[lcL] at hs;have HL:=hid hl;have HKK:=hid hk;have HLL:Hid (∀x v,run fld u.tail=.ok x v->is kLocal u=true->Gd v/\v.length+1<=u.length):=hid fun x v h hi=>by
   obtain⟨h1,h2⟩:=is_tail hR.gd (by decide) hi;obtain⟨h3,h4⟩:=dn_fld.out h1 h;exact⟨h3,by omega⟩
  have HD:=hid hd;have HR:=hid hR;have HB:=hid hb;have HS:=hid hs;have hbl:=hd.box.lt;clear hl hk hd hR hb hs;go_wp2_with fail;refine(accept_any kLocal _ (HR.out.low qe) (by decide)).mono ?_;rintro e w8 ⟨b8,⟨i8,rfl,R8⟩|⟨i8,rfl,R8⟩⟩
  · have HI:=hid i8;replace HS:=st_bb (st_by HS i8);replace HD:=hid (HD.out.up (rouF_mv) (w1:=w8) qe);replace HB:Hid (Bt g w w8):=hid qh;replace HR:=hid R8;clear b8 R8;clear i8;have lm:World.cell? w8 ⟨w2.heap.size,2,none⟩=some (.slice p l.length c):=HD.out.cell rfl;have hb8:=HD.out.box.lt;go_wp2_with fail;go_region_law (first|(rw[if_pos (by rfl)];refine Lib.wp_append_run _ _ _ _ _ rfl _ _ rfl rfl _ _ hrun ?_)|(go_simp;go_at_call 183;refine(field_any _ (HR.out.low qe)).mono ?_;rintro e' wa h3;rcases h3.cases with⟨x3,u3,v3,r3,rfl,b3,V3,R3⟩|⟨u3,r3,rfl,b3⟩;rotate_left 1;(have HBB:=HB.out;exact⟨rfl,PO.no (st_no HS (by assumption)) qe⟩);obtain rfl:=V3;obtain⟨v5,w5,hrun,⟨p5,n5,rfl⟩,k5,f5,D5,q5⟩:=HD.out.push kFld RFld.map sFld rouF_mv (w1:=wa) qe (i:=2) rfl (by decide) rfl (y:=x3) (ce:=cFld x3) rfl (by have:=HL.out;omega);(have lm2:World.cell? wa ⟨w2.heap.size,2,none⟩=some (.slice p l.length c):=(box_but HD.out.box (S:=fun k=>k≠g) qe (by omega)).get rfl;have lm3:World.cell? (wa.alloc (.cells (cFld x3) 179)) ⟨w2.heap.size,2,none⟩=some (.slice p l.length c):=(box_but HD.out.box (S:=fun k=>k≠g) qe (by omega)).get rfl;dsimp only [cFld] at hrun lm3 ⊢)))
    all_goals
     have HT3:=hid (HLL.out _ _ r3 HI.out);replace HS:=st_bb (st_ok HS r3);have HG:=hid (R3.low (w2:=w5.setCell ⟨w2.heap.size,2,none⟩ (.slice p5 (l.length+1) n5)) (q5.mono fun k _ hk=>by have hk':k<=g:=hk;omega));have HBF:Hid (Bt g w (w5.setCell ⟨w2.heap.size,2,none⟩ (.slice p5 (l.length+1) n5))):=hid (by have HBB:=HB.out;exact Eqv.call (S:=fun k=>k≠g) (S':=fun k=>k<w.heap.size) (w:=wa) qe q5 (fun k hk _=>hk));have e1:(l++[x3]).length=l.length+1:=by simp
     have HDF:Hid (RoB w w2.heap.size x1 x2 p2 m2 c2 (.slice p5 (l++[x3]).length n5) (l++[x3]) [] none 0 0 (w5.setCell ⟨w2.heap.size,2,none⟩ (.slice p5 (l.length+1) n5))):=hid (by rw[e1];exact D5.cast rouF_put rfl);clear HR HB HD D5 q5 R3 b3 hrun k5 f5 r3 h3 lm lm2 lm3 HLL HI;have HR:=HG;have HB:=HBF;have HD:=HDF;clear HG HBF HDF;go_wp2_with fail;refine(endLine_any _ (HR.out.low qe)).mono ?_;rintro e w9 h9;rcases h9.cases with⟨x9,u9,v9,r9,rfl,b9,V9,R9⟩|⟨u9,r9,rfl,b9⟩
     rotate_left 1
     · have HBB:=HB.out;go_wp2_with fail;exact⟨rfl,PO.no (st_no HS (by assumption)) qe⟩
     replace HS:=st_ok HS r9;have HT9:=hid (dn_eol.out HT3.out.1 r9).2;replace HD:=hid (HD.out.up (rouF_mv) (w1:=w9) qe);replace HB:Hid (Bt g w w9):=hid qh;replace HR:=hid R9;clear b9 R9;clear r9 h9;obtain rfl:=V9;go_wp2_with fail;go_roundg k
     case measure=>omega
     case rel=>exact⟨⟨l++[x3],u9,p5,n5,HS.out,by have h1:=HKK.out;have h2:=HT9.out;have h3:=HT3.out.2;omega,by have h1:=HL.out;have h2:=HT9.out;have h3:=HT3.out.2;rw[e1];omega,HD.out,HR.out⟩,HB.out⟩
  · replace HS:=st_br (st_bn HS i8);replace HS:Hid (run (bd sts fun b=>bd (exp kEnd) fun _=>bd eol fun _=>rt ⟨x1,x2,l,b⟩) u=r):=hid (by have h:=HS.out;rw[← HK.out] at h;exact h);replace HD:=hid (HD.out.up (rouF_mv) (w1:=w8) qe);replace HB:Hid (Bt g w w8):=hid qh;replace HR:=hid R8;clear b8 R8;clear i8 HLL;have hb8:=HD.out.box.lt;go_wp2_with fail;refine(sts_any _ (HR.out.low qe)).mono ?_;rintro e w9 h9;rcases h9.cases with⟨x9,u9,v9,r9,rfl,b9,V9,R9⟩|⟨u9,r9,rfl,b9⟩
    rotate_left 1
    · exact zEJ_0
    replace HS:=st_ok HS r9;obtain⟨p9,m9,c9,rfl,k9⟩:=V9;have HD9:Hid (RoB w w2.heap.size x1 x2 p2 m2 c2 (.slice p l.length c) l x9 p9 m9 c9 (w9.setCell ⟨w2.heap.size,3,none⟩ (.slice p9 m9 c9))):=hid (((HD.out.put rouF_mv (w1:=w9) qe (i:=3) (by decide) (F2:=fun G w=>Lin G w x9 p9 m9) k9 mv_lin).cast rouF_body rfl).set rouF_mv 3 (.slice p9 m9 c9));replace HD:=hid (HD.out.up rouF_mv (w1:=w9) qe);replace HB:Hid (Bt g w w9):=hid qh;replace HR:=hid R9;clear b9 R9;clear k9 h9 r9;have lm:World.cell? w9 ⟨w2.heap.size,3,none⟩=some (.slice none 0 0):=HD.out.cell rfl;have fy:∀i,World.frozen? w9 ⟨w2.heap.size,i,none⟩=false:=fun i=>HD.out.frz i;have hb9:=HD.out.box.lt;go_wp2_with fail;clear lm fy;refine(expect_any _ _ (HR.out.low qe) (by decide)).mono ?_;rintro e w10 h10;rcases h10.cases with⟨x10,u10,v10,r10,rfl,b10,V10,R10⟩|⟨u10,r10,rfl,b10⟩
    rotate_left 1
    · exact zEJ_0
    replace HS:=st_ok HS r10;replace HD9:=hid (HD9.out.up rouF_mv (w1:=w10) qe);replace HB:Hid (Bt g w w10):=hid qh;replace HR:=hid R10;clear b10 R10;clear r10 h10;obtain rfl:=V10;go_wp2_with fail;refine(endLine_any _ (HR.out.low qe)).mono ?_;rintro e w11 h11;rcases h11.cases with⟨x11,u11,v11,r11,rfl,b11,V11,R11⟩|⟨u11,r11,rfl,b11⟩
    rotate_left 1
    · exact zEJ_0
    replace HS:=st_ok HS r11;replace HD9:=hid (HD9.out.up rouF_mv (w1:=w11) qe);replace HB:Hid (Bt g w w11):=hid qh;replace HR:=hid R11;clear b11 R11;clear r11 h11;obtain rfl:=V11;have Z0:=HD9.out.part rouF_mv 0;have Z:=hid Z0.2;have Y:Hid (Box w11 w2.heap.size 119 (cRou ⟨x1,x2,l,x9⟩ ⟨p2,m2,c2,p,l.length,c,p9,m9,c9⟩)):=hid HD9.out.box;have K1:=HD9.out.off rouF_mv (z:=w.heap.size) (fun G h=>h.1) (j:=1) (by decide);have K2:=HD9.out.off rouF_mv (z:=w.heap.size) (fun G h=>h.1) (j:=2) (by decide);have K3:=HD9.out.off rouF_mv (z:=w.heap.size) (fun G h=>h.1) (j:=3) (by decide);obtain⟨p',c',e,hrw⟩:=OwnF.rw RFld.map sFld K2 (by have:=HL.out;omega);obtain⟨rfl,rfl⟩:p=p'/\c=c':=by simpa using e
    have q:∀W,Eqv (fun k=>w.heap.size<=k/\¬k=w.heap.size/\¬k=w2.heap.size) w11 W->RRou (fun b=>w.heap.size<=b) W ⟨x1,x2,l,x9⟩ (cRou ⟨x1,x2,l,x9⟩ ⟨p2,m2,c2,p,l.length,c,p9,m9,c9⟩):=fun W q=>⟨_,rfl,⟨(mv_gs (mv_rw RFld.map) K1 q).mono RFld.map fun b hb _=>hb.1,(mv_gs (mv_rw RFld.map) hrw q).mono RFld.map fun b hb _=>hb.1,(lin_gs K3 q).mono fun b hb _=>hb.1⟩⟩
    clear Z0 K1 K2 K3 e hrw HD HD9;obtain⟨W,hP⟩:=put_box (c:=cRou ⟨x1,x2,l,x9⟩ ⟨p2,m2,c2,p,l.length,c,p9,m9,c9⟩) Z.out bRou (cRou_one _ _) rfl;have vr4:=hP.bt;have vr5:=hid hP.box;have vr6:=hP.size;go_wp2_with (first|(refine wpList_load_row rfl 119 _ rfl _ rfl 119 _ (0,0) _ Y.out Tryz.underlying119 rfl (by kernel_rfl) ?_)|(refine wpList_put rfl 119 _ _ rfl w.heap.size _ rfl rfl hP ?_))
    have HBB:=HB.out;refine bodyPost_ret (v:=.agg (cRou ⟨x1,x2,l,x9⟩ ⟨p2,m2,c2,p,l.length,c,p9,m9,c9⟩)) ?_ rfl (PO.ok (st_end HS) qe ⟨_,rfl,q _ qe⟩ (HR.out.low qe));exact results_cell_row rfl _ _ w.heap.size 119 _ (0,0) _ rfl vr5.out Tryz.underlying119 rfl (by kernel_rfl)
end
end Go.Proofs.YtbgodajefaahdaaGreatDoor.Ps
namespace Go.Proofs.YtbgodajefaahdaaGreatDoor.Ps
open Go.RowKit
open Go.Proofs.YtbgodajefaahdaaGreatDoor.Lx (Tk mt)
open Go.Proofs.YtbgodajefaahdaaGreatDoor.Sm (Dt Ints zD)
open Go.Proofs.YtbgodajefaahdaaGreatDoor.Md (Rw At Box Res PRes cRes cRes_one bRes RRes Chg cChg RChg)
set_option maxHeartbeats 2000000
theorem mv_mono {F:(Nat->Prop)->World->Prop} (hm:Mv F) {G H:Nat->Prop} {w:World} (h:F G w) (hk:∀b,G b->H b):F H w:=hm (Nat.le_refl _) (fun b hb _=>⟨hk b hb,rfl⟩) h
theorem mv_ints {l:List Int} {p:Option Addr} {m:Nat}:Mv (fun G w=>Ints G w l p m):=fun hs hk h=>Sm.Ints.map hs hk h
def rscF (z:Nat) (zc:Array Value) (pr:List (Int×Int)) (pp:Option Addr) (pm:Nat) (v:Value) (l:List Chg) (u:Dt) (a:Option Addr) (am:Nat) (b:Option Addr) (bm:Nat) (d:Dt) (e:Option Addr) (em:Nat) (f:Option Addr) (fm:Nat):Nat->(Nat->Prop)->World->Prop
 | 0=>fun G w=>G z/\Box w z 111 zc
 | 1=>fun G w=>Rw 2 RPr G w pr pp pm
 | 2=>fun G w=>OwnF 177 2 RChg G w v l
 | 3=>fun G w=>Ints G w u.vs a am/\Ints G w u.ws b bm
 | 4=>fun G w=>Ints G w d.vs e em/\Ints G w d.ws f fm
 | _+5=>fun _ _=>True
section
variable {z:Nat} {zc:Array Value} {pr pr':List (Int×Int)} {pp pp':Option Addr} {pm pm':Nat} {v v':Value} {l l':List Chg} {u u':Dt} {a a':Option Addr} {am am':Nat} {b b':Option Addr} {bm bm':Nat} {d d':Dt} {e e':Option Addr} {em em':Nat} {f f':Option Addr} {fm fm':Nat}
theorem rscF_mv:∀j,Mv (rscF z zc pr pp pm v l u a am b bm d e em f fm j)
 | 0=>mv_box
 | 1=>mv_rw RPr.map
 | 2=>mv_own RChg.map
 | 3=>mv_and mv_ints mv_ints
 | 4=>mv_and mv_ints mv_ints
 | _+5=>mv_true
theorem rscF_pr:∀j G W,(if j=1 then fun G w=>Rw 2 RPr G w pr' pp' pm' else rscF z zc pr pp pm v l u a am b bm d e em f fm j) G W->rscF z zc pr' pp' pm' v l u a am b bm d e em f fm j G W
 | 0,_,_,h=>h
 | 1,_,_,h=>h
 | 2,_,_,h=>h
 | 3,_,_,h=>h
 | 4,_,_,h=>h
 | _+5,_,_,h=>trivial
theorem rscF_put:∀j G W,(if j=2 then fun G w=>OwnF 177 2 RChg G w v' l' else rscF z zc pr pp pm v l u a am b bm d e em f fm j) G W->rscF z zc pr pp pm v' l' u a am b bm d e em f fm j G W
 | 0,_,_,h=>h
 | 1,_,_,h=>h
 | 2,_,_,h=>h
 | 3,_,_,h=>h
 | 4,_,_,h=>h
 | _+5,_,_,h=>trivial
theorem rscF_up:∀j G W,(if j=3 then fun G w=>Ints G w u'.vs a' am'/\Ints G w u'.ws b' bm' else rscF z zc pr pp pm v l u a am b bm d e em f fm j) G W->rscF z zc pr pp pm v l u' a' am' b' bm' d e em f fm j G W
 | 0,_,_,h=>h
 | 1,_,_,h=>h
 | 2,_,_,h=>h
 | 3,_,_,h=>h
 | 4,_,_,h=>h
 | _+5,_,_,h=>trivial
theorem rscF_dn:∀j G W,(if j=4 then fun G w=>Ints G w d'.vs e' em'/\Ints G w d'.ws f' fm' else rscF z zc pr pp pm v l u a am b bm d e em f fm j) G W->rscF z zc pr pp pm v l u a am b bm d' e' em' f' fm' j G W
 | 0,_,_,h=>h
 | 1,_,_,h=>h
 | 2,_,_,h=>h
 | 3,_,_,h=>h
 | 4,_,_,h=>h
 | _+5,_,_,h=>trivial
end
abbrev RsB (w:World) (B:Nat) (pr:List (Int×Int)) (pp:Option Addr) (pm:Nat) (x:Res) (P:PRes) (W:World):Prop:=Bld w.heap.size B 111 (cRes x P) (rscF w.heap.size #[.string ⟨#[]⟩,.int .i64 0,.slice none 0 0,.int .i64 0,.string ⟨#[]⟩,.int .i64 0,.int .i64 0,.int .i64 0,.int .i64 0,.slice none 0 0,.slice none 0 0,.int .i64 0,.int .i64 0,.int .i64 0,.int .i64 0,.slice none 0 0,.slice none 0 0] pr pp pm (.slice P.shp P.shm P.shc) x.sh x.up P.upvp P.upvm P.upwp P.upwm x.dn P.dnvp P.dnvm P.dnwp P.dnwm) W
structure RsAt (g:Nat) (nm:ByteArray) (un:Int) (B:Nat) (l:List (Int×Int)) (p:Option Addr) (w0 w:World) (n:Nat) (v:Value) (wr:World):Prop where
 ex:∃k q c,k+n=l.length/\v=.int .i64 ((k:Nat):Int)/\RsB w0 B l p l.length ⟨nm,un,(l.take k).map (fun q=>⟨q.1,q.2⟩),0,mt,zD,zD⟩ ⟨q,k,c,none,0,0,none,0,0,none,0,0,none,0,0⟩ wr
 eq:Eqv (fun b=>b<w0.heap.size) w wr
section
variable {L:Lk} {g:Nat} {t:List Tk}
theorem zEL_0 {p:Prop} (h:p:=by
 have HBB:=HB.out;go_wp2_with fail;exact⟨rfl,PO.no (st_no HS (by assumption)) qe⟩
 ):p:=h
theorem zEL_1 {p:Prop} (h:p:=by
 have e2:=e;simp only[Value.slice.injEq] at e2;obtain⟨e3,e4,e5⟩:=e2;rw[← e3,← e4] at hrw;exact hrw
 ):p:=h
theorem zEL_2 {p:Prop} (h:p:=by
 exact results_cell_row rfl _ _ w.heap.size 111 _ (0,0) _ rfl vr5.out Tryz.underlying111 rfl (by kernel_rfl)
 ):p:=h
set_option maxRecDepth 100000 in
theorem resource_any (w:World) (hR:Rd L g t w):Calls Tryz.prog 152 #[.pointer (some ⟨g,0,none⟩)] w (PO L g (VR RRes) (run rsc t) w):=by
 obtain⟨r,hr⟩:∃r,run rsc t=r:=⟨_,rfl⟩
 rw[hr];have HS:=hid hr;have hg:=hR.blk;have HR:=hid hR;have HB:Hid (Bt g w w):=hid (Eqv.refl _ _);clear hR hr;have Z:=hid (Box.new (w:=w) (t:=111) (c:=#[.string ⟨#[]⟩,.int .i64 0,.slice none 0 0,.int .i64 0,.string ⟨#[]⟩,.int .i64 0,.int .i64 0,.int .i64 0,.int .i64 0,.slice none 0 0,.slice none 0 0,.int .i64 0,.int .i64 0,.int .i64 0,.int .i64 0,.slice none 0 0,.slice none 0 0]));go_enter Tryz.func152,Tryz.ntmps152;go_wp2_with fail;refine(name_any _ (HR.out.low qe)).mono ?_;rintro e w1 h1;rcases h1.cases with⟨x1,u1,v1,r1,rfl,b1,V1,R1⟩|⟨u1,r1,rfl,b1⟩
 rotate_left 1
 · exact zEL_0
 replace HS:=st_ok HS r1;replace Z:=hid (box_at (w2:=w1) Z.out qe);replace HB:Hid (Bt g w w1):=hid qh;replace HR:=hid R1;clear b1 R1;clear r1 h1;obtain rfl:=V1;have hz1:=Z.out.lt;go_wp2_with fail;refine(number_any _ (HR.out.low qe)).mono ?_;rintro e w2 h2;rcases h2.cases with⟨x2,u2,v2,r2,rfl,b2,V2,R2⟩|⟨u2,r2,rfl,b2⟩
 rotate_left 1
 · exact zEL_0
 replace HS:=st_ok HS r2;replace Z:=hid (box_at (w2:=w2) Z.out qe);replace HB:Hid (Bt g w w2):=hid qh;replace HR:=hid R2;clear b2 R2;clear r2 h2;obtain⟨rfl,n0,n1⟩:=V2;have hz2:=Z.out.lt;have hd1:Hid (RsB w w2.heap.size [] none 0 ⟨x1,x2,[],0,mt,zD,zD⟩ ⟨none,0,0,none,0,0,none,0,0,none,0,0,none,0,0⟩ (w2.alloc (.cells (cRes ⟨x1,x2,[],0,mt,zD,zD⟩ ⟨none,0,0,none,0,0,none,0,0,none,0,0,none,0,0⟩) 111))):=hid (Bld.new Box.new (Nat.le_of_lt hz2) ⟨⟨Nat.le_refl _,by omega⟩,box_at Z.out qe⟩ mv_box fun j hj G=>(match j,hj with|1,_=>Rw.nil|2,_=>OwnF.nil|3,_=>⟨ints_nil,ints_nil⟩|4,_=>⟨ints_nil,ints_nil⟩|n+5,_=>trivial));clear Z;go_wp2_with (refine wpList_newT 111 17 bRes.2 rfl _ _ rfl _ (cRes ⟨x1,x2,[],0,mt,zD,zD⟩ ⟨none,0,0,none,0,0,none,0,0,none,0,0,none,0,0⟩) rfl rfl rfl rfl (cRes_one _ _) ?_)
 refine(accept_any kShift _ (HR.out.low qe) (by decide)).mono ?_;rintro e w3 ⟨b3,⟨i3,rfl,R3⟩|⟨i3,rfl,R3⟩⟩
 · replace HS:=st_bb (st_by HS i3);have HD:=hid (hd1.out.up rscF_mv (w1:=w3) qe);have hl3:Hid (∀x v,run prs u2.tail=.ok x v->x.length<=30000):=hid (prs_few (s:=kShift) HR.out.gd HR.out.small i3);replace HB:Hid (Bt g w w3):=hid qh;replace HR:=hid R3;clear b3 R3;clear i3 hd1;have hb3:=HD.out.box.lt;go_wp2_with fail;refine(pairs_any _ (HR.out.low qe)).mono ?_;rintro e w4 h4;rcases h4.cases with⟨x4,u4,v4,r4,rfl,b4,V4,R4⟩|⟨u4,r4,rfl,b4⟩
   rotate_left 1
   · exact zEL_0
   have HLN:=hid (hl3.out _ _ r4);replace HS:=st_bb (st_ok HS r4);obtain⟨p4,m4,c4,rfl,k4⟩:=V4;obtain rfl:x4.length=m4:=k4.1;have HD4:Hid (RsB w w2.heap.size x4 p4 x4.length ⟨x1,x2,[],0,mt,zD,zD⟩ ⟨none,0,0,none,0,0,none,0,0,none,0,0,none,0,0⟩ w4):=hid ((HD.out.put rscF_mv (w1:=w4) qe (i:=1) (by decide) (F2:=fun G w=>Rw 2 RPr G w x4 p4 x4.length) k4 (mv_rw RPr.map)).cast rscF_pr rfl);replace HB:Hid (Bt g w w4):=hid qh;replace HR:=hid R4;clear b4 R4;clear r4 h4 hl3 k4 HD;have hb4:=HD4.out.box.lt;go_wp2_with fail;go_loopg [16] x4.length (RsAt g x1 x2 w2.heap.size x4 p4 w w4)
   case atStart=>exact⟨⟨0,none,0,by omega,rfl,HD4.out⟩,Eqv.refl _ _⟩
   case round=>
    obtain⟨⟨k,q,c,hk,rfl,hd⟩,hq⟩:=hrel;have hlen:=HLN.out;have hbr:=hd.box.lt;by_cases hkl:k<x4.length
    · have hpr:=hd.part rscF_mv 1;obtain⟨pb,o,rfl,hpb,hlt,hcc⟩:=Rw.rows hpr (by omega);obtain⟨cc,hc1,hc2,hc3⟩:=hcc.out k hkl;have hc3:cc=cPr x4[k]:=hc3;subst hc3;obtain⟨⟨a,b⟩,hab⟩:∃q,x4[k]=q:=⟨_,rfl⟩
      rw[hab] at hc2;have hcw:At wr pb (o+k*2) #[.int .i64 a,.int .i64 b]:=hc2;have q0:wr.cell? ⟨pb,o+k*2,none⟩=some (.int .i64 a):=by have:=hcw.get (r:=0) rfl;rwa [Nat.add_zero] at this
      have q1:wr.cell? ⟨pb,o+k*2+1,none⟩=some (.int .i64 b):=hcw.get (r:=1) rfl;have k0:(0:Int)<=(k:Int):=by omega
      have k1:(k:Int)<(x4.length:Int):=by omega
      have k2:decide ((k:Int)<(x4.length:Int))=true:=decide_eq_true k1;have hw:IntKind.i64.wrap ((k:Int)+1)=((k+1:Nat):Int):=by rw[IntKind.wrap_i64];omega
      have e1:(wr.alloc (.cells #[.int .i64 a,.int .i64 b] 249)).heap.size=wr.heap.size+1:=by simp
      have el:((x4.take k).map (fun q=>(⟨q.1,q.2⟩:Chg))).length=k:=by simp;omega
      obtain⟨v5,w5,hrun,hform,k5,f5,D5,q5⟩:=hd.push gChg RChg.map sChg_ rscF_mv (w1:=wr.alloc (.cells #[.int .i64 a,.int .i64 b] 249)) qe (i:=2) rfl (by decide) rfl (y:=(⟨a,b⟩:Chg)) (ce:=cChg ⟨a,b⟩) rfl (by rw[el];omega);rw[el] at hform;obtain⟨p5,n5,rfl⟩:=hform;rw[e1] at hrun;have b5:Box (wr.alloc (.cells #[.int .i64 a,.int .i64 b] 249)) wr.heap.size 249 #[.int .i64 a,.int .i64 b]:=Box.new;have lm:World.cell? (wr.alloc (.cells #[.int .i64 a,.int .i64 b] 249)) ⟨w2.heap.size,2,none⟩=some (.slice q k c):=(box_but hd.box (S:=fun k=>k=w2.heap.size) qe rfl).get rfl;have f0:World.cell? _ ⟨wr.heap.size,0,none⟩=some (.int .i64 a):=b5.get rfl;have f1:World.cell? _ ⟨wr.heap.size,1,none⟩=some (.int .i64 b):=b5.get rfl;have HX:Hid (RsB w w2.heap.size x4 (some ⟨pb,o,none⟩) x4.length ⟨x1,x2,(x4.take (k+1)).map (fun q=>(⟨q.1,q.2⟩:Chg)),0,mt,zD,zD⟩ ⟨p5,k+1,n5,none,0,0,none,0,0,none,0,0,none,0,0⟩ (w5.setCell ⟨w2.heap.size,2,none⟩ (.slice p5 (k+1) n5))/\Eqv (fun b=>b<w.heap.size) w4 (w5.setCell ⟨w2.heap.size,2,none⟩ (.slice p5 (k+1) n5))):=hid ⟨by rw[take_map _ hkl,hab];exact D5.cast rscF_put rfl,Eqv.call (S':=fun k=>k<w.heap.size) hq.alloc q5 (fun k _ h=>h)⟩;dsimp only [cChg] at hrun;clear hd hq hpr hcc hc1 hc2 hcw b5 D5 q5 HS HB HR;go_wp2_with (at_builtin;refine Lib.wpList_append_run _ rfl _ _ _ _ rfl _ _ rfl rfl _ _ hrun ?_)
      go_roundg (gk-1)
      case measure=>omega
      case rel=>exact⟨⟨k+1,p5,n5,by omega,rfl,HX.out.1⟩,HX.out.2⟩
    · obtain rfl:k=x4.length:=by omega
      rw[List.take_length] at hd;have HD:=hid hd;have HL:=hid hlen;have k2:decide ((x4.length:Int)<(x4.length:Int))=false:=decide_eq_false (by omega);have k3:¬((x4.length:Int)<(x4.length:Int)):=by omega
      replace HB:Hid (Bt g w wr):=hid (by have HBB:=HB.out;exact HBB.call hq (by intro k hk _;exact hk));replace HR:Hid (Rd L g u4 wr):=hid (HR.out.low (hq.mono fun k _ hk=>by have hk':k<=g:=hk;omega));clear hd hq hk hkl HD4 hlen HLN;go_wp2_with fail;refine(expect_any _ _ (HR.out.low qe) (by decide)).mono ?_;rintro e w5 h5;rcases h5.cases with⟨x5,u5,v5,r5,rfl,b5,V5,R5⟩|⟨u5,r5,rfl,b5⟩
      rotate_left 1
      · exact zEL_0
      replace HS:=st_ok HS r5;replace HD:=hid (HD.out.up (rscF_mv) (w1:=w5) qe);replace HB:Hid (Bt g w w5):=hid qh;replace HR:=hid R5;clear b5 R5;clear r5 h5;obtain rfl:=V5;replace HS:=st_bb HS;have hb5:=HD.out.box.lt;go_wp2_with fail;refine(number_any _ (HR.out.low qe)).mono ?_;rintro e w6 h6;rcases h6.cases with⟨x6,u6,v6,r6,rfl,b6,V6,R6⟩|⟨u6,r6,rfl,b6⟩
      rotate_left 1
      · exact zEL_0
      replace HS:=st_ok HS r6;replace HD:=hid (HD.out.up (rscF_mv) (w1:=w6) qe);replace HB:Hid (Bt g w w6):=hid qh;replace HR:=hid R6;clear b6 R6;clear r6 h6;obtain⟨rfl,n2,n3⟩:=V6;replace HS:=st_br HS;have hb6:=HD.out.box.lt;have lm:World.cell? w6 ⟨w2.heap.size,3,none⟩=some (.int .i64 0):=HD.out.cell rfl;have fy:∀i,World.frozen? w6 ⟨w2.heap.size,i,none⟩=false:=fun i=>HD.out.frz i;go_wp2_with fail;replace HD:Hid (RsB w w2.heap.size x4 p4 x4.length ⟨x1,x2,x4.map (fun q=>(⟨q.1,q.2⟩:Chg)),x6,mt,zD,zD⟩ ⟨q,x4.length,c,none,0,0,none,0,0,none,0,0,none,0,0⟩ (w6.setCell ⟨w2.heap.size,3,none⟩ (.int .i64 x6))):=hid (HD.out.set rscF_mv 3 (.int .i64 x6));clear lm fy;refine(accept_any kFault _ (HR.out.low qe) (by decide)).mono ?_;rintro e w20 ⟨b20,⟨i20,rfl,R20⟩|⟨i20,rfl,R20⟩⟩
      · replace HS:=st_bb (st_by HS i20);replace HD:=hid (HD.out.up (rscF_mv) (w1:=w20) qe);replace HB:Hid (Bt g w w20):=hid qh;replace HR:=hid R20;clear b20 R20;clear i20;have hb20:=HD.out.box.lt;go_wp2_with fail;refine(name_any _ (HR.out.low qe)).mono ?_;rintro e w21 h21;rcases h21.cases with⟨x21,u21,v21,r21,rfl,b21,V21,R21⟩|⟨u21,r21,rfl,b21⟩
        rotate_left 1
        · exact zEL_0
        replace HS:=st_ok HS r21;replace HD:=hid (HD.out.up (rscF_mv) (w1:=w21) qe);replace HB:Hid (Bt g w w21):=hid qh;replace HR:=hid R21;clear b21 R21;clear r21 h21;obtain rfl:=V21;have hb21:=HD.out.box.lt;replace HS:=st_bb HS;have lm:World.cell? w21 ⟨w2.heap.size,4,none⟩=some (.string ⟨#[]⟩):=HD.out.cell rfl;have fy:∀i,World.frozen? w21 ⟨w2.heap.size,i,none⟩=false:=fun i=>HD.out.frz i;go_wp2_with fail;replace HD:Hid (RsB w w2.heap.size x4 p4 x4.length ⟨x1,x2,x4.map (fun q=>(⟨q.1,q.2⟩:Chg)),x6,x21,zD,zD⟩ ⟨q,x4.length,c,none,0,0,none,0,0,none,0,0,none,0,0⟩ (w21.setCell ⟨w2.heap.size,4,none⟩ (.string x21))):=hid (HD.out.set rscF_mv 4 (.string x21));clear lm fy;refine(expect_any _ _ (HR.out.low qe) (by decide)).mono ?_;rintro e w22 h22;rcases h22.cases with⟨x22,u22,v22,r22,rfl,b22,V22,R22⟩|⟨u22,r22,rfl,b22⟩
        rotate_left 1
        · exact zEL_0
        replace HS:=st_ok HS r22;replace HD:=hid (HD.out.up (rscF_mv) (w1:=w22) qe);replace HB:Hid (Bt g w w22):=hid qh;replace HR:=hid R22;clear b22 R22;clear r22 h22;obtain rfl:=V22;have hb22:=HD.out.box.lt;replace HS:=st_bb HS;go_wp2_with fail;refine(dist_any _ (HR.out.low qe)).mono ?_;rintro e w23 h23;rcases h23.cases with⟨x23,u23,v23,r23,rfl,b23,V23,R23⟩|⟨u23,r23,rfl,b23⟩
        rotate_left 1
        · exact zEL_0
        replace HS:=st_ok HS r23;obtain⟨vp23,vm23,vc23,wp23,wm23,wc23,rfl,kv23,kw23⟩:=V23;have HDp:=(HD.out.put rscF_mv (w1:=w23) qe (i:=3) (by decide) (F2:=fun G w=>Ints G w x23.vs vp23 vm23/\Ints G w x23.ws wp23 wm23) ⟨kv23,kw23⟩ (mv_and mv_ints mv_ints)).cast rscF_up rfl;have HDF:Hid (RsB w w2.heap.size x4 p4 x4.length ⟨x1,x2,x4.map (fun q=>(⟨q.1,q.2⟩:Chg)),x6,x21,x23,zD⟩ ⟨q,x4.length,c,vp23,vm23,vc23,wp23,wm23,wc23,none,0,0,none,0,0⟩ (((((((w23).setCell ⟨w2.heap.size,5,none⟩ (.int .i64 x23.op)).setCell ⟨w2.heap.size,6,none⟩ (.int .i64 x23.a)).setCell ⟨w2.heap.size,7,none⟩ (.int .i64 x23.b)).setCell ⟨w2.heap.size,8,none⟩ (.int .i64 x23.n)).setCell ⟨w2.heap.size,9,none⟩ (.slice vp23 vm23 vc23)).setCell ⟨w2.heap.size,10,none⟩ (.slice wp23 wm23 wc23))):=hid (((((((HDp).set rscF_mv 5 (.int .i64 x23.op)).set rscF_mv 6 (.int .i64 x23.a)).set rscF_mv 7 (.int .i64 x23.b)).set rscF_mv 8 (.int .i64 x23.n)).set rscF_mv 9 (.slice vp23 vm23 vc23)).set rscF_mv 10 (.slice wp23 wm23 wc23));replace HD:=hid (HD.out.up rscF_mv (w1:=w23) qe);replace HB:Hid (Bt g w w23):=hid qh;replace HR:=hid R23;clear b23 R23;clear r23 h23 kv23 kw23 HDp;have y0:World.cell? w23 ⟨w2.heap.size,5,none⟩=some (.int .i64 0):=HD.out.cell rfl;have y1:World.cell? w23 ⟨w2.heap.size,6,none⟩=some (.int .i64 0):=HD.out.cell rfl;have y2:World.cell? w23 ⟨w2.heap.size,7,none⟩=some (.int .i64 0):=HD.out.cell rfl;have y3:World.cell? w23 ⟨w2.heap.size,8,none⟩=some (.int .i64 0):=HD.out.cell rfl;have y4:World.cell? w23 ⟨w2.heap.size,9,none⟩=some (.slice none 0 0):=HD.out.cell rfl;have y5:World.cell? w23 ⟨w2.heap.size,10,none⟩=some (.slice none 0 0):=HD.out.cell rfl;have fy:∀i,World.frozen? w23 ⟨w2.heap.size,i,none⟩=false:=fun i=>HD.out.frz i;have hb23:=HD.out.box.lt;dsimp only [cDs];go_wp2_with fail;replace HD:=HDF;clear HDF y0 y1 y2 y3 y4 y5 fy;replace HS:=st_bb HS;refine(expect_any _ _ (HR.out.low qe) (by decide)).mono ?_;rintro e w24 h24;rcases h24.cases with⟨x24,u24,v24,r24,rfl,b24,V24,R24⟩|⟨u24,r24,rfl,b24⟩
        rotate_left 1
        · exact zEL_0
        replace HS:=st_ok HS r24;replace HD:=hid (HD.out.up (rscF_mv) (w1:=w24) qe);replace HB:Hid (Bt g w w24):=hid qh;replace HR:=hid R24;clear b24 R24;clear r24 h24;obtain rfl:=V24;have hb24:=HD.out.box.lt;replace HS:=st_bb HS;go_wp2_with fail;refine(dist_any _ (HR.out.low qe)).mono ?_;rintro e w25 h25;rcases h25.cases with⟨x25,u25,v25,r25,rfl,b25,V25,R25⟩|⟨u25,r25,rfl,b25⟩
        rotate_left 1
        · exact zEL_0
        replace HS:=st_ok HS r25;obtain⟨vp25,vm25,vc25,wp25,wm25,wc25,rfl,kv25,kw25⟩:=V25;have HDp:=(HD.out.put rscF_mv (w1:=w25) qe (i:=4) (by decide) (F2:=fun G w=>Ints G w x25.vs vp25 vm25/\Ints G w x25.ws wp25 wm25) ⟨kv25,kw25⟩ (mv_and mv_ints mv_ints)).cast rscF_dn rfl;have HDF:Hid (RsB w w2.heap.size x4 p4 x4.length ⟨x1,x2,x4.map (fun q=>(⟨q.1,q.2⟩:Chg)),x6,x21,x23,x25⟩ ⟨q,x4.length,c,vp23,vm23,vc23,wp23,wm23,wc23,vp25,vm25,vc25,wp25,wm25,wc25⟩ (((((((w25).setCell ⟨w2.heap.size,11,none⟩ (.int .i64 x25.op)).setCell ⟨w2.heap.size,12,none⟩ (.int .i64 x25.a)).setCell ⟨w2.heap.size,13,none⟩ (.int .i64 x25.b)).setCell ⟨w2.heap.size,14,none⟩ (.int .i64 x25.n)).setCell ⟨w2.heap.size,15,none⟩ (.slice vp25 vm25 vc25)).setCell ⟨w2.heap.size,16,none⟩ (.slice wp25 wm25 wc25))):=hid (((((((HDp).set rscF_mv 11 (.int .i64 x25.op)).set rscF_mv 12 (.int .i64 x25.a)).set rscF_mv 13 (.int .i64 x25.b)).set rscF_mv 14 (.int .i64 x25.n)).set rscF_mv 15 (.slice vp25 vm25 vc25)).set rscF_mv 16 (.slice wp25 wm25 wc25));replace HD:=hid (HD.out.up rscF_mv (w1:=w25) qe);replace HB:Hid (Bt g w w25):=hid qh;replace HR:=hid R25;clear b25 R25;clear r25 h25 kv25 kw25 HDp;have y0:World.cell? w25 ⟨w2.heap.size,11,none⟩=some (.int .i64 0):=HD.out.cell rfl;have y1:World.cell? w25 ⟨w2.heap.size,12,none⟩=some (.int .i64 0):=HD.out.cell rfl;have y2:World.cell? w25 ⟨w2.heap.size,13,none⟩=some (.int .i64 0):=HD.out.cell rfl;have y3:World.cell? w25 ⟨w2.heap.size,14,none⟩=some (.int .i64 0):=HD.out.cell rfl;have y4:World.cell? w25 ⟨w2.heap.size,15,none⟩=some (.slice none 0 0):=HD.out.cell rfl;have y5:World.cell? w25 ⟨w2.heap.size,16,none⟩=some (.slice none 0 0):=HD.out.cell rfl;have fy:∀i,World.frozen? w25 ⟨w2.heap.size,i,none⟩=false:=fun i=>HD.out.frz i;have hb25:=HD.out.box.lt;dsimp only [cDs];go_wp2_with fail;replace HD:=HDF;clear HDF y0 y1 y2 y3 y4 y5 fy;replace HS:=st_br HS;refine(endLine_any _ (HR.out.low qe)).mono ?_;rintro e w26 h26;rcases h26.cases with⟨x26,u26,v26,r26,rfl,b26,V26,R26⟩|⟨u26,r26,rfl,b26⟩
        rotate_left 1
        · exact zEL_0
        replace HS:=st_ok HS r26;replace HD:=hid (HD.out.up (rscF_mv) (w1:=w26) qe);replace HB:Hid (Bt g w w26):=hid qh;replace HR:=hid R26;clear b26 R26;clear r26 h26;obtain rfl:=V26;have Z0:=HD.out.part rscF_mv 0;have Z:=hid Z0.2;have Y:Hid (Box w26 w2.heap.size 111 (cRes ⟨x1,x2,x4.map (fun q=>(⟨q.1,q.2⟩:Chg)),x6,x21,x23,x25⟩ ⟨q,x4.length,c,vp23,vm23,vc23,wp23,wm23,wc23,vp25,vm25,vc25,wp25,wm25,wc25⟩)):=hid HD.out.box;have K2:=HD.out.off rscF_mv (z:=w.heap.size) (fun G h=>h.1) (j:=2) (by decide);have K3:=HD.out.off rscF_mv (z:=w.heap.size) (fun G h=>h.1) (j:=3) (by decide);have K4:=HD.out.off rscF_mv (z:=w.heap.size) (fun G h=>h.1) (j:=4) (by decide);obtain⟨p',c',e,hrw⟩:=OwnF.rw RChg.map sChg_ K2 (by have:=HL.out;simp;omega);have hrw2:Rw 2 RChg (fun k=>w.heap.size<=k/\¬k=w.heap.size/\¬k=w2.heap.size) w26 (x4.map (fun q=>(⟨q.1,q.2⟩:Chg))) q x4.length:=by
         exact zEL_1
        have qW:∀W,Eqv (fun k=>w.heap.size<=k/\¬k=w.heap.size/\¬k=w2.heap.size) w26 W->RRes (fun b=>w.heap.size<=b) W ⟨x1,x2,x4.map (fun q=>(⟨q.1,q.2⟩:Chg)),x6,x21,x23,x25⟩ (cRes ⟨x1,x2,x4.map (fun q=>(⟨q.1,q.2⟩:Chg)),x6,x21,x23,x25⟩ ⟨q,x4.length,c,vp23,vm23,vc23,wp23,wm23,wc23,vp25,vm25,vc25,wp25,wm25,wc25⟩):=fun W q=>⟨_,rfl,⟨(mv_gs (mv_rw RChg.map) hrw2 q).mono RChg.map fun b hb _=>hb.1,mv_mono mv_ints (mv_gs mv_ints K3.1 q) fun b hb=>hb.1,mv_mono mv_ints (mv_gs mv_ints K3.2 q) fun b hb=>hb.1,mv_mono mv_ints (mv_gs mv_ints K4.1 q) fun b hb=>hb.1,mv_mono mv_ints (mv_gs mv_ints K4.2 q) fun b hb=>hb.1⟩⟩
        clear Z0 K2 K3 K4 e hrw hrw2 HD;obtain⟨W,hP⟩:=put_box (c:=cRes ⟨x1,x2,x4.map (fun q=>(⟨q.1,q.2⟩:Chg)),x6,x21,x23,x25⟩ ⟨q,x4.length,c,vp23,vm23,vc23,wp23,wm23,wc23,vp25,vm25,vc25,wp25,wm25,wc25⟩) Z.out bRes (cRes_one _ _) rfl;have vr4:=hP.bt;have vr5:=hid hP.box;have vr6:=hP.size;go_wp2_with (first|(refine wpList_load_row rfl 111 _ rfl _ rfl 111 _ (0,0) _ Y.out Tryz.underlying111 rfl (by kernel_rfl) ?_)|(refine wpList_put rfl 111 _ _ rfl w.heap.size _ rfl rfl hP ?_))
        have HBB:=HB.out;refine bodyPost_ret (v:=.agg (cRes ⟨x1,x2,x4.map (fun q=>(⟨q.1,q.2⟩:Chg)),x6,x21,x23,x25⟩ ⟨q,x4.length,c,vp23,vm23,vc23,wp23,wm23,wc23,vp25,vm25,vc25,wp25,wm25,wc25⟩)) ?_ rfl (PO.ok (st_end HS) qe ⟨_,rfl,qW _ qe⟩ (HR.out.low qe));exact zEL_2
      · replace HS:=st_br (st_bn HS i20);replace HD:=hid (HD.out.up (rscF_mv) (w1:=w20) qe);replace HB:Hid (Bt g w w20):=hid qh;replace HR:=hid R20;clear b20 R20;clear i20;have hb20:=HD.out.box.lt;go_wp2_with fail;refine(endLine_any _ (HR.out.low qe)).mono ?_;rintro e w26 h26;rcases h26.cases with⟨x26,u26,v26,r26,rfl,b26,V26,R26⟩|⟨u26,r26,rfl,b26⟩
        rotate_left 1
        · exact zEL_0
        replace HS:=st_ok HS r26;replace HD:=hid (HD.out.up (rscF_mv) (w1:=w26) qe);replace HB:Hid (Bt g w w26):=hid qh;replace HR:=hid R26;clear b26 R26;clear r26 h26;obtain rfl:=V26;have Z0:=HD.out.part rscF_mv 0;have Z:=hid Z0.2;have Y:Hid (Box w26 w2.heap.size 111 (cRes ⟨x1,x2,x4.map (fun q=>(⟨q.1,q.2⟩:Chg)),x6,mt,zD,zD⟩ ⟨q,x4.length,c,none,0,0,none,0,0,none,0,0,none,0,0⟩)):=hid HD.out.box;have K2:=HD.out.off rscF_mv (z:=w.heap.size) (fun G h=>h.1) (j:=2) (by decide);have K3:=HD.out.off rscF_mv (z:=w.heap.size) (fun G h=>h.1) (j:=3) (by decide);have K4:=HD.out.off rscF_mv (z:=w.heap.size) (fun G h=>h.1) (j:=4) (by decide);obtain⟨p',c',e,hrw⟩:=OwnF.rw RChg.map sChg_ K2 (by have:=HL.out;simp;omega);have hrw2:Rw 2 RChg (fun k=>w.heap.size<=k/\¬k=w.heap.size/\¬k=w2.heap.size) w26 (x4.map (fun q=>(⟨q.1,q.2⟩:Chg))) q x4.length:=by
         exact zEL_1
        have qW:∀W,Eqv (fun k=>w.heap.size<=k/\¬k=w.heap.size/\¬k=w2.heap.size) w26 W->RRes (fun b=>w.heap.size<=b) W ⟨x1,x2,x4.map (fun q=>(⟨q.1,q.2⟩:Chg)),x6,mt,zD,zD⟩ (cRes ⟨x1,x2,x4.map (fun q=>(⟨q.1,q.2⟩:Chg)),x6,mt,zD,zD⟩ ⟨q,x4.length,c,none,0,0,none,0,0,none,0,0,none,0,0⟩):=fun W q=>⟨_,rfl,⟨(mv_gs (mv_rw RChg.map) hrw2 q).mono RChg.map fun b hb _=>hb.1,mv_mono mv_ints (mv_gs mv_ints K3.1 q) fun b hb=>hb.1,mv_mono mv_ints (mv_gs mv_ints K3.2 q) fun b hb=>hb.1,mv_mono mv_ints (mv_gs mv_ints K4.1 q) fun b hb=>hb.1,mv_mono mv_ints (mv_gs mv_ints K4.2 q) fun b hb=>hb.1⟩⟩
        clear Z0 K2 K3 K4 e hrw hrw2 HD;obtain⟨W,hP⟩:=put_box (c:=cRes ⟨x1,x2,x4.map (fun q=>(⟨q.1,q.2⟩:Chg)),x6,mt,zD,zD⟩ ⟨q,x4.length,c,none,0,0,none,0,0,none,0,0,none,0,0⟩) Z.out bRes (cRes_one _ _) rfl;have vr4:=hP.bt;have vr5:=hid hP.box;have vr6:=hP.size;go_wp2_with (first|(refine wpList_load_row rfl 111 _ rfl _ rfl 111 _ (0,0) _ Y.out Tryz.underlying111 rfl (by kernel_rfl) ?_)|(refine wpList_put rfl 111 _ _ rfl w.heap.size _ rfl rfl hP ?_))
        have HBB:=HB.out;refine bodyPost_ret (v:=.agg (cRes ⟨x1,x2,x4.map (fun q=>(⟨q.1,q.2⟩:Chg)),x6,mt,zD,zD⟩ ⟨q,x4.length,c,none,0,0,none,0,0,none,0,0,none,0,0⟩)) ?_ rfl (PO.ok (st_end HS) qe ⟨_,rfl,qW _ qe⟩ (HR.out.low qe));exact zEL_2
 · replace HS:=st_br (st_bn HS i3);have HD:=hid (hd1.out.up rscF_mv (w1:=w3) qe);replace HB:Hid (Bt g w w3):=hid qh;replace HR:=hid R3;clear b3 R3;clear i3 hd1;have hb3:=HD.out.box.lt;go_wp2_with fail;refine(accept_any kFault _ (HR.out.low qe) (by decide)).mono ?_;rintro e w20 ⟨b20,⟨i20,rfl,R20⟩|⟨i20,rfl,R20⟩⟩
   · replace HS:=st_bb (st_by HS i20);replace HD:=hid (HD.out.up (rscF_mv) (w1:=w20) qe);replace HB:Hid (Bt g w w20):=hid qh;replace HR:=hid R20;clear b20 R20;clear i20;have hb20:=HD.out.box.lt;go_wp2_with fail;refine(name_any _ (HR.out.low qe)).mono ?_;rintro e w21 h21;rcases h21.cases with⟨x21,u21,v21,r21,rfl,b21,V21,R21⟩|⟨u21,r21,rfl,b21⟩
     rotate_left 1
     · exact zEL_0
     replace HS:=st_ok HS r21;replace HD:=hid (HD.out.up (rscF_mv) (w1:=w21) qe);replace HB:Hid (Bt g w w21):=hid qh;replace HR:=hid R21;clear b21 R21;clear r21 h21;obtain rfl:=V21;have hb21:=HD.out.box.lt;replace HS:=st_bb HS;have lm:World.cell? w21 ⟨w2.heap.size,4,none⟩=some (.string ⟨#[]⟩):=HD.out.cell rfl;have fy:∀i,World.frozen? w21 ⟨w2.heap.size,i,none⟩=false:=fun i=>HD.out.frz i;go_wp2_with fail;replace HD:Hid (RsB w w2.heap.size [] none 0 ⟨x1,x2,[],0,x21,zD,zD⟩ ⟨none,0,0,none,0,0,none,0,0,none,0,0,none,0,0⟩ (w21.setCell ⟨w2.heap.size,4,none⟩ (.string x21))):=hid (HD.out.set rscF_mv 4 (.string x21));clear lm fy;refine(expect_any _ _ (HR.out.low qe) (by decide)).mono ?_;rintro e w22 h22;rcases h22.cases with⟨x22,u22,v22,r22,rfl,b22,V22,R22⟩|⟨u22,r22,rfl,b22⟩
     rotate_left 1
     · exact zEL_0
     replace HS:=st_ok HS r22;replace HD:=hid (HD.out.up (rscF_mv) (w1:=w22) qe);replace HB:Hid (Bt g w w22):=hid qh;replace HR:=hid R22;clear b22 R22;clear r22 h22;obtain rfl:=V22;have hb22:=HD.out.box.lt;replace HS:=st_bb HS;go_wp2_with fail;refine(dist_any _ (HR.out.low qe)).mono ?_;rintro e w23 h23;rcases h23.cases with⟨x23,u23,v23,r23,rfl,b23,V23,R23⟩|⟨u23,r23,rfl,b23⟩
     rotate_left 1
     · exact zEL_0
     replace HS:=st_ok HS r23;obtain⟨vp23,vm23,vc23,wp23,wm23,wc23,rfl,kv23,kw23⟩:=V23;have HDp:=(HD.out.put rscF_mv (w1:=w23) qe (i:=3) (by decide) (F2:=fun G w=>Ints G w x23.vs vp23 vm23/\Ints G w x23.ws wp23 wm23) ⟨kv23,kw23⟩ (mv_and mv_ints mv_ints)).cast rscF_up rfl;have HDF:Hid (RsB w w2.heap.size [] none 0 ⟨x1,x2,[],0,x21,x23,zD⟩ ⟨none,0,0,vp23,vm23,vc23,wp23,wm23,wc23,none,0,0,none,0,0⟩ (((((((w23).setCell ⟨w2.heap.size,5,none⟩ (.int .i64 x23.op)).setCell ⟨w2.heap.size,6,none⟩ (.int .i64 x23.a)).setCell ⟨w2.heap.size,7,none⟩ (.int .i64 x23.b)).setCell ⟨w2.heap.size,8,none⟩ (.int .i64 x23.n)).setCell ⟨w2.heap.size,9,none⟩ (.slice vp23 vm23 vc23)).setCell ⟨w2.heap.size,10,none⟩ (.slice wp23 wm23 wc23))):=hid (((((((HDp).set rscF_mv 5 (.int .i64 x23.op)).set rscF_mv 6 (.int .i64 x23.a)).set rscF_mv 7 (.int .i64 x23.b)).set rscF_mv 8 (.int .i64 x23.n)).set rscF_mv 9 (.slice vp23 vm23 vc23)).set rscF_mv 10 (.slice wp23 wm23 wc23));replace HD:=hid (HD.out.up rscF_mv (w1:=w23) qe);replace HB:Hid (Bt g w w23):=hid qh;replace HR:=hid R23;clear b23 R23;clear r23 h23 kv23 kw23 HDp;have y0:World.cell? w23 ⟨w2.heap.size,5,none⟩=some (.int .i64 0):=HD.out.cell rfl;have y1:World.cell? w23 ⟨w2.heap.size,6,none⟩=some (.int .i64 0):=HD.out.cell rfl;have y2:World.cell? w23 ⟨w2.heap.size,7,none⟩=some (.int .i64 0):=HD.out.cell rfl;have y3:World.cell? w23 ⟨w2.heap.size,8,none⟩=some (.int .i64 0):=HD.out.cell rfl;have y4:World.cell? w23 ⟨w2.heap.size,9,none⟩=some (.slice none 0 0):=HD.out.cell rfl;have y5:World.cell? w23 ⟨w2.heap.size,10,none⟩=some (.slice none 0 0):=HD.out.cell rfl;have fy:∀i,World.frozen? w23 ⟨w2.heap.size,i,none⟩=false:=fun i=>HD.out.frz i;have hb23:=HD.out.box.lt;dsimp only [cDs];go_wp2_with fail;replace HD:=HDF;clear HDF y0 y1 y2 y3 y4 y5 fy;replace HS:=st_bb HS;refine(expect_any _ _ (HR.out.low qe) (by decide)).mono ?_;rintro e w24 h24;rcases h24.cases with⟨x24,u24,v24,r24,rfl,b24,V24,R24⟩|⟨u24,r24,rfl,b24⟩
     rotate_left 1
     · exact zEL_0
     replace HS:=st_ok HS r24;replace HD:=hid (HD.out.up (rscF_mv) (w1:=w24) qe);replace HB:Hid (Bt g w w24):=hid qh;replace HR:=hid R24;clear b24 R24;clear r24 h24;obtain rfl:=V24;have hb24:=HD.out.box.lt;replace HS:=st_bb HS;go_wp2_with fail;refine(dist_any _ (HR.out.low qe)).mono ?_;rintro e w25 h25;rcases h25.cases with⟨x25,u25,v25,r25,rfl,b25,V25,R25⟩|⟨u25,r25,rfl,b25⟩
     rotate_left 1
     · exact zEL_0
     replace HS:=st_ok HS r25;obtain⟨vp25,vm25,vc25,wp25,wm25,wc25,rfl,kv25,kw25⟩:=V25;have HDp:=(HD.out.put rscF_mv (w1:=w25) qe (i:=4) (by decide) (F2:=fun G w=>Ints G w x25.vs vp25 vm25/\Ints G w x25.ws wp25 wm25) ⟨kv25,kw25⟩ (mv_and mv_ints mv_ints)).cast rscF_dn rfl;have HDF:Hid (RsB w w2.heap.size [] none 0 ⟨x1,x2,[],0,x21,x23,x25⟩ ⟨none,0,0,vp23,vm23,vc23,wp23,wm23,wc23,vp25,vm25,vc25,wp25,wm25,wc25⟩ (((((((w25).setCell ⟨w2.heap.size,11,none⟩ (.int .i64 x25.op)).setCell ⟨w2.heap.size,12,none⟩ (.int .i64 x25.a)).setCell ⟨w2.heap.size,13,none⟩ (.int .i64 x25.b)).setCell ⟨w2.heap.size,14,none⟩ (.int .i64 x25.n)).setCell ⟨w2.heap.size,15,none⟩ (.slice vp25 vm25 vc25)).setCell ⟨w2.heap.size,16,none⟩ (.slice wp25 wm25 wc25))):=hid (((((((HDp).set rscF_mv 11 (.int .i64 x25.op)).set rscF_mv 12 (.int .i64 x25.a)).set rscF_mv 13 (.int .i64 x25.b)).set rscF_mv 14 (.int .i64 x25.n)).set rscF_mv 15 (.slice vp25 vm25 vc25)).set rscF_mv 16 (.slice wp25 wm25 wc25));replace HD:=hid (HD.out.up rscF_mv (w1:=w25) qe);replace HB:Hid (Bt g w w25):=hid qh;replace HR:=hid R25;clear b25 R25;clear r25 h25 kv25 kw25 HDp;have y0:World.cell? w25 ⟨w2.heap.size,11,none⟩=some (.int .i64 0):=HD.out.cell rfl;have y1:World.cell? w25 ⟨w2.heap.size,12,none⟩=some (.int .i64 0):=HD.out.cell rfl;have y2:World.cell? w25 ⟨w2.heap.size,13,none⟩=some (.int .i64 0):=HD.out.cell rfl;have y3:World.cell? w25 ⟨w2.heap.size,14,none⟩=some (.int .i64 0):=HD.out.cell rfl;have y4:World.cell? w25 ⟨w2.heap.size,15,none⟩=some (.slice none 0 0):=HD.out.cell rfl;have y5:World.cell? w25 ⟨w2.heap.size,16,none⟩=some (.slice none 0 0):=HD.out.cell rfl;have fy:∀i,World.frozen? w25 ⟨w2.heap.size,i,none⟩=false:=fun i=>HD.out.frz i;have hb25:=HD.out.box.lt;dsimp only [cDs];go_wp2_with fail;replace HD:=HDF;clear HDF y0 y1 y2 y3 y4 y5 fy;replace HS:=st_br HS;refine(endLine_any _ (HR.out.low qe)).mono ?_;rintro e w26 h26;rcases h26.cases with⟨x26,u26,v26,r26,rfl,b26,V26,R26⟩|⟨u26,r26,rfl,b26⟩
     rotate_left 1
     · exact zEL_0
     replace HS:=st_ok HS r26;replace HD:=hid (HD.out.up (rscF_mv) (w1:=w26) qe);replace HB:Hid (Bt g w w26):=hid qh;replace HR:=hid R26;clear b26 R26;clear r26 h26;obtain rfl:=V26;have Z0:=HD.out.part rscF_mv 0;have Z:=hid Z0.2;have Y:Hid (Box w26 w2.heap.size 111 (cRes ⟨x1,x2,[],0,x21,x23,x25⟩ ⟨none,0,0,vp23,vm23,vc23,wp23,wm23,wc23,vp25,vm25,vc25,wp25,wm25,wc25⟩)):=hid HD.out.box;have K2:=HD.out.off rscF_mv (z:=w.heap.size) (fun G h=>h.1) (j:=2) (by decide);have K3:=HD.out.off rscF_mv (z:=w.heap.size) (fun G h=>h.1) (j:=3) (by decide);have K4:=HD.out.off rscF_mv (z:=w.heap.size) (fun G h=>h.1) (j:=4) (by decide);obtain⟨p',c',e,hrw⟩:=OwnF.rw RChg.map sChg_ K2 (by simp);have hrw2:Rw 2 RChg (fun k=>w.heap.size<=k/\¬k=w.heap.size/\¬k=w2.heap.size) w26 ([]) none 0:=by
      exact zEL_1
     have qW:∀W,Eqv (fun k=>w.heap.size<=k/\¬k=w.heap.size/\¬k=w2.heap.size) w26 W->RRes (fun b=>w.heap.size<=b) W ⟨x1,x2,[],0,x21,x23,x25⟩ (cRes ⟨x1,x2,[],0,x21,x23,x25⟩ ⟨none,0,0,vp23,vm23,vc23,wp23,wm23,wc23,vp25,vm25,vc25,wp25,wm25,wc25⟩):=fun W q=>⟨_,rfl,⟨(mv_gs (mv_rw RChg.map) hrw2 q).mono RChg.map fun b hb _=>hb.1,mv_mono mv_ints (mv_gs mv_ints K3.1 q) fun b hb=>hb.1,mv_mono mv_ints (mv_gs mv_ints K3.2 q) fun b hb=>hb.1,mv_mono mv_ints (mv_gs mv_ints K4.1 q) fun b hb=>hb.1,mv_mono mv_ints (mv_gs mv_ints K4.2 q) fun b hb=>hb.1⟩⟩
     clear Z0 K2 K3 K4 e hrw hrw2 HD;obtain⟨W,hP⟩:=put_box (c:=cRes ⟨x1,x2,[],0,x21,x23,x25⟩ ⟨none,0,0,vp23,vm23,vc23,wp23,wm23,wc23,vp25,vm25,vc25,wp25,wm25,wc25⟩) Z.out bRes (cRes_one _ _) rfl;have vr4:=hP.bt;have vr5:=hid hP.box;have vr6:=hP.size;go_wp2_with (first|(refine wpList_load_row rfl 111 _ rfl _ rfl 111 _ (0,0) _ Y.out Tryz.underlying111 rfl (by kernel_rfl) ?_)|(refine wpList_put rfl 111 _ _ rfl w.heap.size _ rfl rfl hP ?_))
     have HBB:=HB.out;refine bodyPost_ret (v:=.agg (cRes ⟨x1,x2,[],0,x21,x23,x25⟩ ⟨none,0,0,vp23,vm23,vc23,wp23,wm23,wc23,vp25,vm25,vc25,wp25,wm25,wc25⟩)) ?_ rfl (PO.ok (st_end HS) qe ⟨_,rfl,qW _ qe⟩ (HR.out.low qe));exact zEL_2
   · replace HS:=st_br (st_bn HS i20);replace HD:=hid (HD.out.up (rscF_mv) (w1:=w20) qe);replace HB:Hid (Bt g w w20):=hid qh;replace HR:=hid R20;clear b20 R20;clear i20;have hb20:=HD.out.box.lt;go_wp2_with fail;refine(endLine_any _ (HR.out.low qe)).mono ?_;rintro e w26 h26;rcases h26.cases with⟨x26,u26,v26,r26,rfl,b26,V26,R26⟩|⟨u26,r26,rfl,b26⟩
     rotate_left 1
     · exact zEL_0
     replace HS:=st_ok HS r26;replace HD:=hid (HD.out.up (rscF_mv) (w1:=w26) qe);replace HB:Hid (Bt g w w26):=hid qh;replace HR:=hid R26;clear b26 R26;clear r26 h26;obtain rfl:=V26;have Z0:=HD.out.part rscF_mv 0;have Z:=hid Z0.2;have Y:Hid (Box w26 w2.heap.size 111 (cRes ⟨x1,x2,[],0,mt,zD,zD⟩ ⟨none,0,0,none,0,0,none,0,0,none,0,0,none,0,0⟩)):=hid HD.out.box;have K2:=HD.out.off rscF_mv (z:=w.heap.size) (fun G h=>h.1) (j:=2) (by decide);have K3:=HD.out.off rscF_mv (z:=w.heap.size) (fun G h=>h.1) (j:=3) (by decide);have K4:=HD.out.off rscF_mv (z:=w.heap.size) (fun G h=>h.1) (j:=4) (by decide);obtain⟨p',c',e,hrw⟩:=OwnF.rw RChg.map sChg_ K2 (by simp);have hrw2:Rw 2 RChg (fun k=>w.heap.size<=k/\¬k=w.heap.size/\¬k=w2.heap.size) w26 ([]) none 0:=by
      exact zEL_1
     have qW:∀W,Eqv (fun k=>w.heap.size<=k/\¬k=w.heap.size/\¬k=w2.heap.size) w26 W->RRes (fun b=>w.heap.size<=b) W ⟨x1,x2,[],0,mt,zD,zD⟩ (cRes ⟨x1,x2,[],0,mt,zD,zD⟩ ⟨none,0,0,none,0,0,none,0,0,none,0,0,none,0,0⟩):=fun W q=>⟨_,rfl,⟨(mv_gs (mv_rw RChg.map) hrw2 q).mono RChg.map fun b hb _=>hb.1,mv_mono mv_ints (mv_gs mv_ints K3.1 q) fun b hb=>hb.1,mv_mono mv_ints (mv_gs mv_ints K3.2 q) fun b hb=>hb.1,mv_mono mv_ints (mv_gs mv_ints K4.1 q) fun b hb=>hb.1,mv_mono mv_ints (mv_gs mv_ints K4.2 q) fun b hb=>hb.1⟩⟩
     clear Z0 K2 K3 K4 e hrw hrw2 HD;obtain⟨W,hP⟩:=put_box (c:=cRes ⟨x1,x2,[],0,mt,zD,zD⟩ ⟨none,0,0,none,0,0,none,0,0,none,0,0,none,0,0⟩) Z.out bRes (cRes_one _ _) rfl;have vr4:=hP.bt;have vr5:=hid hP.box;have vr6:=hP.size;go_wp2_with (first|(refine wpList_load_row rfl 111 _ rfl _ rfl 111 _ (0,0) _ Y.out Tryz.underlying111 rfl (by kernel_rfl) ?_)|(refine wpList_put rfl 111 _ _ rfl w.heap.size _ rfl rfl hP ?_))
     have HBB:=HB.out;refine bodyPost_ret (v:=.agg (cRes ⟨x1,x2,[],0,mt,zD,zD⟩ ⟨none,0,0,none,0,0,none,0,0,none,0,0,none,0,0⟩)) ?_ rfl (PO.ok (st_end HS) qe ⟨_,rfl,qW _ qe⟩ (HR.out.low qe));exact zEL_2
end
end Go.Proofs.YtbgodajefaahdaaGreatDoor.Ps
