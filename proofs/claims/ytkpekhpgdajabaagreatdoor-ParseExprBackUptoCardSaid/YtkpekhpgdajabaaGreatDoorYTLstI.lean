/-
  Parts of this proof: The contract of listed. A record that is being made in a box, with lists. The contract of the reader's distribution. A whole record goes into a block that was just m.
-/
import Derived.Test.YtkpekhpgdajabaaGreatDoorYTRow
import Derived.Test.YtkpekhpgdajabaaGreatDoorYTSz
open Go.World renaming cell?->ae,frozen?->aj
open Option renaming none->U,some->V
open Nat renaming le_refl->af
open Go renaming World->ag,Value->ai,bodyPost_ret->ak
open Go.Proofs.Tryz renaming prog->ah
open Go.Lib renaming hid->X
open List renaming length_append->au
set_option linter.unusedVariables false
set_option maxRecDepth 100000
set_option maxHeartbeats 1000000
open Go.Lib (hid)
namespace Go.Proofs.YtkpekhpgdajabaaGreatDoor
namespace Ps
open Ps.P (exp)
open Go.RowKit
open Lx (Tk)
open Md (Rec fe bU Kind g_ lW)
def dP:Rec Int:=fun _ _ x c=>c=#[.int .i64 x]
theorem dP.map:fe dP:=by intro G H w w2 _ _ x c h;exact h
theorem yN:g_ 1 dP:=by intro G w x c h;subst h;exact⟨rfl,by simp[Value.oneCell']⟩
theorem LF:Kind 58 3 1:=lW Tryz.underlying58 (z:=.int .i64 0) (b:=8) dx bR bR bR
structure aeh (L:Lk) (g:Nat) (r:R (List Int)) (m:P Int) (N:Nat) (w:ag) (k:Nat) (v:ai) (wr:ag):Prop where
 ex:∃l u,run (wY m k l) u=r/\u.length<k/\u.length<=N/\l.length+u.length<=30000/\bZ 3 1 dP (fun b=>w.heap.size<=b) wr v l/\Rd L g u wr
 bt:Bt g w wr
section
variable {L:Lk} {g:Nat} {t:List Tk}
theorem aj3 (f:FuncId) (m:P Int) (hm:Dn 1 m) (w:ag) (hR:Rd L g t w) (hf:∀(a:Array ai) (W:ag),(callFunc f a).run ah W=.ok (.enter f a) W)
 (hC:∀W u,Rd L g u W->u.length<=t.length->Calls ah f #[.pointer (V ⟨g,0,U⟩)] W (PO L g VI (run m u) W)):Calls ah 198 #[.pointer (V ⟨g,0,U⟩),.func (.func f) #[] #[]] w (PO L g (VL 1 dP) (run (AZ m) t) w):=by
 have HD:Hid (∀u,run (exp fU) t=.ok () u->u.length<=t.length):=X (fun u h=>by have:=((Dn.exp bR:Dn 1 (exp fU)).out hR.gd h).2;omega);have ht:=hR.small;have HC:=X hC;have HM:=X hm;clear hC hm;refine eQ hR ?_;clear hR;intro r HS HR HB hg;go_enter Tryz.func198,Tryz.ntmps198;go_wp2_with fail;refine po HS HB (gI _ _ (HR.out.low qe) bR) ?_;clear HS HB HR;rintro x1 u1 v1 w1 r1 HS b1 rfl HR HB;have HT:=X (HD.out _ r1);clear b1 r1 HD;go_wp2_with fail;go_loopg [5] FU (aeh L g r m t.length w)
 case atStart=>
  exact UM
 case round=>
  obtain⟨⟨l,u,hs,hk,hn,hl,ho,hR⟩,hb⟩:=hrel;clear HS HB HR HT;obtain⟨k,rfl⟩:∃k,gk=k+1:=⟨gk-1,by omega⟩
  rw[LX] at hs;have HL:=X hl;have HK:=X hk;have HN:=X hn;have HO:=X ho;have HR:=X hR;have HB:=X hb;have HS:=X hs;have Am:=X hR.gd;clear hl hk hn ho hR hb hs;go_wp2_with fail;refine ac HS HB (dD jN _ (HR.out.low qe) bR) ?_ ?_
  · clear HS HB HR;rintro w2-HS b2 HR HB;have o2:bZ 3 1 dP (fun b=>w.heap.size<=b) w2 u5 l:=HO.out.up dP.map (b2.mono fun k _ hk=>by have:w.heap.size<=k:=hk;omega) (af _);obtain⟨p,c,rfl,hrw⟩:=o2.rw dP.map yN nT;exact UN
  · clear HS HB HR;rintro w2-HS b2 HR HB;have o2:bZ 3 1 dP (fun b=>w.heap.size<=b) w2 u5 l:=HO.out.up dP.map (b2.mono fun k _ hk=>by have:w.heap.size<=k:=hk;omega) (af _);replace HO:=X o2;clear b2 o2;have hlen:∃p c,u5=.slice p l.length c:=by
     obtain⟨p,c,h,-⟩:=HO.out.rw dP.map yN nT;exact⟨p,c,h⟩
    obtain⟨p5,c5,rfl⟩:=hlen;have hlm:l.length<=30000:=by have:=HL.out;omega
    cases l with
    | nil=>
     dsimp only [CQ] at HS;have mM:Hid (∀x v,run m u=.ok x v->v.length+1<=u.length):=X fun x v h=>(HM.out.out Am.out h).2;go_wp2_with fail;refine po HS HB (HC.out _ _ (HR.out.low qe) HN.out) ?_;clear HS HR;rintro x3 u3 v3 w3 r3 HS b3 V3 HR B3;have oD:=X (mM.out _ _ r3);have s2:=HB.out.size;have s3:=b3.size;have o3:bZ 3 1 dP (fun b=>w.heap.size<=b) w3 (.slice p5 0 c5) []:=HO.out.up dP.map (b3.mono fun k _ hk=>by have:w.heap.size<=k:=hk;omega) (af _);obtain rfl:v3=.int .i64 x3:=V3;have HY:Hid ((∀b,(Value.slice p5 0 c5).ownBlock=V b->w.heap.size<=b)->dP (fun b=>w.heap.size<=b/\¬(Value.slice p5 0 c5).ownBlock=V b) (w3.alloc (.cells #[.int .i64 x3] 3)) x3 #[.int .i64 x3]):=X fun _=>rfl;replace HO:=X o3;replace HB:=B3;clear b3 r3 o3 mM;have o4:bZ 3 1 dP (fun b=>w.heap.size<=b) (w3.alloc (.cells (#[.int .i64 x3]) 3)) (.slice p5 0 c5) []:=HO.out.up dP.map qe (af _);have c4:bU (w3.alloc (.cells (#[.int .i64 x3]) 3)) w3.heap.size 3 (#[.int .i64 x3]):=bU.new;obtain⟨v5,w5,hrun,o5,hg5⟩:=o4.app LF dP.map yN c4.cell (x:=x3) (HY.out o4.blk) cK;have B5:Hid (Bt g w w5):=X (bS.grown qh hg5 fun b hb=>.inl (o4.blk b hb));have R5:Hid (Rd L g u3 w5):=X (HR.out.low (bS.grown qe hg5 fun b hb=>.inr BL));have O5:Hid (bZ 3 1 dP (fun b=>w.heap.size<=b) w5 v5 [x3]):=X (o5.map dP.map (af _) fun b hb _=>⟨by
      rcases hb with hb|hb
      · exact hb
      · have e:(w3.alloc (.cells (#[.int .i64 x3]) 3)).heap.size=w3.heap.size+1:=by simp
        omega,rfl⟩)
     skip
     exact UI
    | cons y l=>
     dsimp only [CQ] at HS;have uh:Hid (∀v,run (exp ry) u=.ok () v->Gd v/\v.length+1<=u.length):=X fun v h=>(Dn.exp bR:Dn 1 (exp ry)).out Am.out h;have hpos:decide ((0:Int)<(((y::l).length:Nat):Int))=true:=decide_eq_true UF;go_wp2_with fail;refine po HS HB (gI _ _ (HR.out.low qe) bR) ?_;clear HS HR;rintro x3 u3 v3 w3 r3 HS b3 rfl HR B3;have BP:=X (uh.out _ r3);have mM:Hid (∀x v,run m u3=.ok x v->v.length+1<=u3.length):=X fun x v h=>(HM.out.out BP.out.1 h).2;have s2:=HB.out.size;have s3:=b3.size;have o3:bZ 3 1 dP (fun b=>w.heap.size<=b) w3 (.slice p5 (y::l).length c5) (y::l):=HO.out.up dP.map (b3.mono fun k _ hk=>by have:w.heap.size<=k:=hk;omega) (af _);replace HO:=X o3;replace HB:=B3;clear b3 r3 o3 uh;go_wp2_with fail;refine po HS HB (HC.out _ _ (HR.out.low qe) UG) ?_;clear HS HB HR;rintro x4 u4 v4 w4 r4 HS b4 V4 HR HB;have oD:=X (mM.out _ _ r4);have s4:=b4.size;have xh:bZ 3 1 dP (fun b=>w.heap.size<=b) w4 (.slice p5 (y::l).length c5) (y::l):=HO.out.up dP.map (b4.mono fun k _ hk=>by have:w.heap.size<=k:=hk;omega) (af _);obtain rfl:v4=.int .i64 x4:=V4;have HY:Hid ((∀b,(Value.slice p5 (y::l).length c5).ownBlock=V b->w.heap.size<=b)->dP (fun b=>w.heap.size<=b/\¬(Value.slice p5 (y::l).length c5).ownBlock=V b) (w4.alloc (.cells #[.int .i64 x4] 3)) x4 #[.int .i64 x4]):=X fun _=>rfl;replace HO:=X xh;clear b4 r4 xh mM;have o4:bZ 3 1 dP (fun b=>w.heap.size<=b) (w4.alloc (.cells (#[.int .i64 x4]) 3)) (.slice p5 (y::l).length c5) (y::l):=HO.out.up dP.map qe (af _);have Et:bU (w4.alloc (.cells (#[.int .i64 x4]) 3)) w4.heap.size 3 (#[.int .i64 x4]):=bU.new;obtain⟨v5,w5,hrun,o5,hg5⟩:=o4.app LF dP.map yN Et.cell (x:=x4) (HY.out o4.blk) bT;have B5:Hid (Bt g w w5):=X (bS.grown qh hg5 fun b hb=>.inl (o4.blk b hb));have R5:Hid (Rd L g u4 w5):=X (HR.out.low (bS.grown qe hg5 fun b hb=>.inr BL));have O5:Hid (bZ 3 1 dP (fun b=>w.heap.size<=b) w5 v5 ((y::l)++[x4])):=X (o5.map dP.map (af _) fun b hb _=>⟨by
      rcases hb with hb|hb
      · exact hb
      · have e:(w4.alloc (.cells (#[.int .i64 x4]) 3)).heap.size=w4.heap.size+1:=by simp
        omega,rfl⟩)
     skip
     exact UH
end
end Ps
namespace Ps
open Go.RowKit
open Md (Rec fe Rw bU Kind g_)
def Mv (F:(Nat->Prop)->ag->Prop):Prop:=∀{G H:Nat->Prop} {w w2:ag},w.heap.size<=w2.heap.size->(∀b,G b->b<w.heap.size->H b/\w2.heap[b]?=w.heap[b]?)->F G w->F H w2
theorem Iy:Mv (fun _ _=>True):=fun _ _ _=>trivial
theorem ou {α:Type} {T:TypeId} {k:Nat} {R:Rec α} {v:ai} {l:List α} (hm:fe R):Mv (fun G w=>bZ T k R G w v l):=fun hs hk h=>h.map hm hs hk
theorem ko {α:Type} {k:Nat} {R:Rec α} {l:List α} {p:Option Addr} {m:Nat} (hm:fe R):Mv (fun G w=>Rw k R G w l p m):=fun hs hk h=>h.map hm hs hk
theorem yG {b:Nat} {T:TypeId} {c:Array ai}:Mv (fun G w=>G b/\bU w b T c):=fun hs hk h=>⟨(hk b h.1 h.2.lt).1,h.2.keep (hk b h.1 h.2.lt).2⟩
theorem EY {F F':(Nat->Prop)->ag->Prop} (h:Mv F) (h':Mv F'):Mv (fun G w=>F G w/\F' G w):=fun hs hk g=>⟨h hs hk g.1,h' hs hk g.2⟩
structure gJ (lo b:Nat) (T:TypeId) (c:Array ai) (F:Nat->(Nat->Prop)->ag->Prop) (w:ag):Prop where
 box:bU w b T c
 yF:lo<=b
 ex:∃nD:Nat->Nat,nD b=0/\∀j,F j (fun k=>lo<=k/\nD k=j/\¬k=b) w
section
variable {lo b:Nat} {T:TypeId} {c:Array ai} {F:Nat->(Nat->Prop)->ag->Prop} {w w1 w2:ag}
theorem gJ.up (h:gJ lo b T c F w) (hm:∀j,Mv (F j)) (hb:Up lo w w1):gJ lo b T c F w1:=by
 obtain⟨nD,h0,hF⟩:=h.ex;exact⟨eT h.box hb h.yF,h.yF,nD,h0,fun j=>hm j hb.size (fun k hk hlt=>⟨hk,hb.block k hlt hk.1⟩) (hF j)⟩
theorem gJ.cell (h:gJ lo b T c F w) {i:Nat} {v:ai} (hc:c[i]?=V v):w.cell? ⟨b,i,U⟩=V v:=h.box.get hc
theorem gJ.rJ (h:gJ lo b T c F w) (i:Nat):w.frozen? ⟨b,i,U⟩=false:=fA h.box
theorem gJ.set (h:gJ lo b T c F w) (hm:∀j,Mv (F j)) (i:Nat) (v:ai):gJ lo b T (c.setIfInBounds i v) F (w.setCell ⟨b,i,U⟩ v):=by
 obtain⟨nD,h0,hF⟩:=h.ex;have q:bS (fun k=>¬k=b) w (w.setCell ⟨b,i,U⟩ v):=bS.set (bS.refl _ _) (.inr fun e=>e rfl);exact⟨eX h.box,h.yF,nD,h0,fun j=>hm j q.size (fun k hk hlt=>⟨hk,q.block k hlt hk.2.2⟩) (hF j)⟩
theorem gJ.put (h:gJ lo b T c F w) (hm:∀j,Mv (F j)) (hb:Up lo w w1) {i:Nat} (hi:0<i) {F2:(Nat->Prop)->ag->Prop} (hn:F2 (fun k=>w.heap.size<=k) w1) (hm2:Mv F2):gJ lo b T c (fun j=>if j=i then F2 else F j) w1:=by
 obtain⟨nD,h0,hF⟩:=h.ex;have hlt:=h.box.lt;have hlo:=h.yF;refine⟨eT h.box hb h.yF,h.yF,fun k=>if k<w.heap.size then nD k else i,by simp only[if_pos hlt];exact h0,fun j=>?_⟩;by_cases hj:j=i
 · subst hj;simp only[if_true];exact hm2 (af _) (fun k hk _=>⟨⟨by have hk':w.heap.size<=k:=hk;omega,by rw[if_neg (by have hk':w.heap.size<=k:=hk;omega)],by have hk':w.heap.size<=k:=hk;omega⟩,rfl⟩) hn
 · simp only[if_neg hj];exact hm j hb.size (fun k hk hl=>⟨⟨hk.1,by rw[if_pos hl];exact hk.2.1,hk.2.2⟩,hb.block k hl hk.1⟩) (hF j)
theorem gJ.push {α:Type} {LT T':TypeId} {k:Nat} {R:Rec α} (I:Kind LT T' k) (hR0:fe R) (hs:g_ k R) (h:gJ lo b T c F w) (hm:∀j,Mv (F j)) (hb:Up lo w w1) {i:Nat} {v:ai} {l:List α} {y:α} {ce:Array ai} (hi:F i=fun G w=>bZ T' k R G w v l) (hi0:0<i) (hc:c[i]?=V v) (hy:R (fun k=>w.heap.size<=k) w1 y ce) (hn:l.length<=999999) :
 ∃(v':ai) (w2:ag),(Builtin.append_ #[LT,LT] LT #[v,.slice (V ⟨w1.heap.size,0,U⟩) 1 1]).run ah (w1.alloc (.cells ce T'))=.ok v' w2/\(∃p m,v'=.slice p (l.length+1) m)/\w2.cell? ⟨b,i,U⟩=V v/\(∀i,w2.frozen? ⟨b,i,U⟩=false)/\gJ lo b T (c.setIfInBounds i v') (fun j=>if j=i then fun G w=>bZ T' k R G w v' (l++[y]) else F j) (w2.setCell ⟨b,i,U⟩ v')/\bS (fun k=>k<lo) w1 (w2.setCell ⟨b,i,U⟩ v'):=by
 obtain⟨nD,h0,hF⟩:=h.ex;have hlt:=h.box.lt;have hlo:=h.yF;have oi:bZ T' k R (fun k=>lo<=k/\nD k=i/\¬k=b) w v l:=by have:=hF i;rw[hi] at this;exact this
 have hown:∀e,v.ownBlock=V e->e<w.heap.size:=fun e he=>oi.own he;have QV:∀e,v.ownBlock=V e->lo<=e/\nD e=i/\¬e=b:=fun e he=>oi.blk e he;have q1:Up lo w (w1.alloc (.cells ce T')):=hb.alloc;have o4:bZ T' k R (fun k=>(lo<=k/\nD k=i/\¬k=b)∨w.heap.size<=k) (w1.alloc (.cells ce T')) v l:=oi.map hR0 q1.size (fun e hg hl=>⟨.inl hg,q1.block e hl hg.1⟩);have hy':R (fun e=>((lo<=e/\nD e=i/\¬e=b)∨w.heap.size<=e)/\¬v.ownBlock=V e) (w1.alloc (.cells ce T')) y ce:=hR0 cK (fun e he hl=>⟨⟨.inr he,fun h9=>by have:=hown e h9;have he':w.heap.size<=e:=he;omega⟩,by show(w1.heap.push _)[e]?=_;rw[Array.getElem?_push,if_neg bT]⟩) hy;obtain⟨v',w2,hrun,o5,hg5⟩:=o4.app I hR0 hs (bU.new (w:=w1) (t:=T') (c:=ce)).cell hy' bT;have hform:∃p m,v'=.slice p (l.length+1) m:=by
  obtain⟨p,m,e,-⟩:=o5.rw hR0 hs (by rw[au,List.length_singleton];omega);exact⟨p,m,by rw[e,au,List.length_singleton]⟩
 have qa:bS (fun e=>lo<=e/\¬v.ownBlock=V e) w w2:=bS.grown (q1.mono fun e _ he=>he.1) hg5 fun e he=>.inr fun h9=>h9.2 he;have qc:bS (fun e=>e<lo) w1 w2:=bS.grown (bS.alloc (bS.refl _ _)) hg5 fun e he=>.inr fun h9=>by have:=(QV e he).1;have h9':e<lo:=h9;omega
 have hbn:¬v.ownBlock=V b:=fun e=>(QV b e).2.2 rfl;have Pg:bU w2 b T c:=eT h.box qa ⟨hlo,hbn⟩;have qb:bS (fun e=>lo<=e/\¬v.ownBlock=V e/\¬e=b) w (w2.setCell ⟨b,i,U⟩ v'):=bS.set (qa.mono fun e _ he=>⟨he.1,he.2.1⟩) (.inr fun h9=>h9.2.2 rfl);have qd:bS (fun e=>¬e=b) w2 (w2.setCell ⟨b,i,U⟩ v'):=bS.set (bS.refl _ _) (.inr fun h9=>h9 rfl);have hW1:w.heap.size<=(w1.alloc (.cells ce T')).heap.size:=q1.size;refine⟨v',w2,hrun,hform,Pg.get hc,fun j=>fA Pg,⟨eX Pg,hlo,fun e=>if e<w.heap.size then nD e else i,by simp only[if_pos hlt];exact h0,fun j=>?_⟩,bS.set qc (.inr fun h9=>by have h9':b<lo:=h9;omega)⟩;by_cases hj:j=i
 · subst hj;simp only[if_true];refine o5.map hR0 qd.size fun e he hl=>?_;have key:lo<=e/\(if e<w.heap.size then nD e else j)=j/\¬e=b:=by
    rcases he with(he|he)|he
    · refine⟨he.1,?_,he.2.2⟩
      split
      · exact he.2.1
      · rfl
    · exact⟨by omega,by rw[if_neg bT],by omega⟩
    · exact⟨by omega,by rw[if_neg bT],by omega⟩
   exact⟨key,qd.block e hl key.2.2⟩
 · simp only[if_neg hj];refine hm j qb.size (fun e he hl=>⟨⟨he.1,by rw[if_pos hl];exact he.2.1,he.2.2⟩,qb.block e hl ⟨he.1,fun h9=>hj (he.2.1.symm.trans (QV e h9).2.1),he.2.2⟩⟩) (hF j)
theorem gJ.new (hbx:bU w b T c) (hlo:lo<=b) (h0:F 0 (fun k=>lo<=k/\¬k=b) w) (hm:Mv (F 0)) (hF:∀j,0<j->∀G,F j G w):gJ lo b T c F w:=
 ⟨hbx, hlo, fun _ => 0, rfl, fun j => by
   by_cases hj:j=0
   · subst hj;exact hm (af _) (fun k hk _=>⟨⟨hk.1,rfl,hk.2⟩,rfl⟩) h0
   · exact hF j bT _⟩
theorem gJ.part (h:gJ lo b T c F w) (hm:∀j,Mv (F j)) (j:Nat):F j (fun k=>lo<=k) w:=by
 obtain⟨nD,h0,hF⟩:=h.ex;exact hm j (af _) (fun k hk _=>⟨hk.1,rfl⟩) (hF j)
theorem gJ.off (h:gJ lo b T c F w) (hm:∀j,Mv (F j)) {z:Nat} (h0:∀G,F 0 G w->G z) {j:Nat} (hj:0<j):F j (fun k=>lo<=k/\¬k=z/\¬k=b) w:=by
 obtain⟨nD,hb0,hF⟩:=h.ex;have hz:=h0 _ (hF 0);exact hm j (af _) (fun k hk _=>⟨⟨hk.1,fun e=>by have h1:=hz.2.1;have h2:=hk.2.1;rw[e,h1] at h2;omega,hk.2.2⟩,rfl⟩) (hF j)
theorem gJ.cast {F2:Nat->(Nat->Prop)->ag->Prop} {c2:Array ai} (h:gJ lo b T c F w) (hF:∀j G W,F j G W->F2 j G W) (hc:c=c2):gJ lo b T c2 F2 w:=by
 subst hc;obtain⟨nD,h0,hh⟩:=h.ex;exact⟨h.box,h.yF,nD,h0,fun j=>hF j _ _ (hh j)⟩
end
end Ps
namespace Ps
open Go.RowKit
open Lx (Tk)
open Sm (Dt Ints)
open Md (Rw At bU)
def uz (d:Dt) (vp:Option Addr) (vm vc:Nat) (wp:Option Addr) (wm wc:Nat):Array ai:=#[.int .i64 d.op,.int .i64 d.a,.int .i64 d.b,.int .i64 d.n,.slice vp vm vc,.slice wp wm wc]
def Vg (lo:Nat) (w:ag) (d:Dt) (v:ai):Prop:=∃vp vm vc wp wm wc,v=.agg (uz d vp vm vc wp wm wc)/\Ints (fun b=>lo<=b) w d.vs vp vm/\Ints (fun b=>lo<=b) w d.ws wp wm
theorem ae4 {w:ag} {g:Nat} {t:TypeId} {z:Array ai} {a b c d e f:ai} (h:bU w g t z) (hz:z.size=6):bU ((((((w.setCell ⟨g,0,U⟩ a).setCell ⟨g,1,U⟩ b).setCell ⟨g,2,U⟩ c).setCell ⟨g,3,U⟩ d).setCell ⟨g,4,U⟩ e).setCell ⟨g,5,U⟩ f) g t #[a,b,c,d,e,f]:=by
 obtain⟨x0,x1,x2,x3,x4,x5,rfl⟩:∃x0 x1 x2 x3 x4 x5,z=#[x0,x1,x2,x3,x4,x5]:=by
  match z,hz with
  | ⟨[x0,x1,x2,x3,x4,x5]⟩,_=>exact⟨x0,x1,x2,x3,x4,x5,rfl⟩
 exact eX (eX (eX (eX (eX (eX h)))))
theorem lV {G:Nat->Prop} {w:ag} {p:Option Addr}:Ints G w [] p 0:=⟨rfl,by omega,.inl rfl⟩
theorem Lr {G:Nat->Prop} {w:ag} {l:List Int} {p:Option Addr} {m:Nat} (h:Rw 1 dP G w l p m):Ints G w l p m:=by
 obtain⟨h1,h2,h3|⟨b,o,rfl,hg,hb,hc⟩⟩:=h
 · exact⟨h1,h2,.inl h3⟩
 · refine⟨h1,h2,.inr ⟨b,o,rfl,hg,hb,X fun i hi=>?_⟩⟩;obtain⟨c,h4,h5,h6⟩:=hc.out i hi;have h6:c=#[.int .i64 l[i]]:=h6;subst h6;have:=h5.get (r:=0) rfl;rwa [Nat.add_zero,Nat.mul_one] at this
structure ad2 (w4:ag) (D:Nat) (l:List (Int×Int)) (n:Nat) (v:ai) (wr:ag):Prop where
 ex:∃k vv vw,k+n=l.length/\v=.int .i64 ((k:Nat):Int)/\bU wr D 60 #[.int .i64 3,.int .i64 0,.int .i64 0,.int .i64 0,vv,vw]/\bZ 3 1 dP (fun b=>w4.heap.size<=b) wr vv ((l.take k).map (·.1))/\bZ 3 1 dP (fun b=>w4.heap.size<=b) wr vw ((l.take k).map (·.2))/\(∀b,vv.ownBlock=V b->¬vw.ownBlock=V b)
 eq:bS (fun b=>¬b=D) w4 wr
theorem Tt {α β:Type} (f:α->β) {l:List α} {k:Nat} (h:k<l.length):(l.take (k+1)).map f=(l.take k).map f++[f l[k]]:=by
 rw[List.take_add_one,List.getElem?_eq_getElem h,List.map_append];rfl
section
variable {L:Lk} {g:Nat} {t:List Tk}
theorem Jj {p:Prop} (h:p:=by
 exact results_cell_row rfl _ _ w.heap.size 60 _ (0,0) _ rfl (ae4 Z.out rfl) Tryz.underlying60 rfl dx
 ):p:=h
theorem acK {p:Prop} (h:p:=by rw[au,List.length_map,List.length_take,List.length_singleton];omega):p:=h
theorem GQ (w:ag) (hR:Rd L g t w):Calls ah 151 #[.pointer (V ⟨g,0,U⟩)] w (PO L g Vg (run dst t) w):=by
 refine eQ hR ?_;clear hR;intro r HS HR HB hg;have Z:=X (bU.new (w:=w) (t:=60) (c:=#[.int .i64 0,.int .i64 0,.int .i64 0,.int .i64 0,.slice U 0 0,.slice U 0 0]));go_enter Tryz.func151,Tryz.ntmps151;go_wp2_with fail;refine ac HS HB (dD ZL _ (HR.out.low qe) bR) ?_ ?_
 · clear HS HB HR;rintro w1-HS b1 HR HB;replace Z:=bV Z w1;clear b1;go_wp2_with fail;refine po HS HB (kV _ (HR.out.low qe)) ?_;clear HS HB HR;rintro x2 u2 v2 w2-HS b2 ⟨rfl,n0,n1⟩ HR HB;replace Z:=bV Z w2;clear b2;have y0:ae _ ⟨_,0,U⟩=V (.int .i64 0):=Z.out.get rfl;have y1:ae _ ⟨_,1,U⟩=V (.int .i64 0):=Z.out.get rfl;have y2:ae _ ⟨_,2,U⟩=V (.int .i64 0):=Z.out.get rfl;have y3:ae _ ⟨_,3,U⟩=V (.int .i64 0):=Z.out.get rfl;have y4:ae _ ⟨_,4,U⟩=V (.slice U 0 0):=Z.out.get rfl;have y5:ae _ ⟨_,5,U⟩=V (.slice U 0 0):=Z.out.get rfl;have fz:∀i,aj _ ⟨_,i,U⟩=false:=fun i=>fA (i:=i) Z.out;go_wp2_with fail;have bY:=HB.out;refine ak (v:=.agg (uz (⟨1,x2,0,0,[],[]⟩:Dt) U 0 0 U 0 0)) ?_ rfl (PO.ok (dz HS) qe ⟨U,0,0,U,0,0,rfl,lV,lV⟩ (HR.out.low qe));exact Jj
 clear HS HB HR;rintro w1-HS b1 HR HB;replace Z:=bV Z w1;clear b1;go_wp2_with fail;refine ac HS HB (dD aal _ (HR.out.low qe) bR) ?_ ?_
 · clear HS HB HR;rintro w2-HS b2 HR HB;replace Z:=bV Z w2;clear b2;go_wp2_with fail;refine po HS HB (kV _ (HR.out.low qe)) ?_;clear HS HB HR;rintro x3 u3 v3 w3-HS b3 ⟨rfl,n0,n1⟩ HR HB;replace Z:=bV Z w3;clear b3;go_wp2_with fail;refine po HS HB (kV _ (HR.out.low qe)) ?_;clear HS HB HR;rintro x4 u4 v4 w4-HS b4 ⟨rfl,n2,n3⟩ HR HB;replace Z:=bV Z w4;clear b4;have y0:ae _ ⟨_,0,U⟩=V (.int .i64 0):=Z.out.get rfl;have y1:ae _ ⟨_,1,U⟩=V (.int .i64 0):=Z.out.get rfl;have y2:ae _ ⟨_,2,U⟩=V (.int .i64 0):=Z.out.get rfl;have y3:ae _ ⟨_,3,U⟩=V (.int .i64 0):=Z.out.get rfl;have y4:ae _ ⟨_,4,U⟩=V (.slice U 0 0):=Z.out.get rfl;have y5:ae _ ⟨_,5,U⟩=V (.slice U 0 0):=Z.out.get rfl;have fz:∀i,aj _ ⟨_,i,U⟩=false:=fun i=>fA (i:=i) Z.out;go_wp2_with fail;have bY:=HB.out;refine ak (v:=.agg (uz (⟨2,x3,x4,0,[],[]⟩:Dt) U 0 0 U 0 0)) ?_ rfl (PO.ok (dz HS) qe ⟨U,0,0,U,0,0,rfl,lV,lV⟩ (HR.out.low qe));exact Jj
 clear HS HB HR;rintro w2-HS b2 HR HB;replace Z:=bV Z w2;clear b2;go_wp2_with fail;refine ac HS HB (dD Rk _ (HR.out.low qe) bR) ?_ ?_
 · clear HS HB;rintro w3 i3 HS b3 R3 HB;have hl3:Hid (∀x u,run zS t.tail=.ok x u->x.length<=30000):=X (aa4 (s:=Rk) HR.out.gd HR.out.small i3);replace Z:=bV Z w3;replace HR:=R3;clear b3 i3;go_wp2_with fail;have hz3:=Z.out.lt;have Y:=X (bU.new (w:=w3) (t:=60) (c:=#[.int .i64 3,.int .i64 0,.int .i64 0,.int .i64 0,.slice U 0 0,.slice U 0 0]));refine po HS HB (aaU _ (HR.out.low qe)) ?_;clear HS HB HR;rintro x4 u4 v4 w4 r4 HS b4 ⟨p,m,c,rfl,hrw⟩ HR HB;have Ao:=X (hl3.out _ _ r4);replace Z:=bV Z w4;replace Y:=bV Y w4;clear b4 r4 hl3;obtain rfl:x4.length=m:=hrw.1;have e0:(w3.alloc (.cells #[.int .i64 3,.int .i64 0,.int .i64 0,.int .i64 0,.slice U 0 0,.slice U 0 0] 60)).heap.size=w3.heap.size+1:=by simp
   rw[e0] at hrw;have HRW:=X hrw;have qU:=Z.out.lt;have hy4:=Y.out.lt;clear hrw e0;go_wp2_with fail;go_loopg [27] x4.length (ad2 w4 w3.heap.size x4)
   case atStart=>exact⟨⟨0,.slice U 0 0,.slice U 0 0,by omega,rfl,Y.out,bZ.nil,bZ.nil,fun b h=>by cases h⟩,bS.refl _ _⟩
   case round=>
    obtain⟨⟨k,vv,vw,hk,rfl,hbx,hov,how,hne⟩,hq⟩:=hrel;by_cases hkl:k<x4.length
    · obtain⟨pb,o,rfl,hpb,hlt,hcc⟩:=HRW.out.rows bT;obtain⟨cc,hc1,hc2,hc3⟩:=hcc.out k hkl;have hc3:cc=rG x4[k]:=hc3;subst hc3;obtain⟨⟨a,b⟩,hab⟩:∃q,x4[k]=q:=⟨_,rfl⟩
      rw[hab] at hc2;have hpb:w3.heap.size+1<=pb:=hpb;have hcw:At wr pb (o+k*2) #[.int .i64 a,.int .i64 b]:=hc2.keep (hq.block pb hlt bT);have q0:wr.cell? ⟨pb,o+k*2,U⟩=V (.int .i64 a):=by have:=hcw.get (r:=0) rfl;rwa [Nat.add_zero] at this
      have q1:wr.cell? ⟨pb,o+k*2+1,U⟩=V (.int .i64 b):=hcw.get (r:=1) rfl;have k0:(0:Int)<=(k:Int):=by omega
      have k1:(k:Int)<(x4.length:Int):=by omega
      have k2:decide ((k:Int)<(x4.length:Int))=true:=decide_eq_true k1;have hkm:k<x4.length:=hkl;have hlen:=Ao.out;have hw:IntKind.i64.wrap ((k:Int)+1)=((k+1:Nat):Int):=by rw[IntKind.wrap_i64];omega
      have hs4:w4.heap.size<=wr.heap.size:=hq.size;have b5:bU (wr.alloc (.cells #[.int .i64 a,.int .i64 b] 256)) wr.heap.size 256 #[.int .i64 a,.int .i64 b]:=bU.new;have d5:bU (wr.alloc (.cells #[.int .i64 a,.int .i64 b] 256)) w3.heap.size 60 #[.int .i64 3,.int .i64 0,.int .i64 0,.int .i64 0,vv,vw]:=cZ hbx qe;have c6:bU ((wr.alloc (.cells #[.int .i64 a,.int .i64 b] 256)).alloc (.cells #[.int .i64 a] 3)) (wr.heap.size+1) 3 #[.int .i64 a]:=by
       have h:=bU.new (w:=wr.alloc (.cells #[.int .i64 a,.int .i64 b] 256)) (t:=3) (c:=#[.int .i64 a]);rwa [show(wr.alloc (.cells #[.int .i64 a,.int .i64 b] 256)).heap.size=wr.heap.size+1 by simp] at h
      have o6:bZ 3 1 dP (fun b=>w4.heap.size<=b/\¬vw.ownBlock=V b) ((wr.alloc (.cells #[.int .i64 a,.int .i64 b] 256)).alloc (.cells #[.int .i64 a] 3)) vv ((x4.take k).map (·.1)):=by
       have q:bS (fun _=>True) wr ((wr.alloc (.cells #[.int .i64 a,.int .i64 b] 256)).alloc (.cells #[.int .i64 a] 3)):=by exact qe
       obtain⟨C,f1,f2,f3⟩:=hov.ex;exact⟨⟨C,f1,fun i hi hi2=>f2 i hi hi2,IE f3 fun b hb=>q.block b (hov.own hb) trivial⟩,fun b hb=>⟨hov.blk b hb,hne b hb⟩⟩
      obtain⟨v7,w7,ai5,o7,EK⟩:=o6.app LF dP.map yN c6.cell (x:=a) rfl (by rw[List.length_map,List.length_take];omega);obtain⟨p7,n7,c7,rfl⟩:∃p n c,v7=.slice p n c:=by
       obtain⟨p,c,h,-⟩:=o7.rw dP.map yN acK;exact⟨p,_,c,h⟩
      have d7:bU w7 w3.heap.size 60 #[.int .i64 3,.int .i64 0,.int .i64 0,.int .i64 0,vv,vw]:=cZ d5 (bS.grown qe EK fun b hb=>.inr (by have:=o6.blk b hb;show ¬b=w3.heap.size;omega));have b7:bU w7 wr.heap.size 256 #[.int .i64 a,.int .i64 b]:=cZ b5 (bS.grown qe EK fun b hb=>.inr (by have:=hov.own hb;show ¬b=wr.heap.size;omega));have s7:wr.heap.size+1<w7.heap.size:=Nat.lt_of_lt_of_le c6.lt EK.size;have Mc:bZ 3 1 dP (fun b=>w4.heap.size<=b) (((wr.alloc (.cells #[.int .i64 a,.int .i64 b] 256)).alloc (.cells #[.int .i64 a] 3))) vw ((x4.take k).map (·.2)):=by
       have q:bS (fun _=>True) wr ((wr.alloc (.cells #[.int .i64 a,.int .i64 b] 256)).alloc (.cells #[.int .i64 a] 3)):=by exact qe
       exact how.map dP.map q.size fun b hb hlt=>⟨hb,q.block b hlt trivial⟩
      have Q3:∀j,(Value.slice p7 n7 c7).ownBlock=V j->¬vw.ownBlock=V j:=fun j h1 h2=>by
       have h3:=how.own h2;rcases o7.blk j h1 with h4|h4
       · exact h4.2 h2
       · simp at h4;omega
      have q7:bS (fun j=>vw.ownBlock=V j∨(Value.slice p7 n7 c7).ownBlock=V j) w7 (w7.setCell ⟨w3.heap.size,4,U⟩ (.slice p7 n7 c7)):=bS.set (bS.refl _ _) (.inr fun h=>by
       rcases h with h|h
       · have:=how.blk _ h;have h9:w4.heap.size<=w3.heap.size:=this;omega
       · rcases o7.blk _ h with h4|h4
         · have h9:w4.heap.size<=w3.heap.size:=h4.1;omega
         · simp at h4;omega)
      have d8:bU (w7.setCell ⟨w3.heap.size,4,U⟩ (.slice p7 n7 c7)) w3.heap.size 60 #[.int .i64 3,.int .i64 0,.int .i64 0,.int .i64 0,(.slice p7 n7 c7),vw]:=eX d7;have b8:bU (w7.setCell ⟨w3.heap.size,4,U⟩ (.slice p7 n7 c7)) wr.heap.size 256 #[.int .i64 a,.int .i64 b]:=cZ b7 qe;have e8:(w7.setCell ⟨w3.heap.size,4,U⟩ (.slice p7 n7 c7)).heap.size=w7.heap.size:=by simp
      have c9:bU ((w7.setCell ⟨w3.heap.size,4,U⟩ (.slice p7 n7 c7)).alloc (.cells #[.int .i64 b] 3)) w7.heap.size 3 #[.int .i64 b]:=by
       have h:=bU.new (w:=w7.setCell ⟨w3.heap.size,4,U⟩ (.slice p7 n7 c7)) (t:=3) (c:=#[.int .i64 b]);rwa [e8] at h
      have o9:bZ 3 1 dP (fun j=>w4.heap.size<=j/\¬(Value.slice p7 n7 c7).ownBlock=V j) ((w7.setCell ⟨w3.heap.size,4,U⟩ (.slice p7 n7 c7)).alloc (.cells #[.int .i64 b] 3)) vw ((x4.take k).map (·.2)):=by
       have qa:bS (fun j=>vw.ownBlock=V j) ((wr.alloc (.cells #[.int .i64 a,.int .i64 b] 256)).alloc (.cells #[.int .i64 a] 3)) w7:=bS.grown (bS.refl _ _) EK fun j h=>.inr (hne j h);have qb:bS (fun j=>vw.ownBlock=V j) w7 (w7.setCell ⟨w3.heap.size,4,U⟩ (.slice p7 n7 c7)):=q7.mono fun j _ h=>.inl h;have qc:bS (fun j=>vw.ownBlock=V j) _ ((w7.setCell ⟨w3.heap.size,4,U⟩ (.slice p7 n7 c7)).alloc (.cells #[.int .i64 b] 3)):=(qa.trans qb).alloc;obtain⟨C,f1,f2,f3⟩:=Mc.ex;exact⟨⟨C,f1,fun i hi hi2=>f2 i hi hi2,IE f3 fun j hj=>qc.block j (Mc.own hj) hj⟩,fun j hj=>⟨Mc.blk j hj,fun h=>Q3 j h hj⟩⟩
      obtain⟨v10,fT,ai6,Db,Hq⟩:=o9.app LF dP.map yN c9.cell (x:=b) rfl (by rw[List.length_map,List.length_take];omega);obtain⟨o8,n10,c10,rfl⟩:∃p n c,v10=.slice p n c:=by
       obtain⟨p,c,h,-⟩:=Db.rw dP.map yN acK;exact⟨p,_,c,h⟩
      have d10:bU fT w3.heap.size 60 #[.int .i64 3,.int .i64 0,.int .i64 0,.int .i64 0,(.slice p7 n7 c7),vw]:=cZ d8 (bS.grown qe Hq fun j hj=>.inr (by have:=o9.blk j hj;show ¬j=w3.heap.size;omega));have s10:w7.heap.size<fT.heap.size:=Nat.lt_of_lt_of_le c9.lt Hq.size;have Zl:∀j,(Value.slice p7 n7 c7).ownBlock=V j->¬(Value.slice o8 n10 c10).ownBlock=V j:=fun j h1 h2=>by
       have h3:=o7.own h1;rcases Db.blk j h2 with h4|h4
       · exact h4.2 h1
       · simp at h4;omega
      have o11:bZ 3 1 dP (fun j=>w4.heap.size<=j) (fT.setCell ⟨w3.heap.size,5,U⟩ (.slice o8 n10 c10)) (.slice p7 n7 c7) ((x4.take (k+1)).map (·.1)):=by
       rw[Tt _ hkl,hab];have qa:bS (fun j=>(Value.slice p7 n7 c7).ownBlock=V j) w7 fT:=bS.grown ((q7.mono fun j _ h=>.inr h).alloc) Hq fun j h=>.inr fun h2=>Q3 j h2 h;have qb:bS (fun j=>(Value.slice p7 n7 c7).ownBlock=V j) w7 (fT.setCell ⟨w3.heap.size,5,U⟩ (.slice o8 n10 c10)):=qa.trans (bS.set (bS.refl _ _) (.inr fun h=>by
        rcases o7.blk _ h with h4|h4
        · have h9:w4.heap.size<=w3.heap.size:=h4.1;omega
        · simp at h4;omega))
       obtain⟨C,f1,f2,f3⟩:=o7.ex;exact⟨⟨C,f1,fun i hi hi2=>f2 i hi hi2,IE f3 fun j hj=>qb.block j (o7.own hj) hj⟩,fun j hj=>by
        rcases o7.blk j hj with h4|h4
        · exact h4.1
        · simp at h4;show w4.heap.size<=j;omega⟩
      have o12:bZ 3 1 dP (fun j=>w4.heap.size<=j) (fT.setCell ⟨w3.heap.size,5,U⟩ (.slice o8 n10 c10)) (.slice o8 n10 c10) ((x4.take (k+1)).map (·.2)):=by
       rw[Tt _ hkl,hab];have qb:bS (fun j=>(Value.slice o8 n10 c10).ownBlock=V j) fT (fT.setCell ⟨w3.heap.size,5,U⟩ (.slice o8 n10 c10)):=bS.set (bS.refl _ _) (.inr fun h=>by
        rcases Db.blk _ h with h4|h4
        · have h9:w4.heap.size<=w3.heap.size:=h4.1;omega
        · simp at h4;omega)
       obtain⟨C,f1,f2,f3⟩:=Db.ex;exact⟨⟨C,f1,fun i hi hi2=>f2 i hi hi2,IE f3 fun j hj=>qb.block j (Db.own hj) hj⟩,fun j hj=>by
        rcases Db.blk j hj with h4|h4
        · exact h4.1
        · simp at h4;show w4.heap.size<=j;omega⟩
      have Mq:bS (fun b=>¬b=w3.heap.size) w4 (fT.setCell ⟨w3.heap.size,5,U⟩ (.slice o8 n10 c10)):=by
       have qa:bS (fun b=>¬b=w3.heap.size) w4 w7:=bS.grown qe EK fun j h=>.inl (o6.blk j h).1;have qb:bS (fun b=>¬b=w3.heap.size) w4 fT:=bS.grown qe Hq fun j h=>.inl (o9.blk j h).1;exact qe
      have HX:=X (And.intro (eX (i:=5) (v:=(.slice o8 n10 c10)) d10) (And.intro o11 (And.intro o12 (And.intro Zl Mq))));have f4:wr.cell? ⟨w3.heap.size,4,U⟩=V vv:=hbx.get rfl;have f4':ae _ ⟨w3.heap.size,4,U⟩=V vv:=d5.get rfl;have f5:ae _ ⟨wr.heap.size,0,U⟩=V (.int .i64 a):=b5.get rfl;have f6:w7.cell? ⟨w3.heap.size,4,U⟩=V vv:=d7.get rfl;have z7:∀i,w7.frozen? ⟨w3.heap.size,i,U⟩=false:=fun i=>fA (i:=i) d7;have f7:w7.cell? ⟨w3.heap.size,5,U⟩=V vw:=d7.get rfl;have f7':ae _ ⟨w3.heap.size,5,U⟩=V vw:=d8.get rfl;have f8:w7.cell? ⟨wr.heap.size,1,U⟩=V (.int .i64 b):=b7.get rfl;have f8':ae _ ⟨wr.heap.size,1,U⟩=V (.int .i64 b):=b8.get rfl;have f9:fT.cell? ⟨w3.heap.size,5,U⟩=V vw:=d10.get rfl;have z9:∀i,fT.frozen? ⟨w3.heap.size,i,U⟩=false:=fun i=>fA (i:=i) d10;clear hov how hne hq hbx hcc hc1 hc2 hcw b5 d5 c6 o6 o7 EK d7 b7 Mc Q3 q7 d8 b8 c9 o9 Db Hq d10 Zl o11 o12 Mq HRW HS HB HR Z Y;go_wp2_with (at_builtin;first|(refine Lib.wpList_append_run _ rfl _ _ _ _ rfl _ _ rfl rfl _ _ ai5 ?_)|(refine Lib.wpList_append_run _ rfl _ _ _ _ rfl _ _ rfl rfl _ _ ai6 ?_))
      go_roundg (gk-1)
      case measure=>omega
      case rel=>
       obtain⟨h1,h2,h3,h4,h5⟩:=HX.out;exact⟨⟨k+1,(.slice p7 n7 c7),(.slice o8 n10 c10),by omega,rfl,h1,h2,h3,h4⟩,h5⟩
    · obtain rfl:k=x4.length:=by omega
      rw[List.take_length] at hov how;obtain⟨vp,vc,hvv,Q4⟩:=hov.rw dP.map yN (by rw[List.length_map];have:=Ao.out;omega);obtain⟨wp,wc,Zp,hwr⟩:=how.rw dP.map yN (by rw[List.length_map];have:=Ao.out;omega);rw[List.length_map] at hvv Q4 Zp hwr;subst hvv Zp;have HV:=X Q4;have HW:=X hwr;replace Y:=X hbx;replace Z:=bV Z wr;have hs4:w4.heap.size<=wr.heap.size:=hq.size;replace HB:Hid (Bt g w wr):=X (by have bY:=HB.out;exact bY.call hq (by intro k hk hs;omega));replace HR:Hid (Rd L g u4 wr):=X (HR.out.low (bS.mono hq (by intro k hk hs;have hs':k<=g:=hs;omega)));have k2:decide ((x4.length:Int)<(x4.length:Int))=false:=decide_eq_false bT;have k3:¬((x4.length:Int)<(x4.length:Int)):=by omega
      clear hov how hne hq hbx hk hkl Q4 hwr HRW;have l0:ae _ ⟨_,0,U⟩=V (.int .i64 3):=Y.out.get rfl;have l1:ae _ ⟨_,1,U⟩=V (.int .i64 0):=Y.out.get rfl;have l2:ae _ ⟨_,2,U⟩=V (.int .i64 0):=Y.out.get rfl;have l3:ae _ ⟨_,3,U⟩=V (.int .i64 0):=Y.out.get rfl;have l4:ae _ ⟨_,4,U⟩=V (.slice vp _ vc):=Y.out.get rfl;have l5:ae _ ⟨_,5,U⟩=V (.slice wp _ wc):=Y.out.get rfl;have y0:ae _ ⟨_,0,U⟩=V (.int .i64 0):=Z.out.get rfl;have y1:ae _ ⟨_,1,U⟩=V (.int .i64 0):=Z.out.get rfl;have y2:ae _ ⟨_,2,U⟩=V (.int .i64 0):=Z.out.get rfl;have y3:ae _ ⟨_,3,U⟩=V (.int .i64 0):=Z.out.get rfl;have y4:ae _ ⟨_,4,U⟩=V (.slice U 0 0):=Z.out.get rfl;have y5:ae _ ⟨_,5,U⟩=V (.slice U 0 0):=Z.out.get rfl;have fz:∀i,aj _ ⟨_,i,U⟩=false:=fun i=>fA (i:=i) Z.out;go_wp2_with fail;have bY:=HB.out;have q:∀W,bS (fun b=>w4.heap.size<=b) wr W->Vg w.heap.size W (⟨3,0,0,0,x4.map (·.1),x4.map (·.2)⟩:Dt) (.agg (uz ⟨3,0,0,0,x4.map (·.1),x4.map (·.2)⟩ vp x4.length vc wp x4.length wc)):=fun W q=>⟨vp,_,vc,wp,_,wc,rfl,Sm.Ints.map q.size (fun b hb hlt=>⟨by show w.heap.size<=b;have hb':w4.heap.size<=b:=hb;omega,q.block b hlt hb⟩) (Lr HV.out),Sm.Ints.map q.size (fun b hb hlt=>⟨by show w.heap.size<=b;have hb':w4.heap.size<=b:=hb;omega,q.block b hlt hb⟩) (Lr HW.out)⟩
      refine ak (v:=.agg (uz ⟨3,0,0,0,x4.map (·.1),x4.map (·.2)⟩ vp x4.length vc wp x4.length wc)) ?_ rfl (PO.ok (dz HS) qe (q _ qe) (HR.out.low qe));exact Jj
 clear HS HB HR;rintro w3-HS b3 HR HB;replace Z:=bV Z w3;clear b3;go_wp2_with fail;refine ac HS HB (dD aaj _ (HR.out.low qe) bR) ?_ ?_
 · clear HS HB HR;rintro w4-HS b4 HR HB;replace Z:=bV Z w4;clear b4;go_wp2_with fail;refine po HS HB (kV _ (HR.out.low qe)) ?_;clear HS HB HR;rintro x5 u5 v5 w5-HS b5 ⟨rfl,n0,n1⟩ HR HB;replace Z:=bV Z w5;clear b5;go_wp2_with fail;refine po HS HB (kV _ (HR.out.low qe)) ?_;clear HS HB HR;rintro x6 u6 v6 w6-HS b6 ⟨rfl,n2,n3⟩ HR HB;replace Z:=bV Z w6;clear b6;go_wp2_with fail;refine po HS HB (kV _ (HR.out.low qe)) ?_;clear HS HB HR;rintro x7 u7 v7 w7-HS b7 ⟨rfl,n4,n5⟩ HR HB;replace Z:=bV Z w7;clear b7;have y0:ae _ ⟨_,0,U⟩=V (.int .i64 0):=Z.out.get rfl;have y1:ae _ ⟨_,1,U⟩=V (.int .i64 0):=Z.out.get rfl;have y2:ae _ ⟨_,2,U⟩=V (.int .i64 0):=Z.out.get rfl;have y3:ae _ ⟨_,3,U⟩=V (.int .i64 0):=Z.out.get rfl;have y4:ae _ ⟨_,4,U⟩=V (.slice U 0 0):=Z.out.get rfl;have y5:ae _ ⟨_,5,U⟩=V (.slice U 0 0):=Z.out.get rfl;have fz:∀i,aj _ ⟨_,i,U⟩=false:=fun i=>fA (i:=i) Z.out;go_wp2_with fail;have bY:=HB.out;refine ak (v:=.agg (uz (⟨4,x6,x7,x5,[],[]⟩:Dt) U 0 0 U 0 0)) ?_ rfl (PO.ok (dz HS) qe ⟨U,0,0,U,0,0,rfl,lV,lV⟩ (HR.out.low qe));exact Jj
 clear HS HB HR;rintro w4-HS b4 HR HB;replace Z:=bV Z w4;clear b4;go_wp2_with fail;refine ac HS HB (dD ZQ _ (HR.out.low qe) bR) ?_ ?_
 · clear HS HB HR;rintro w5-HS b5 HR HB;replace Z:=bV Z w5;clear b5;go_wp2_with fail;refine po HS HB (kV _ (HR.out.low qe)) ?_;clear HS HB HR;rintro x6 u6 v6 w6-HS b6 ⟨rfl,n0,n1⟩ HR HB;replace Z:=bV Z w6;clear b6;go_wp2_with fail;refine po HS HB (kV _ (HR.out.low qe)) ?_;clear HS HB HR;rintro x7 u7 v7 w7-HS b7 ⟨rfl,n2,n3⟩ HR HB;replace Z:=bV Z w7;clear b7;have y0:ae _ ⟨_,0,U⟩=V (.int .i64 0):=Z.out.get rfl;have y1:ae _ ⟨_,1,U⟩=V (.int .i64 0):=Z.out.get rfl;have y2:ae _ ⟨_,2,U⟩=V (.int .i64 0):=Z.out.get rfl;have y3:ae _ ⟨_,3,U⟩=V (.int .i64 0):=Z.out.get rfl;have y4:ae _ ⟨_,4,U⟩=V (.slice U 0 0):=Z.out.get rfl;have y5:ae _ ⟨_,5,U⟩=V (.slice U 0 0):=Z.out.get rfl;have fz:∀i,aj _ ⟨_,i,U⟩=false:=fun i=>fA (i:=i) Z.out;go_wp2_with fail;have bY:=HB.out;refine ak (v:=.agg (uz (⟨5,x6,x7,0,[],[]⟩:Dt) U 0 0 U 0 0)) ?_ rfl (PO.ok (dz HS) qe ⟨U,0,0,U,0,0,rfl,lV,lV⟩ (HR.out.low qe));exact Jj
 clear HS HB HR;rintro w5-HS b5 HR HB;replace Z:=bV Z w5;clear b5;go_wp2_with fail;refine(BG _ (HR.out.low qe)).mono ?_;rintro e w6 ⟨rfl,b6⟩;have bY:=HB.out;go_wp2_with fail;exact⟨rfl,PO.no (MN HS) (by have q:Bt g _ w6:=bS.of b6;exact qe)⟩
end
end Ps
namespace Ps
open Ps.P (exp)
open Go.RowKit
open Lx (Tk)
open Ex (Ex bX)
open Md (bU)
structure aei (L:Lk) (g:Nat) (r:R (List Ex)) (m:P Ex) (N:Nat) (w:ag) (k:Nat) (v:ai) (wr:ag):Prop where
 ex:∃l u,run (wY m k l) u=r/\u.length<k/\u.length<=N/\l.length+u.length<=30000/\bZ 25 4 iN (fun b=>w.heap.size<=b) wr v l/\Rd L g u wr
 bt:Bt g w wr
section
variable {L:Lk} {g:Nat} {t:List Tk}
theorem aj4 (f:FuncId) (m:P Ex) (hm:Dn 1 m) (w:ag) (hR:Rd L g t w) (hf:∀(a:Array ai) (W:ag),(callFunc f a).run ah W=.ok (.enter f a) W)
 (hC:∀W u,Rd L g u W->u.length<=t.length->Calls ah f #[.pointer (V ⟨g,0,U⟩)] W (PO L g VX (run m u) W)):Calls ah 186 #[.pointer (V ⟨g,0,U⟩),.func (.func f) #[] #[]] w (PO L g (VL 4 iN) (run (AZ m) t) w):=by
 have HD:Hid (∀u,run (exp fU) t=.ok () u->u.length<=t.length):=X (fun u h=>by have:=((Dn.exp bR:Dn 1 (exp fU)).out hR.gd h).2;omega);have ht:=hR.small;have HC:=X hC;have HM:=X hm;clear hC hm;refine eQ hR ?_;clear hR;intro r HS HR HB hg;go_enter Tryz.func186,Tryz.ntmps186;go_wp2_with fail;refine po HS HB (gI _ _ (HR.out.low qe) bR) ?_;clear HS HB HR;rintro x1 u1 v1 w1 r1 HS b1 rfl HR HB;have HT:=X (HD.out _ r1);clear b1 r1 HD;go_wp2_with fail;go_loopg [5] FU (aei L g r m t.length w)
 case atStart=>
  exact UM
 case round=>
  obtain⟨⟨l,u,hs,hk,hn,hl,ho,hR⟩,hb⟩:=hrel;clear HS HB HR HT;obtain⟨k,rfl⟩:∃k,gk=k+1:=⟨gk-1,by omega⟩
  rw[LX] at hs;have HL:=X hl;have HK:=X hk;have HN:=X hn;have HO:=X ho;have HR:=X hR;have HB:=X hb;have HS:=X hs;have Am:=X hR.gd;clear hl hk hn ho hR hb hs;go_wp2_with fail;refine ac HS HB (dD jN _ (HR.out.low qe) bR) ?_ ?_
  · clear HS HB HR;rintro w2-HS b2 HR HB;have o2:bZ 25 4 iN (fun b=>w.heap.size<=b) w2 u5 l:=HO.out.up iN.map (b2.mono fun k _ hk=>by have:w.heap.size<=k:=hk;omega) (af _);obtain⟨p,c,rfl,hrw⟩:=o2.rw iN.map ME nT;exact UN
  · clear HS HB HR;rintro w2-HS b2 HR HB;have o2:bZ 25 4 iN (fun b=>w.heap.size<=b) w2 u5 l:=HO.out.up iN.map (b2.mono fun k _ hk=>by have:w.heap.size<=k:=hk;omega) (af _);replace HO:=X o2;clear b2 o2;have hlen:∃p c,u5=.slice p l.length c:=by
     obtain⟨p,c,h,-⟩:=HO.out.rw iN.map ME nT;exact⟨p,c,h⟩
    obtain⟨p5,c5,rfl⟩:=hlen;have hlm:l.length<=30000:=by have:=HL.out;omega
    cases l with
    | nil=>
     dsimp only [CQ] at HS;have mM:Hid (∀x v,run m u=.ok x v->v.length+1<=u.length):=X fun x v h=>(HM.out.out Am.out h).2;go_wp2_with fail;refine po HS HB (HC.out _ _ (HR.out.low qe) HN.out) ?_;clear HS HR;rintro x3 u3 v3 w3 r3 HS b3 V3 HR B3;have oD:=X (mM.out _ _ r3);have s2:=HB.out.size;have s3:=b3.size;have o3:bZ 25 4 iN (fun b=>w.heap.size<=b) w3 (.slice p5 0 c5) []:=HO.out.up iN.map (b3.mono fun k _ hk=>by have:w.heap.size<=k:=hk;omega) (af _);obtain⟨p3,m3,c3,rfl,k3⟩:=V3;have HY:Hid ((∀b,(Value.slice p5 0 c5).ownBlock=V b->w.heap.size<=b)->iN (fun b=>w.heap.size<=b/\¬(Value.slice p5 0 c5).ownBlock=V b) (w3.alloc (.cells (cu x3 p3 m3 c3) 25)) x3 (cu x3 p3 m3 c3)):=X fun _=>⟨p3,m3,c3,rfl,Ex.bX.map (G:=fun b=>w2.heap.size<=b) cK (fun b hb hlt=>⟨⟨by have hb':w2.heap.size<=b:=hb;omega,fun e=>by have h9:=HO.out.own e;have hb':w2.heap.size<=b:=hb;omega⟩,by show(w3.heap.push _)[b]?=_;rw[Array.getElem?_push,if_neg bT]⟩) _ k3⟩
     dsimp only [cu] at HY ⊢;replace HO:=X o3;replace HB:=B3;clear b3 r3 o3 mM;have o4:bZ 25 4 iN (fun b=>w.heap.size<=b) (w3.alloc (.cells (cu x3 p3 m3 c3) 25)) (.slice p5 0 c5) []:=HO.out.up iN.map qe (af _);have c4:bU (w3.alloc (.cells (cu x3 p3 m3 c3) 25)) w3.heap.size 25 (cu x3 p3 m3 c3):=bU.new;obtain⟨v5,w5,hrun,o5,hg5⟩:=o4.app kEx iN.map ME c4.cell (x:=x3) (HY.out o4.blk) cK;have B5:Hid (Bt g w w5):=X (bS.grown qh hg5 fun b hb=>.inl (o4.blk b hb));have R5:Hid (Rd L g u3 w5):=X (HR.out.low (bS.grown qe hg5 fun b hb=>.inr BL));have O5:Hid (bZ 25 4 iN (fun b=>w.heap.size<=b) w5 v5 [x3]):=X (o5.map iN.map (af _) fun b hb _=>⟨by
      rcases hb with hb|hb
      · exact hb
      · have e:(w3.alloc (.cells (cu x3 p3 m3 c3) 25)).heap.size=w3.heap.size+1:=by simp
        omega,rfl⟩)
     dsimp only [cu] at hrun;exact UI
    | cons y l=>
     dsimp only [CQ] at HS;have uh:Hid (∀v,run (exp ry) u=.ok () v->Gd v/\v.length+1<=u.length):=X fun v h=>(Dn.exp bR:Dn 1 (exp ry)).out Am.out h;have hpos:decide ((0:Int)<(((y::l).length:Nat):Int))=true:=decide_eq_true UF;go_wp2_with fail;refine po HS HB (gI _ _ (HR.out.low qe) bR) ?_;clear HS HR;rintro x3 u3 v3 w3 r3 HS b3 rfl HR B3;have BP:=X (uh.out _ r3);have mM:Hid (∀x v,run m u3=.ok x v->v.length+1<=u3.length):=X fun x v h=>(HM.out.out BP.out.1 h).2;have s2:=HB.out.size;have s3:=b3.size;have o3:bZ 25 4 iN (fun b=>w.heap.size<=b) w3 (.slice p5 (y::l).length c5) (y::l):=HO.out.up iN.map (b3.mono fun k _ hk=>by have:w.heap.size<=k:=hk;omega) (af _);replace HO:=X o3;replace HB:=B3;clear b3 r3 o3 uh;go_wp2_with fail;refine po HS HB (HC.out _ _ (HR.out.low qe) UG) ?_;clear HS HB HR;rintro x4 u4 v4 w4 r4 HS b4 V4 HR HB;have oD:=X (mM.out _ _ r4);have s4:=b4.size;have xh:bZ 25 4 iN (fun b=>w.heap.size<=b) w4 (.slice p5 (y::l).length c5) (y::l):=HO.out.up iN.map (b4.mono fun k _ hk=>by have:w.heap.size<=k:=hk;omega) (af _);obtain⟨p4,m4,c4,rfl,k4⟩:=V4;have HY:Hid ((∀b,(Value.slice p5 (y::l).length c5).ownBlock=V b->w.heap.size<=b)->iN (fun b=>w.heap.size<=b/\¬(Value.slice p5 (y::l).length c5).ownBlock=V b) (w4.alloc (.cells (cu x4 p4 m4 c4) 25)) x4 (cu x4 p4 m4 c4)):=X fun _=>⟨p4,m4,c4,rfl,Ex.bX.map (G:=fun b=>w3.heap.size<=b) cK (fun b hb hlt=>⟨⟨by have hb':w3.heap.size<=b:=hb;omega,fun e=>by have h9:=HO.out.own e;have hb':w3.heap.size<=b:=hb;omega⟩,by show(w4.heap.push _)[b]?=_;rw[Array.getElem?_push,if_neg bT]⟩) _ k4⟩
     dsimp only [cu] at HY ⊢;replace HO:=X xh;clear b4 r4 xh mM;have o4:bZ 25 4 iN (fun b=>w.heap.size<=b) (w4.alloc (.cells (cu x4 p4 m4 c4) 25)) (.slice p5 (y::l).length c5) (y::l):=HO.out.up iN.map qe (af _);have Et:bU (w4.alloc (.cells (cu x4 p4 m4 c4) 25)) w4.heap.size 25 (cu x4 p4 m4 c4):=bU.new;obtain⟨v5,w5,hrun,o5,hg5⟩:=o4.app kEx iN.map ME Et.cell (x:=x4) (HY.out o4.blk) bT;have B5:Hid (Bt g w w5):=X (bS.grown qh hg5 fun b hb=>.inl (o4.blk b hb));have R5:Hid (Rd L g u4 w5):=X (HR.out.low (bS.grown qe hg5 fun b hb=>.inr BL));have O5:Hid (bZ 25 4 iN (fun b=>w.heap.size<=b) w5 v5 ((y::l)++[x4])):=X (o5.map iN.map (af _) fun b hb _=>⟨by
      rcases hb with hb|hb
      · exact hb
      · have e:(w4.alloc (.cells (cu x4 p4 m4 c4) 25)).heap.size=w4.heap.size+1:=by simp
        omega,rfl⟩)
     dsimp only [cu] at hrun;exact UH
end
end Ps
namespace Ps
open Go.RowKit
theorem akv (T:TypeId) (n:Nat) (hT:(Tryz.prog.info? T).map (·.size)=V n) (z c:Array ai) (hz:z.size=n) (hc:c.size=n) (h1:c.all (·.oneCell')=true) (w:ag):(Instr.storeAt T (.pointer (V ⟨w.heap.size,0,U⟩)) (.agg c)).run ah (w.alloc (.cells z T))=.ok () (w.alloc (.cells c T)):=
 run_storeAt_new w _ _ _ (by rw[hc];exact hT) (hz.trans hc.symm) h1
theorem acj {ops:Array Oper} {rest:List Oper} {o:Oper} {a:Act} {w:ag} {Q:Exit->Act->ag->Prop} (T:TypeId) (n:Nat) (hT:(Tryz.prog.info? T).map (·.size)=V n) (hgd:o.guard=U) (x y:Operand) (ho:o.op=.store T x y) (z cells:Array ai) (hx:a.eval x=.pointer (V ⟨w.heap.size,0,U⟩)) (hy:a.eval y=.agg cells) (hz:z.size=n) (hc:cells.size=n) (h1:cells.all (·.oneCell')=true) (h:wpList ah ops Q rest (a.put o.dst undef) (w.alloc (.cells cells T))):wpList ah ops Q (o::rest) a (w.alloc (.cells z T)):=
 wpList_plain hgd fun _ hK=>by
  have h2:=akv T n hT z cells hz hc h1 w;unfold Oper.wp execOp;simp only[ho,hx,hy,h2,Sem.run_bind,Sem.run_pure,Result.andThen_ok];exact hK _ _ h
end Ps
end Go.Proofs.YtkpekhpgdajabaaGreatDoor
