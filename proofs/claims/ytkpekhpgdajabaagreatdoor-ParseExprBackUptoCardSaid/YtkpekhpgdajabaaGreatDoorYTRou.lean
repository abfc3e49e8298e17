/-
  Parts of this proof: The contract of the reader's routine. The contract of the reader's resource. The contracts of checkValue and checkField, and .
-/
import Derived.Test.YtkpekhpgdajabaaGreatDoorYTStE
import Derived.Test.YtkpekhpgdajabaaGreatDoorYTLstF
import Derived.Test.YtkpekhpgdajabaaGreatDoorYQEach
open Go.Proofs.Tryz
open Option renaming none->U,some->ag
open Go.World renaming cell?->ae,frozen?->af
open Go.Lib renaming hid->V
open Go renaming World->ah,bodyPost_ret->aj,Addr->ak
open Go.Proofs.Tryz renaming prog->ai
set_option linter.unusedVariables false
set_option maxRecDepth 100000
set_option maxHeartbeats 2000000
open Go.Lib (hid)
namespace Go.Proofs.YtkpekhpgdajabaaGreatDoor
namespace Ps
open Ps.P (rt bd exp)
open Go.RowKit
open Lx (Tk)
open Sm (St dA)
open Md (Rw bU fo jQ Pp JV gU eO gW dE Cy)
theorem aaA {l:List St} {p:Option ak} {m:Nat}:Mv (fun G w=>dA G w l p m):=fun hs hk h=>Sm.dA.map hs hk h
def Dq (z:Nat) (zc:Array Value) (ps:List eO) (pp:Option ak) (pm:Nat) (v:Value) (l:List eO) (bo:List St) (bp:Option ak) (bm:Nat):Nat->(Nat->Prop)->ah->Prop
 | 0=>fun G w=>G z/\bU w z 215 zc
 | 1=>fun G w=>Rw 2 dE G w ps pp pm
 | 2=>fun G w=>bZ 247 2 dE G w v l
 | 3=>fun G w=>dA G w bo bp bm
 | _+4=>fun _ _=>True
section
variable {z:Nat} {zc:Array Value} {ps:List eO} {pp:Option ak} {pm:Nat} {v v':Value} {l l':List eO} {bo Pb:List St} {bp bp':Option ak} {bm GD:Nat}
theorem rW:∀j,Mv (Dq z zc ps pp pm v l bo bp bm j)
 | 0=>yG
 | 1=>ko dE.map
 | 2=>ou dE.map
 | 3=>aaA
 | _+4=>Iy
theorem amu:∀j G W,(if j=2 then fun G w=>bZ 247 2 dE G w v' l' else Dq z zc ps pp pm v l bo bp bm j) G W->Dq z zc ps pp pm v' l' bo bp bm j G W
 | 0,_,_,h=>h
 | 1,_,_,h=>h
 | 2,_,_,h=>h
 | 3,_,_,h=>h
 | _+4,_,_,h=>trivial
theorem amt:∀j G W,(if j=3 then fun G w=>dA G w Pb bp' GD else Dq z zc ps pp pm v l bo bp bm j) G W->Dq z zc ps pp pm v l Pb bp' GD j G W
 | 0,_,_,h=>h
 | 1,_,_,h=>h
 | 2,_,_,h=>h
 | 3,_,_,h=>h
 | _+4,_,_,h=>trivial
end
abbrev JO (w:ah) (B:Nat) (nm:ByteArray) (ps:List eO) (pp:Option ak) (pm pc:Nat) (v:Value) (l:List eO) (bo:List St) (bp:Option ak) (bm bc:Nat) (W:ah):Prop:=gJ w.heap.size B 215 #[.string nm,.slice pp pm pc,v,.slice bp bm bc] (Dq w.heap.size #[.string ⟨#[]⟩,.slice U 0 0,.slice U 0 0,.slice U 0 0] ps pp pm v l bo bp bm) W
structure aen (L:Lk) (g:Nat) (r:R fo) (K:List eO->P fo) (nm:ByteArray) (ps:List eO) (pp:Option ak) (pm pc B:Nat) (w:ah) (k:Nat) (wr:ah):Prop where
 ex:∃l u p c,run (bd (Cz k l) K) u=r/\u.length<k/\l.length+u.length<=30001/\JO w B nm ps pp pm pc (.slice p l.length c) l [] U 0 0 wr/\Rd L g u wr
 bt:Bt g w wr
section
variable {L:Lk} {g:Nat} {t:List Tk}
theorem Mx (w:ah) (hR:Rd L g t w):Calls ai 171 #[.pointer (ag ⟨g,0,U⟩)] w (PO L g (VR gU) (run Mw t) w):=by
 refine eQ hR ?_;clear hR;intro r HS HR HB hg;have Z:=V (bU.new (w:=w) (t:=215) (c:=#[.string ⟨#[]⟩,.slice U 0 0,.slice U 0 0,.slice U 0 0]));go_enter func171,ntmps171;go_wp2_with fail;refine po HS HB (jo _ (HR.out.low qe)) ?_;clear HS HB HR;rintro x1 u1 v1 w1-HS b1 rfl HR HB;replace Z:=bV Z w1;clear b1;have hz1:=Z.out.lt;go_wp2_with fail;refine po HS HB (aj2 197 Cq Kw _ (HR.out.low qe) (fun _ _=>rfl) (fun W u hW _=>Yb W hW)) ?_;clear HS HB HR;rintro x2 u2 v2 w2-HS b2 ⟨p2,m2,c2,rfl,k2⟩ HR HB;replace Z:=bV Z w2;clear b2;have hz2:=Z.out.lt;have hd0:gJ w.heap.size w2.heap.size 215 #[.string x1,.slice p2 m2 c2,.slice U 0 0,.slice U 0 0] (Dq w.heap.size #[.string ⟨#[]⟩,.slice U 0 0,.slice U 0 0,.slice U 0 0] [] U 0 (.slice U 0 0) [] [] U 0) (w2.alloc (.cells #[.string x1,.slice p2 m2 c2,.slice U 0 0,.slice U 0 0] 215)):=gJ.new bU.new (Nat.le_of_lt hz2) ⟨⟨Nat.le_refl _,by omega⟩,cZ Z.out qe⟩ yG fun j hj G=>(match j,hj with|1,_=>Rw.nil|2,_=>bZ.nil|3,_=>Sm.dA.nil|n+4,_=>trivial)
 have hd1:Hid (JO w w2.heap.size x1 x2 p2 m2 c2 (.slice U 0 0) [] [] U 0 0 (w2.alloc (.cells #[.string x1,.slice p2 m2 c2,.slice U 0 0,.slice U 0 0] 215))):=V ⟨bU.new,Nat.le_of_lt hz2,fun k=>if k<w1.heap.size then 0 else if k=w2.heap.size then 0 else 1,by simp,fun j=>(match j with
  | 0=>⟨⟨Nat.le_refl _,by simp[hz1],by omega⟩,cZ Z.out qe⟩
  | 1=>k2.map dE.map cK (fun b hb hlt=>⟨⟨by have hb':w1.heap.size<=b:=hb;omega,by have hb':w1.heap.size<=b:=hb;show(if b<w1.heap.size then 0 else if b=w2.heap.size then 0 else 1)=1;rw[if_neg bT,if_neg bT],by omega⟩,by show(w2.heap.push _)[b]?=_;rw[Array.getElem?_push,if_neg bT]⟩)
  | 2=>bZ.nil
  | 3=>Sm.dA.nil
  | n+4=>trivial)⟩
 clear hd0 k2 Z;obtain⟨K,hK⟩:∃K:List eO->P fo,(fun ls=>bd Bq fun b=>bd (exp oQ) fun _=>bd fV fun _=>rt ⟨x1,x2,ls,b⟩)=K:=⟨_,rfl⟩
 have HK:=V hK;replace HS:Hid (run (bd fV fun _=>bd (Cz FU []) K) u2=r):=V (by rw[← hK];exact HS.out);clear hK;go_wp2_with fail;refine po HS HB (kS _ (HR.out.low qe)) ?_;clear HS HB HR;rintro x3 u3 v3 w3-HS b3 rfl HR HB;have HD:=V (hd1.out.up rW (w1:=w3) qe);clear b3;have sm3:=HR.out.small;have hb3:=HD.out.box.lt;clear hd1;go_wp2_with fail;go_loopg [] FU (aen L g r K x1 x2 p2 m2 c2 w2.heap.size w)
 case atStart=>exact⟨⟨[],u3,U,0,HS.out,by unfold FU;omega,by simp;omega,HD.out,HR.out⟩,HB.out⟩
 case round=>
  obtain⟨⟨l,u,p,c,hs,hk,hl,hd,hR⟩,hb⟩:=hrel;clear HS HD HR HB;obtain⟨k,rfl⟩:∃k,gk=k+1:=⟨gk-1,by omega⟩
  rw[Cz] at hs;have HL:=V hl;have HKK:=V hk;have lM:Hid (∀x v,run Cq u.tail=.ok x v->is Rh u=true->Gd v/\v.length+1<=u.length):=V fun x v h hi=>by
   obtain⟨h1,h2⟩:=EM hR.gd bR hi;obtain⟨h3,h4⟩:=Kw.out h1 h;exact⟨h3,by omega⟩
  have HD:=V hd;have HR:=V hR;have HB:=V hb;have HS:=V hs;have hbl:=hd.box.lt;clear hl hk hd hR hb hs;go_wp2_with fail;refine(dD Rh _ (HR.out.low qe) bR).mono ?_;rintro e w8 ⟨b8,⟨i8,rfl,R8⟩|⟨i8,rfl,R8⟩⟩
  · have HI:=V i8;replace HS:=jb (xH HS i8);replace HD:=V (HD.out.up (rW) (w1:=w8) qe);replace HB:=eu HB w8;replace HR:=V R8;clear b8 R8;clear i8;have lm:ae w8 ⟨w2.heap.size,2,U⟩=ag (.slice p l.length c):=HD.out.cell rfl;have qP:=HD.out.box.lt;go_wp2_with fail;go_region_law (first|(rw[if_pos (by rfl)];refine Lib.wp_append_run _ _ _ _ _ rfl _ _ rfl rfl _ _ hrun ?_)|(go_simp;go_at_call 197;refine(Yb _ (HR.out.low qe)).mono ?_;rintro e' wa h3;rcases h3.cases with⟨x3,u3,v3,r3,rfl,b3,V3,R3⟩|⟨u3,r3,rfl,b3⟩;rotate_left 1;(have bY:=HB.out;exact⟨rfl,PO.no (fw HS (by assumption)) qe⟩);obtain rfl:=V3;obtain⟨v5,w5,hrun,⟨p5,n5,rfl⟩,k5,f5,D5,q5⟩:=HD.out.push Cy dE.map zX rW (w1:=wa) qe (i:=2) rfl bR rfl (y:=x3) (ce:=gW x3) rfl nT;(have lX:ae wa ⟨w2.heap.size,2,U⟩=ag (.slice p l.length c):=(eT HD.out.box (S:=fun k=>k≠g) qe bT).get rfl;have ib:ae (wa.alloc (.cells (gW x3) 247)) ⟨w2.heap.size,2,U⟩=ag (.slice p l.length c):=(eT HD.out.box (S:=fun k=>k≠g) qe bT).get rfl;dsimp only [gW] at hrun ib ⊢)))
    all_goals
     have HT3:=V (lM.out _ _ r3 HI.out);replace HS:=jb (eY HS r3);have HG:=V (R3.low (w2:=w5.setCell ⟨w2.heap.size,2,U⟩ (.slice p5 (l.length+1) n5)) (q5.mono fun k _ hk=>by have hk':k<=g:=hk;omega));have ug:Hid (Bt g w (w5.setCell ⟨w2.heap.size,2,U⟩ (.slice p5 (l.length+1) n5))):=V (by have bY:=HB.out;exact bS.call (S:=fun k=>k≠g) (S':=fun k=>k<w.heap.size) (w:=wa) qe q5 (fun k hk _=>hk));have e1:(l++[x3]).length=l.length+1:=by simp
     have kC:Hid (JO w w2.heap.size x1 x2 p2 m2 c2 (.slice p5 (l++[x3]).length n5) (l++[x3]) [] U 0 0 (w5.setCell ⟨w2.heap.size,2,U⟩ (.slice p5 (l.length+1) n5))):=V (by rw[e1];exact D5.cast amu rfl);clear HR HB HD D5 q5 R3 b3 hrun k5 f5 r3 h3 lm lX ib lM HI;have HR:=HG;have HB:=ug;have HD:=kC;clear HG ug kC;go_wp2_with fail;refine po HS HB (kS _ (HR.out.low qe)) ?_;clear HS HB HR;rintro x9 u9 v9 w9 r9 HS b9 rfl HR HB;have JL:=V (nG.out HT3.out.1 r9).2;replace HD:=V (HD.out.up (rW) (w1:=w9) qe);clear b9 r9;go_wp2_with fail;go_roundg k
     case measure=>omega
     case rel=>exact⟨⟨l++[x3],u9,p5,n5,HS.out,by have h1:=HKK.out;have h2:=JL.out;have h3:=HT3.out.2;omega,by have h1:=HL.out;have h2:=JL.out;have h3:=HT3.out.2;rw[e1];omega,HD.out,HR.out⟩,HB.out⟩
  · replace HS:=lY (xG HS i8);replace HS:Hid (run (bd Bq fun b=>bd (exp oQ) fun _=>bd fV fun _=>rt ⟨x1,x2,l,b⟩) u=r):=V Ju;replace HD:=V (HD.out.up (rW) (w1:=w8) qe);replace HB:=eu HB w8;replace HR:=V R8;clear b8 R8;clear i8 lM;have qP:=HD.out.box.lt;go_wp2_with fail;refine po HS HB (ab2 _ (HR.out.low qe)) ?_;clear HS HB HR;rintro x9 u9 v9 w9-HS b9 V9 HR HB;obtain⟨p9,m9,c9,rfl,k9⟩:=V9;have yg:Hid (JO w w2.heap.size x1 x2 p2 m2 c2 (.slice p l.length c) l x9 p9 m9 c9 (w9.setCell ⟨w2.heap.size,3,U⟩ (.slice p9 m9 c9))):=V (((HD.out.put rW (w1:=w9) qe (i:=3) bR (F2:=fun G w=>dA G w x9 p9 m9) k9 aaA).cast amt rfl).set rW 3 (.slice p9 m9 c9));replace HD:=V (HD.out.up rW (w1:=w9) qe);clear b9 k9;have lm:ae w9 ⟨w2.heap.size,3,U⟩=ag (.slice U 0 0):=HD.out.cell rfl;have fy:∀i,af w9 ⟨w2.heap.size,i,U⟩=false:=fun i=>HD.out.rJ i;have Ct:=HD.out.box.lt;go_wp2_with fail;clear lm fy;refine po HS HB (gI _ _ (HR.out.low qe) bR) ?_;clear HS HB HR;rintro Jg jc v10 fT-HS b10 rfl HR HB;replace yg:=V (yg.out.up rW (w1:=fT) qe);clear b10;go_wp2_with fail;refine po HS HB (kS _ (HR.out.low qe)) ?_;clear HS HB HR;rintro x11 jV v11 ku-HS b11 rfl HR HB;replace yg:=V (yg.out.up rW (w1:=ku) qe);clear b11;have Z0:=yg.out.part rW 0;have Z:=V Z0.2;have Y:Hid (bU ku w2.heap.size 215 (jQ ⟨x1,x2,l,x9⟩ ⟨p2,m2,c2,p,l.length,c,p9,m9,c9⟩)):=V yg.out.box;have K1:=yg.out.off rW (z:=w.heap.size) (fun G h=>h.1) (j:=1) bR;have K2:=yg.out.off rW (z:=w.heap.size) (fun G h=>h.1) (j:=2) bR;have K3:=yg.out.off rW (z:=w.heap.size) (fun G h=>h.1) (j:=3) bR;obtain⟨p',c',e,hrw⟩:=bZ.rw dE.map zX K2 nT;obtain⟨rfl,rfl⟩:p=p'/\c=c':=by simpa using e
    have q:∀W,bS (fun k=>w.heap.size<=k/\¬k=w.heap.size/\¬k=w2.heap.size) ku W->gU (fun b=>w.heap.size<=b) W ⟨x1,x2,l,x9⟩ (jQ ⟨x1,x2,l,x9⟩ ⟨p2,m2,c2,p,l.length,c,p9,m9,c9⟩):=fun W q=>⟨_,rfl,⟨(gu (ko dE.map) K1 q).mono dE.map fun b hb _=>hb.1,(gu (ko dE.map) hrw q).mono dE.map fun b hb _=>hb.1,(Ip K3 q).mono fun b hb _=>hb.1⟩⟩
    clear Z0 K1 K2 K3 e hrw HD yg;obtain⟨W,hP⟩:=jr (c:=jQ ⟨x1,x2,l,x9⟩ ⟨p2,m2,c2,p,l.length,c,p9,m9,c9⟩) Z.out JV (Pp _ _) rfl;have jK:=hP.bt;have gQ:=V hP.box;have jL:=hP.size;go_wp2_with (first|(refine wpList_load_row rfl 215 _ rfl _ rfl 215 _ (0,0) _ Y.out underlying215 rfl dx ?_)|(refine jw rfl 215 _ _ rfl w.heap.size _ rfl rfl hP ?_))
    have bY:=HB.out;refine aj (v:=.agg (jQ ⟨x1,x2,l,x9⟩ ⟨p2,m2,c2,p,l.length,c,p9,m9,c9⟩)) ?_ rfl (PO.ok (dz HS) qe ⟨_,rfl,q _ qe⟩ (HR.out.low qe));exact results_cell_row rfl _ _ w.heap.size 215 _ (0,0) _ rfl gQ.out underlying215 rfl dx
end
end Ps
namespace Ps
open Go.RowKit
open Lx (Tk mt)
open Sm (Dt Ints zD)
open Md (Rw At bU dm ed dV Ce Az iO dQ Cc iM)
theorem qp {F:(Nat->Prop)->ah->Prop} (hm:Mv F) {G H:Nat->Prop} {w:ah} (h:F G w) (hk:∀b,G b->H b):F H w:=hm (Nat.le_refl _) (fun b hb _=>⟨hk b hb,rfl⟩) h
theorem fG {l:List Int} {p:Option ak} {m:Nat}:Mv (fun G w=>Ints G w l p m):=fun hs hk h=>Sm.Ints.map hs hk h
def yM (z:Nat) (zc:Array Value) (pr:List (Int×Int)) (pp:Option ak) (pm:Nat) (v:Value) (l:List dQ) (u:Dt) (a:Option ak) (am:Nat) (b:Option ak) (bm:Nat) (d:Dt) (e:Option ak) (em:Nat) (f:Option ak) (fm:Nat):Nat->(Nat->Prop)->ah->Prop
 | 0=>fun G w=>G z/\bU w z 199 zc
 | 1=>fun G w=>Rw 2 kD G w pr pp pm
 | 2=>fun G w=>bZ 260 2 iM G w v l
 | 3=>fun G w=>Ints G w u.vs a am/\Ints G w u.ws b bm
 | 4=>fun G w=>Ints G w d.vs e em/\Ints G w d.ws f fm
 | _+5=>fun _ _=>True
section
variable {z:Nat} {zc:Array Value} {pr pr':List (Int×Int)} {pp pp':Option ak} {pm pm':Nat} {v v':Value} {l l':List dQ} {u u':Dt} {a a':Option ak} {am Vi:Nat} {b b':Option ak} {bm GD:Nat} {d d':Dt} {e e':Option ak} {em XU:Nat} {f f':Option ak} {fm Yn:Nat}
theorem dI:∀j,Mv (yM z zc pr pp pm v l u a am b bm d e em f fm j)
 | 0=>yG
 | 1=>ko kD.map
 | 2=>ou iM.map
 | 3=>EY fG fG
 | 4=>EY fG fG
 | _+5=>Iy
theorem amA:∀j G W,(if j=1 then fun G w=>Rw 2 kD G w pr' pp' pm' else yM z zc pr pp pm v l u a am b bm d e em f fm j) G W->yM z zc pr' pp' pm' v l u a am b bm d e em f fm j G W
 | 0,_,_,h=>h
 | 1,_,_,h=>h
 | 2,_,_,h=>h
 | 3,_,_,h=>h
 | 4,_,_,h=>h
 | _+5,_,_,h=>trivial
theorem amB:∀j G W,(if j=2 then fun G w=>bZ 260 2 iM G w v' l' else yM z zc pr pp pm v l u a am b bm d e em f fm j) G W->yM z zc pr pp pm v' l' u a am b bm d e em f fm j G W
 | 0,_,_,h=>h
 | 1,_,_,h=>h
 | 2,_,_,h=>h
 | 3,_,_,h=>h
 | 4,_,_,h=>h
 | _+5,_,_,h=>trivial
theorem abh:∀j G W,(if j=3 then fun G w=>Ints G w u'.vs a' Vi/\Ints G w u'.ws b' GD else yM z zc pr pp pm v l u a am b bm d e em f fm j) G W->yM z zc pr pp pm v l u' a' Vi b' GD d e em f fm j G W
 | 0,_,_,h=>h
 | 1,_,_,h=>h
 | 2,_,_,h=>h
 | 3,_,_,h=>h
 | 4,_,_,h=>h
 | _+5,_,_,h=>trivial
theorem abg:∀j G W,(if j=4 then fun G w=>Ints G w d'.vs e' XU/\Ints G w d'.ws f' Yn else yM z zc pr pp pm v l u a am b bm d e em f fm j) G W->yM z zc pr pp pm v l u a am b bm d' e' XU f' Yn j G W
 | 0,_,_,h=>h
 | 1,_,_,h=>h
 | 2,_,_,h=>h
 | 3,_,_,h=>h
 | 4,_,_,h=>h
 | _+5,_,_,h=>trivial
end
abbrev v_ (w:ah) (B:Nat) (pr:List (Int×Int)) (pp:Option ak) (pm:Nat) (x:dm) (P:ed) (W:ah):Prop:=gJ w.heap.size B 199 (dV x P) (yM w.heap.size #[.string ⟨#[]⟩,.int .i64 0,.slice U 0 0,.int .i64 0,.string ⟨#[]⟩,.int .i64 0,.int .i64 0,.int .i64 0,.int .i64 0,.slice U 0 0,.slice U 0 0,.int .i64 0,.int .i64 0,.int .i64 0,.int .i64 0,.slice U 0 0,.slice U 0 0] pr pp pm (.slice P.Dz P.Dy P.Fu) x.sh x.up P.tY P.tX P.t_ P.tZ x.dn P.sM P.sK P.sP P.sN) W
structure aeo (g:Nat) (nm:ByteArray) (un:Int) (B:Nat) (l:List (Int×Int)) (p:Option ak) (w0 w:ah) (n:Nat) (v:Value) (wr:ah):Prop where
 ex:∃k q c,k+n=l.length/\v=.int .i64 ((k:Nat):Int)/\v_ w0 B l p l.length ⟨nm,un,(l.take k).map (fun q=>⟨q.1,q.2⟩),0,mt,zD,zD⟩ ⟨q,k,c,U,0,0,U,0,0,U,0,0,U,0,0⟩ wr
 eq:bS (fun b=>b<w0.heap.size) w wr
section
variable {L:Lk} {g:Nat} {t:List Tk}
theorem Nw {p:Prop} (h:p:=by
 have e2:=e;simp only[Value.slice.injEq] at e2;obtain⟨e3,e4,e5⟩:=e2;rw[← e3,← e4] at hrw;exact hrw
 ):p:=h
theorem Ny {p:Prop} (h:p:=by
 exact results_cell_row rfl _ _ w.heap.size 199 _ (0,0) _ rfl gQ.out underlying199 rfl dx
 ):p:=h
theorem alT (w:ah) (hR:Rd L g t w):Calls ai 168 #[.pointer (ag ⟨g,0,U⟩)] w (PO L g (VR iO) (run qx t) w):=by
 refine eQ hR ?_;clear hR;intro r HS HR HB hg;have Z:=V (bU.new (w:=w) (t:=199) (c:=#[.string ⟨#[]⟩,.int .i64 0,.slice U 0 0,.int .i64 0,.string ⟨#[]⟩,.int .i64 0,.int .i64 0,.int .i64 0,.int .i64 0,.slice U 0 0,.slice U 0 0,.int .i64 0,.int .i64 0,.int .i64 0,.int .i64 0,.slice U 0 0,.slice U 0 0]));go_enter func168,ntmps168;go_wp2_with fail;refine po HS HB (jo _ (HR.out.low qe)) ?_;clear HS HB HR;rintro x1 u1 v1 w1-HS b1 rfl HR HB;replace Z:=bV Z w1;clear b1;have hz1:=Z.out.lt;go_wp2_with fail;refine po HS HB (kV _ (HR.out.low qe)) ?_;clear HS HB HR;rintro x2 u2 v2 w2-HS b2 ⟨rfl,n0,n1⟩ HR HB;replace Z:=bV Z w2;clear b2;have hz2:=Z.out.lt;have hd1:Hid (v_ w w2.heap.size [] U 0 ⟨x1,x2,[],0,mt,zD,zD⟩ ⟨U,0,0,U,0,0,U,0,0,U,0,0,U,0,0⟩ (w2.alloc (.cells (dV ⟨x1,x2,[],0,mt,zD,zD⟩ ⟨U,0,0,U,0,0,U,0,0,U,0,0,U,0,0⟩) 199))):=V (gJ.new bU.new (Nat.le_of_lt hz2) ⟨⟨Nat.le_refl _,by omega⟩,cZ Z.out qe⟩ yG fun j hj G=>(match j,hj with|1,_=>Rw.nil|2,_=>bZ.nil|3,_=>⟨lV,lV⟩|4,_=>⟨lV,lV⟩|n+5,_=>trivial));clear Z;go_wp2_with (refine acj 199 17 Az.2 rfl _ _ rfl _ (dV ⟨x1,x2,[],0,mt,zD,zD⟩ ⟨U,0,0,U,0,0,U,0,0,U,0,0,U,0,0⟩) rfl rfl rfl rfl (Ce _ _) ?_)
 refine(dD Rj _ (HR.out.low qe) bR).mono ?_;rintro e w3 ⟨b3,⟨i3,rfl,R3⟩|⟨i3,rfl,R3⟩⟩
 · replace HS:=jb (xH HS i3);have HD:=V (hd1.out.up dI (w1:=w3) qe);have hl3:Hid (∀x v,run zS u2.tail=.ok x v->x.length<=30000):=V (aa4 (s:=Rj) HR.out.gd HR.out.small i3);replace HB:=eu HB w3;replace HR:=V R3;clear b3 R3;clear i3 hd1;have hb3:=HD.out.box.lt;go_wp2_with fail;refine(aaU _ (HR.out.low qe)).mono ?_;rintro e w4 h4;rcases h4.cases with⟨x4,u4,v4,r4,rfl,b4,V4,R4⟩|⟨u4,r4,rfl,b4⟩
   rotate_left 1
   · have bY:=HB.out;go_wp2_with fail;exact⟨rfl,PO.no (fw HS (by assumption)) qe⟩
   have Ao:=V (hl3.out _ _ r4);replace HS:=jb (eY HS r4);obtain⟨p4,m4,c4,rfl,k4⟩:=V4;obtain rfl:x4.length=m4:=k4.1;have HD4:Hid (v_ w w2.heap.size x4 p4 x4.length ⟨x1,x2,[],0,mt,zD,zD⟩ ⟨U,0,0,U,0,0,U,0,0,U,0,0,U,0,0⟩ w4):=V ((HD.out.put dI (w1:=w4) qe (i:=1) bR (F2:=fun G w=>Rw 2 kD G w x4 p4 x4.length) k4 (ko kD.map)).cast amA rfl);replace HB:=eu HB w4;replace HR:=V R4;clear b4 R4;clear r4 h4 hl3 k4 HD;have hb4:=HD4.out.box.lt;go_wp2_with fail;go_loopg [16] x4.length (aeo g x1 x2 w2.heap.size x4 p4 w w4)
   case atStart=>exact⟨⟨0,U,0,by omega,rfl,HD4.out⟩,bS.refl _ _⟩
   case round=>
    obtain⟨⟨k,q,c,hk,rfl,hd⟩,hq⟩:=hrel;have hlen:=Ao.out;have hbr:=hd.box.lt;by_cases hkl:k<x4.length
    · have hpr:=hd.part dI 1;obtain⟨pb,o,rfl,hpb,hlt,hcc⟩:=Rw.rows hpr bT;obtain⟨cc,hc1,hc2,hc3⟩:=hcc.out k hkl;have hc3:cc=rG x4[k]:=hc3;subst hc3;obtain⟨⟨a,b⟩,hab⟩:∃q,x4[k]=q:=⟨_,rfl⟩
      rw[hab] at hc2;have hcw:At wr pb (o+k*2) #[.int .i64 a,.int .i64 b]:=hc2;have q0:wr.cell? ⟨pb,o+k*2,U⟩=ag (.int .i64 a):=by have:=hcw.get (r:=0) rfl;rwa [Nat.add_zero] at this
      have q1:wr.cell? ⟨pb,o+k*2+1,U⟩=ag (.int .i64 b):=hcw.get (r:=1) rfl;have k0:(0:Int)<=(k:Int):=by omega
      have k1:(k:Int)<(x4.length:Int):=by omega
      have k2:decide ((k:Int)<(x4.length:Int))=true:=decide_eq_true k1;have hw:IntKind.i64.wrap ((k:Int)+1)=((k+1:Nat):Int):=by rw[IntKind.wrap_i64];omega
      have e1:(wr.alloc (.cells #[.int .i64 a,.int .i64 b] 256)).heap.size=wr.heap.size+1:=by simp
      have el:((x4.take k).map (fun q=>(⟨q.1,q.2⟩:dQ))).length=k:=by simp;omega
      obtain⟨v5,w5,hrun,hform,k5,f5,D5,q5⟩:=hd.push aiA iM.map IL dI (w1:=wr.alloc (.cells #[.int .i64 a,.int .i64 b] 256)) qe (i:=2) rfl bR rfl (y:=(⟨a,b⟩:dQ)) (ce:=Cc ⟨a,b⟩) rfl (by rw[el];omega);rw[el] at hform;obtain⟨p5,n5,rfl⟩:=hform;rw[e1] at hrun;have b5:bU (wr.alloc (.cells #[.int .i64 a,.int .i64 b] 256)) wr.heap.size 256 #[.int .i64 a,.int .i64 b]:=bU.new;have lm:ae (wr.alloc (.cells #[.int .i64 a,.int .i64 b] 256)) ⟨w2.heap.size,2,U⟩=ag (.slice q k c):=(eT hd.box (S:=fun k=>k=w2.heap.size) qe rfl).get rfl;have f0:ae _ ⟨wr.heap.size,0,U⟩=ag (.int .i64 a):=b5.get rfl;have f1:ae _ ⟨wr.heap.size,1,U⟩=ag (.int .i64 b):=b5.get rfl;have HX:Hid (v_ w w2.heap.size x4 (ag ⟨pb,o,U⟩) x4.length ⟨x1,x2,(x4.take (k+1)).map (fun q=>(⟨q.1,q.2⟩:dQ)),0,mt,zD,zD⟩ ⟨p5,k+1,n5,U,0,0,U,0,0,U,0,0,U,0,0⟩ (w5.setCell ⟨w2.heap.size,2,U⟩ (.slice p5 (k+1) n5))/\bS (fun b=>b<w.heap.size) w4 (w5.setCell ⟨w2.heap.size,2,U⟩ (.slice p5 (k+1) n5))):=V ⟨by rw[Tt _ hkl,hab];exact D5.cast amB rfl,bS.call (S':=fun k=>k<w.heap.size) hq.alloc q5 (fun k _ h=>h)⟩;dsimp only [Cc] at hrun;clear hd hq hpr hcc hc1 hc2 hcw b5 D5 q5 HS HB HR;go_wp2_with (at_builtin;refine Lib.wpList_append_run _ rfl _ _ _ _ rfl _ _ rfl rfl _ _ hrun ?_)
      go_roundg (gk-1)
      case measure=>omega
      case rel=>exact⟨⟨k+1,p5,n5,by omega,rfl,HX.out.1⟩,HX.out.2⟩
    · obtain rfl:k=x4.length:=by omega
      rw[List.take_length] at hd;have HD:=V hd;have HL:=V hlen;have k2:decide ((x4.length:Int)<(x4.length:Int))=false:=decide_eq_false bT;have k3:¬((x4.length:Int)<(x4.length:Int)):=by omega
      replace HB:Hid (Bt g w wr):=V (by have bY:=HB.out;exact bY.call hq (by intro k hk _;exact hk));replace HR:Hid (Rd L g u4 wr):=V (HR.out.low (hq.mono fun k _ hk=>by have hk':k<=g:=hk;omega));clear hd hq hk hkl HD4 hlen Ao;go_wp2_with fail;refine po HS HB (gI _ _ (HR.out.low qe) bR) ?_;clear HS HB HR;rintro x5 u5 v5 w5-HS b5 rfl HR HB;replace HD:=V (HD.out.up (dI) (w1:=w5) qe);clear b5;replace HS:=jb HS;have hb5:=HD.out.box.lt;go_wp2_with fail;refine po HS HB (kV _ (HR.out.low qe)) ?_;clear HS HB HR;rintro x6 u6 v6 w6-HS b6 ⟨rfl,n2,n3⟩ HR HB;replace HD:=V (HD.out.up (dI) (w1:=w6) qe);clear b6;replace HS:=lY HS;have hb6:=HD.out.box.lt;have lm:ae w6 ⟨w2.heap.size,3,U⟩=ag (.int .i64 0):=HD.out.cell rfl;have fy:∀i,af w6 ⟨w2.heap.size,i,U⟩=false:=fun i=>HD.out.rJ i;go_wp2_with fail;replace HD:Hid (v_ w w2.heap.size x4 p4 x4.length ⟨x1,x2,x4.map (fun q=>(⟨q.1,q.2⟩:dQ)),x6,mt,zD,zD⟩ ⟨q,x4.length,c,U,0,0,U,0,0,U,0,0,U,0,0⟩ (w6.setCell ⟨w2.heap.size,3,U⟩ (.int .i64 x6))):=V (HD.out.set dI 3 (.int .i64 x6));clear lm fy;refine(dD Rf _ (HR.out.low qe) bR).mono ?_;rintro e Ac ⟨b20,⟨i20,rfl,vZ⟩|⟨i20,rfl,vZ⟩⟩
      · replace HS:=jb (xH HS i20);replace HD:=V (HD.out.up (dI) (w1:=Ac) qe);replace HB:=eu HB Ac;replace HR:=V vZ;clear b20 vZ;clear i20;have QU:=HD.out.box.lt;go_wp2_with fail;refine po HS HB (jo _ (HR.out.low qe)) ?_;clear HS HB HR;rintro mI u21 v21 Ad-HS OV rfl HR HB;replace HD:=V (HD.out.up (dI) (w1:=Ad) qe);clear OV;have aiX:=HD.out.box.lt;replace HS:=jb HS;have lm:ae Ad ⟨w2.heap.size,4,U⟩=ag (.string ⟨#[]⟩):=HD.out.cell rfl;have fy:∀i,af Ad ⟨w2.heap.size,i,U⟩=false:=fun i=>HD.out.rJ i;go_wp2_with fail;replace HD:Hid (v_ w w2.heap.size x4 p4 x4.length ⟨x1,x2,x4.map (fun q=>(⟨q.1,q.2⟩:dQ)),x6,mI,zD,zD⟩ ⟨q,x4.length,c,U,0,0,U,0,0,U,0,0,U,0,0⟩ (Ad.setCell ⟨w2.heap.size,4,U⟩ (.string mI))):=V (HD.out.set dI 4 (.string mI));clear lm fy;refine po HS HB (gI _ _ (HR.out.low qe) bR) ?_;clear HS HB HR;rintro x22 u22 v22 TI-HS OW rfl HR HB;replace HD:=V (HD.out.up (dI) (w1:=TI) qe);clear OW;have aiY:=HD.out.box.lt;replace HS:=jb HS;go_wp2_with fail;refine po HS HB (GQ _ (HR.out.low qe)) ?_;clear HS HB HR;rintro gZ u23 v23 mG-HS OX OE HR HB;obtain⟨nP,nO,pJ,nS,nR,pQ,rfl,Ia,Ic⟩:=OE;have vW:=(HD.out.put dI (w1:=mG) qe (i:=3) bR (F2:=fun G w=>Ints G w gZ.vs nP nO/\Ints G w gZ.ws nS nR) ⟨Ia,Ic⟩ (EY fG fG)).cast abh rfl;have kC:Hid (v_ w w2.heap.size x4 p4 x4.length ⟨x1,x2,x4.map (fun q=>(⟨q.1,q.2⟩:dQ)),x6,mI,gZ,zD⟩ ⟨q,x4.length,c,nP,nO,pJ,nS,nR,pQ,U,0,0,U,0,0⟩ (((((((mG).setCell ⟨w2.heap.size,5,U⟩ (.int .i64 gZ.op)).setCell ⟨w2.heap.size,6,U⟩ (.int .i64 gZ.a)).setCell ⟨w2.heap.size,7,U⟩ (.int .i64 gZ.b)).setCell ⟨w2.heap.size,8,U⟩ (.int .i64 gZ.n)).setCell ⟨w2.heap.size,9,U⟩ (.slice nP nO pJ)).setCell ⟨w2.heap.size,10,U⟩ (.slice nS nR pQ))):=V (((((((vW).set dI 5 (.int .i64 gZ.op)).set dI 6 (.int .i64 gZ.a)).set dI 7 (.int .i64 gZ.b)).set dI 8 (.int .i64 gZ.n)).set dI 9 (.slice nP nO pJ)).set dI 10 (.slice nS nR pQ));replace HD:=V (HD.out.up dI (w1:=mG) qe);clear OX Ia Ic vW;have y0:ae mG ⟨w2.heap.size,5,U⟩=ag (.int .i64 0):=HD.out.cell rfl;have y1:ae mG ⟨w2.heap.size,6,U⟩=ag (.int .i64 0):=HD.out.cell rfl;have y2:ae mG ⟨w2.heap.size,7,U⟩=ag (.int .i64 0):=HD.out.cell rfl;have y3:ae mG ⟨w2.heap.size,8,U⟩=ag (.int .i64 0):=HD.out.cell rfl;have y4:ae mG ⟨w2.heap.size,9,U⟩=ag (.slice U 0 0):=HD.out.cell rfl;have y5:ae mG ⟨w2.heap.size,10,U⟩=ag (.slice U 0 0):=HD.out.cell rfl;have fy:∀i,af mG ⟨w2.heap.size,i,U⟩=false:=fun i=>HD.out.rJ i;have aiZ:=HD.out.box.lt;dsimp only [uz];go_wp2_with fail;replace HD:=kC;clear kC y0 y1 y2 y3 y4 y5 fy;replace HS:=jb HS;refine po HS HB (gI _ _ (HR.out.low qe) bR) ?_;clear HS HB HR;rintro x24 u24 v24 Jb-HS OY rfl HR HB;replace HD:=V (HD.out.up (dI) (w1:=Jb) qe);clear OY;have ai0:=HD.out.box.lt;replace HS:=jb HS;go_wp2_with fail;refine po HS HB (GQ _ (HR.out.low qe)) ?_;clear HS HB HR;rintro x25 u25 v25 mH-HS OZ OG HR HB;obtain⟨pM,pK,q_,pU,pR,rf,rfl,Ib,Ie⟩:=OG;have vW:=(HD.out.put dI (w1:=mH) qe (i:=4) bR (F2:=fun G w=>Ints G w x25.vs pM pK/\Ints G w x25.ws pU pR) ⟨Ib,Ie⟩ (EY fG fG)).cast abg rfl;have kC:Hid (v_ w w2.heap.size x4 p4 x4.length ⟨x1,x2,x4.map (fun q=>(⟨q.1,q.2⟩:dQ)),x6,mI,gZ,x25⟩ ⟨q,x4.length,c,nP,nO,pJ,nS,nR,pQ,pM,pK,q_,pU,pR,rf⟩ (((((((mH).setCell ⟨w2.heap.size,11,U⟩ (.int .i64 x25.op)).setCell ⟨w2.heap.size,12,U⟩ (.int .i64 x25.a)).setCell ⟨w2.heap.size,13,U⟩ (.int .i64 x25.b)).setCell ⟨w2.heap.size,14,U⟩ (.int .i64 x25.n)).setCell ⟨w2.heap.size,15,U⟩ (.slice pM pK q_)).setCell ⟨w2.heap.size,16,U⟩ (.slice pU pR rf))):=V (((((((vW).set dI 11 (.int .i64 x25.op)).set dI 12 (.int .i64 x25.a)).set dI 13 (.int .i64 x25.b)).set dI 14 (.int .i64 x25.n)).set dI 15 (.slice pM pK q_)).set dI 16 (.slice pU pR rf));replace HD:=V (HD.out.up dI (w1:=mH) qe);clear OZ Ib Ie vW;have y0:ae mH ⟨w2.heap.size,11,U⟩=ag (.int .i64 0):=HD.out.cell rfl;have y1:ae mH ⟨w2.heap.size,12,U⟩=ag (.int .i64 0):=HD.out.cell rfl;have y2:ae mH ⟨w2.heap.size,13,U⟩=ag (.int .i64 0):=HD.out.cell rfl;have y3:ae mH ⟨w2.heap.size,14,U⟩=ag (.int .i64 0):=HD.out.cell rfl;have y4:ae mH ⟨w2.heap.size,15,U⟩=ag (.slice U 0 0):=HD.out.cell rfl;have y5:ae mH ⟨w2.heap.size,16,U⟩=ag (.slice U 0 0):=HD.out.cell rfl;have fy:∀i,af mH ⟨w2.heap.size,i,U⟩=false:=fun i=>HD.out.rJ i;have ai1:=HD.out.box.lt;dsimp only [uz];go_wp2_with fail;replace HD:=kC;clear kC y0 y1 y2 y3 y4 y5 fy;replace HS:=lY HS;refine po HS HB (kS _ (HR.out.low qe)) ?_;clear HS HB HR;rintro TR u26 v26 nQ-HS BV rfl HR HB;replace HD:=V (HD.out.up (dI) (w1:=nQ) qe);clear BV;have Z0:=HD.out.part dI 0;have Z:=V Z0.2;have Y:Hid (bU nQ w2.heap.size 199 (dV ⟨x1,x2,x4.map (fun q=>(⟨q.1,q.2⟩:dQ)),x6,mI,gZ,x25⟩ ⟨q,x4.length,c,nP,nO,pJ,nS,nR,pQ,pM,pK,q_,pU,pR,rf⟩)):=V HD.out.box;have K2:=HD.out.off dI (z:=w.heap.size) (fun G h=>h.1) (j:=2) bR;have K3:=HD.out.off dI (z:=w.heap.size) (fun G h=>h.1) (j:=3) bR;have K4:=HD.out.off dI (z:=w.heap.size) (fun G h=>h.1) (j:=4) bR;obtain⟨p',c',e,hrw⟩:=bZ.rw iM.map IL K2 (by have:=HL.out;simp;omega);have hrw2:Rw 2 iM (fun k=>w.heap.size<=k/\¬k=w.heap.size/\¬k=w2.heap.size) nQ (x4.map (fun q=>(⟨q.1,q.2⟩:dQ))) q x4.length:=by
         exact Nw
        have qW:∀W,bS (fun k=>w.heap.size<=k/\¬k=w.heap.size/\¬k=w2.heap.size) nQ W->iO (fun b=>w.heap.size<=b) W ⟨x1,x2,x4.map (fun q=>(⟨q.1,q.2⟩:dQ)),x6,mI,gZ,x25⟩ (dV ⟨x1,x2,x4.map (fun q=>(⟨q.1,q.2⟩:dQ)),x6,mI,gZ,x25⟩ ⟨q,x4.length,c,nP,nO,pJ,nS,nR,pQ,pM,pK,q_,pU,pR,rf⟩):=fun W q=>⟨_,rfl,⟨(gu (ko iM.map) hrw2 q).mono iM.map fun b hb _=>hb.1,qp fG (gu fG K3.1 q) fun b hb=>hb.1,qp fG (gu fG K3.2 q) fun b hb=>hb.1,qp fG (gu fG K4.1 q) fun b hb=>hb.1,qp fG (gu fG K4.2 q) fun b hb=>hb.1⟩⟩
        clear Z0 K2 K3 K4 e hrw hrw2 HD;obtain⟨W,hP⟩:=jr (c:=dV ⟨x1,x2,x4.map (fun q=>(⟨q.1,q.2⟩:dQ)),x6,mI,gZ,x25⟩ ⟨q,x4.length,c,nP,nO,pJ,nS,nR,pQ,pM,pK,q_,pU,pR,rf⟩) Z.out Az (Ce _ _) rfl;have jK:=hP.bt;have gQ:=V hP.box;have jL:=hP.size;go_wp2_with (first|(refine wpList_load_row rfl 199 _ rfl _ rfl 199 _ (0,0) _ Y.out underlying199 rfl dx ?_)|(refine jw rfl 199 _ _ rfl w.heap.size _ rfl rfl hP ?_))
        have bY:=HB.out;refine aj (v:=.agg (dV ⟨x1,x2,x4.map (fun q=>(⟨q.1,q.2⟩:dQ)),x6,mI,gZ,x25⟩ ⟨q,x4.length,c,nP,nO,pJ,nS,nR,pQ,pM,pK,q_,pU,pR,rf⟩)) ?_ rfl (PO.ok (dz HS) qe ⟨_,rfl,qW _ qe⟩ (HR.out.low qe));exact Ny
      · replace HS:=lY (xG HS i20);replace HD:=V (HD.out.up (dI) (w1:=Ac) qe);replace HB:=eu HB Ac;replace HR:=V vZ;clear b20 vZ;clear i20;have QU:=HD.out.box.lt;go_wp2_with fail;refine po HS HB (kS _ (HR.out.low qe)) ?_;clear HS HB HR;rintro TR u26 v26 nQ-HS BV rfl HR HB;replace HD:=V (HD.out.up (dI) (w1:=nQ) qe);clear BV;have Z0:=HD.out.part dI 0;have Z:=V Z0.2;have Y:Hid (bU nQ w2.heap.size 199 (dV ⟨x1,x2,x4.map (fun q=>(⟨q.1,q.2⟩:dQ)),x6,mt,zD,zD⟩ ⟨q,x4.length,c,U,0,0,U,0,0,U,0,0,U,0,0⟩)):=V HD.out.box;have K2:=HD.out.off dI (z:=w.heap.size) (fun G h=>h.1) (j:=2) bR;have K3:=HD.out.off dI (z:=w.heap.size) (fun G h=>h.1) (j:=3) bR;have K4:=HD.out.off dI (z:=w.heap.size) (fun G h=>h.1) (j:=4) bR;obtain⟨p',c',e,hrw⟩:=bZ.rw iM.map IL K2 (by have:=HL.out;simp;omega);have hrw2:Rw 2 iM (fun k=>w.heap.size<=k/\¬k=w.heap.size/\¬k=w2.heap.size) nQ (x4.map (fun q=>(⟨q.1,q.2⟩:dQ))) q x4.length:=by
         exact Nw
        have qW:∀W,bS (fun k=>w.heap.size<=k/\¬k=w.heap.size/\¬k=w2.heap.size) nQ W->iO (fun b=>w.heap.size<=b) W ⟨x1,x2,x4.map (fun q=>(⟨q.1,q.2⟩:dQ)),x6,mt,zD,zD⟩ (dV ⟨x1,x2,x4.map (fun q=>(⟨q.1,q.2⟩:dQ)),x6,mt,zD,zD⟩ ⟨q,x4.length,c,U,0,0,U,0,0,U,0,0,U,0,0⟩):=fun W q=>⟨_,rfl,⟨(gu (ko iM.map) hrw2 q).mono iM.map fun b hb _=>hb.1,qp fG (gu fG K3.1 q) fun b hb=>hb.1,qp fG (gu fG K3.2 q) fun b hb=>hb.1,qp fG (gu fG K4.1 q) fun b hb=>hb.1,qp fG (gu fG K4.2 q) fun b hb=>hb.1⟩⟩
        clear Z0 K2 K3 K4 e hrw hrw2 HD;obtain⟨W,hP⟩:=jr (c:=dV ⟨x1,x2,x4.map (fun q=>(⟨q.1,q.2⟩:dQ)),x6,mt,zD,zD⟩ ⟨q,x4.length,c,U,0,0,U,0,0,U,0,0,U,0,0⟩) Z.out Az (Ce _ _) rfl;have jK:=hP.bt;have gQ:=V hP.box;have jL:=hP.size;go_wp2_with (first|(refine wpList_load_row rfl 199 _ rfl _ rfl 199 _ (0,0) _ Y.out underlying199 rfl dx ?_)|(refine jw rfl 199 _ _ rfl w.heap.size _ rfl rfl hP ?_))
        have bY:=HB.out;refine aj (v:=.agg (dV ⟨x1,x2,x4.map (fun q=>(⟨q.1,q.2⟩:dQ)),x6,mt,zD,zD⟩ ⟨q,x4.length,c,U,0,0,U,0,0,U,0,0,U,0,0⟩)) ?_ rfl (PO.ok (dz HS) qe ⟨_,rfl,qW _ qe⟩ (HR.out.low qe));exact Ny
 · replace HS:=lY (xG HS i3);have HD:=V (hd1.out.up dI (w1:=w3) qe);replace HB:=eu HB w3;replace HR:=V R3;clear b3 R3;clear i3 hd1;have hb3:=HD.out.box.lt;go_wp2_with fail;refine(dD Rf _ (HR.out.low qe) bR).mono ?_;rintro e Ac ⟨b20,⟨i20,rfl,vZ⟩|⟨i20,rfl,vZ⟩⟩
   · replace HS:=jb (xH HS i20);replace HD:=V (HD.out.up (dI) (w1:=Ac) qe);replace HB:=eu HB Ac;replace HR:=V vZ;clear b20 vZ;clear i20;have QU:=HD.out.box.lt;go_wp2_with fail;refine po HS HB (jo _ (HR.out.low qe)) ?_;clear HS HB HR;rintro mI u21 v21 Ad-HS OV rfl HR HB;replace HD:=V (HD.out.up (dI) (w1:=Ad) qe);clear OV;have aiX:=HD.out.box.lt;replace HS:=jb HS;have lm:ae Ad ⟨w2.heap.size,4,U⟩=ag (.string ⟨#[]⟩):=HD.out.cell rfl;have fy:∀i,af Ad ⟨w2.heap.size,i,U⟩=false:=fun i=>HD.out.rJ i;go_wp2_with fail;replace HD:Hid (v_ w w2.heap.size [] U 0 ⟨x1,x2,[],0,mI,zD,zD⟩ ⟨U,0,0,U,0,0,U,0,0,U,0,0,U,0,0⟩ (Ad.setCell ⟨w2.heap.size,4,U⟩ (.string mI))):=V (HD.out.set dI 4 (.string mI));clear lm fy;refine po HS HB (gI _ _ (HR.out.low qe) bR) ?_;clear HS HB HR;rintro x22 u22 v22 TI-HS OW rfl HR HB;replace HD:=V (HD.out.up (dI) (w1:=TI) qe);clear OW;have aiY:=HD.out.box.lt;replace HS:=jb HS;go_wp2_with fail;refine po HS HB (GQ _ (HR.out.low qe)) ?_;clear HS HB HR;rintro gZ u23 v23 mG-HS OX OE HR HB;obtain⟨nP,nO,pJ,nS,nR,pQ,rfl,Ia,Ic⟩:=OE;have vW:=(HD.out.put dI (w1:=mG) qe (i:=3) bR (F2:=fun G w=>Ints G w gZ.vs nP nO/\Ints G w gZ.ws nS nR) ⟨Ia,Ic⟩ (EY fG fG)).cast abh rfl;have kC:Hid (v_ w w2.heap.size [] U 0 ⟨x1,x2,[],0,mI,gZ,zD⟩ ⟨U,0,0,nP,nO,pJ,nS,nR,pQ,U,0,0,U,0,0⟩ (((((((mG).setCell ⟨w2.heap.size,5,U⟩ (.int .i64 gZ.op)).setCell ⟨w2.heap.size,6,U⟩ (.int .i64 gZ.a)).setCell ⟨w2.heap.size,7,U⟩ (.int .i64 gZ.b)).setCell ⟨w2.heap.size,8,U⟩ (.int .i64 gZ.n)).setCell ⟨w2.heap.size,9,U⟩ (.slice nP nO pJ)).setCell ⟨w2.heap.size,10,U⟩ (.slice nS nR pQ))):=V (((((((vW).set dI 5 (.int .i64 gZ.op)).set dI 6 (.int .i64 gZ.a)).set dI 7 (.int .i64 gZ.b)).set dI 8 (.int .i64 gZ.n)).set dI 9 (.slice nP nO pJ)).set dI 10 (.slice nS nR pQ));replace HD:=V (HD.out.up dI (w1:=mG) qe);clear OX Ia Ic vW;have y0:ae mG ⟨w2.heap.size,5,U⟩=ag (.int .i64 0):=HD.out.cell rfl;have y1:ae mG ⟨w2.heap.size,6,U⟩=ag (.int .i64 0):=HD.out.cell rfl;have y2:ae mG ⟨w2.heap.size,7,U⟩=ag (.int .i64 0):=HD.out.cell rfl;have y3:ae mG ⟨w2.heap.size,8,U⟩=ag (.int .i64 0):=HD.out.cell rfl;have y4:ae mG ⟨w2.heap.size,9,U⟩=ag (.slice U 0 0):=HD.out.cell rfl;have y5:ae mG ⟨w2.heap.size,10,U⟩=ag (.slice U 0 0):=HD.out.cell rfl;have fy:∀i,af mG ⟨w2.heap.size,i,U⟩=false:=fun i=>HD.out.rJ i;have aiZ:=HD.out.box.lt;dsimp only [uz];go_wp2_with fail;replace HD:=kC;clear kC y0 y1 y2 y3 y4 y5 fy;replace HS:=jb HS;refine po HS HB (gI _ _ (HR.out.low qe) bR) ?_;clear HS HB HR;rintro x24 u24 v24 Jb-HS OY rfl HR HB;replace HD:=V (HD.out.up (dI) (w1:=Jb) qe);clear OY;have ai0:=HD.out.box.lt;replace HS:=jb HS;go_wp2_with fail;refine po HS HB (GQ _ (HR.out.low qe)) ?_;clear HS HB HR;rintro x25 u25 v25 mH-HS OZ OG HR HB;obtain⟨pM,pK,q_,pU,pR,rf,rfl,Ib,Ie⟩:=OG;have vW:=(HD.out.put dI (w1:=mH) qe (i:=4) bR (F2:=fun G w=>Ints G w x25.vs pM pK/\Ints G w x25.ws pU pR) ⟨Ib,Ie⟩ (EY fG fG)).cast abg rfl;have kC:Hid (v_ w w2.heap.size [] U 0 ⟨x1,x2,[],0,mI,gZ,x25⟩ ⟨U,0,0,nP,nO,pJ,nS,nR,pQ,pM,pK,q_,pU,pR,rf⟩ (((((((mH).setCell ⟨w2.heap.size,11,U⟩ (.int .i64 x25.op)).setCell ⟨w2.heap.size,12,U⟩ (.int .i64 x25.a)).setCell ⟨w2.heap.size,13,U⟩ (.int .i64 x25.b)).setCell ⟨w2.heap.size,14,U⟩ (.int .i64 x25.n)).setCell ⟨w2.heap.size,15,U⟩ (.slice pM pK q_)).setCell ⟨w2.heap.size,16,U⟩ (.slice pU pR rf))):=V (((((((vW).set dI 11 (.int .i64 x25.op)).set dI 12 (.int .i64 x25.a)).set dI 13 (.int .i64 x25.b)).set dI 14 (.int .i64 x25.n)).set dI 15 (.slice pM pK q_)).set dI 16 (.slice pU pR rf));replace HD:=V (HD.out.up dI (w1:=mH) qe);clear OZ Ib Ie vW;have y0:ae mH ⟨w2.heap.size,11,U⟩=ag (.int .i64 0):=HD.out.cell rfl;have y1:ae mH ⟨w2.heap.size,12,U⟩=ag (.int .i64 0):=HD.out.cell rfl;have y2:ae mH ⟨w2.heap.size,13,U⟩=ag (.int .i64 0):=HD.out.cell rfl;have y3:ae mH ⟨w2.heap.size,14,U⟩=ag (.int .i64 0):=HD.out.cell rfl;have y4:ae mH ⟨w2.heap.size,15,U⟩=ag (.slice U 0 0):=HD.out.cell rfl;have y5:ae mH ⟨w2.heap.size,16,U⟩=ag (.slice U 0 0):=HD.out.cell rfl;have fy:∀i,af mH ⟨w2.heap.size,i,U⟩=false:=fun i=>HD.out.rJ i;have ai1:=HD.out.box.lt;dsimp only [uz];go_wp2_with fail;replace HD:=kC;clear kC y0 y1 y2 y3 y4 y5 fy;replace HS:=lY HS;refine po HS HB (kS _ (HR.out.low qe)) ?_;clear HS HB HR;rintro TR u26 v26 nQ-HS BV rfl HR HB;replace HD:=V (HD.out.up (dI) (w1:=nQ) qe);clear BV;have Z0:=HD.out.part dI 0;have Z:=V Z0.2;have Y:Hid (bU nQ w2.heap.size 199 (dV ⟨x1,x2,[],0,mI,gZ,x25⟩ ⟨U,0,0,nP,nO,pJ,nS,nR,pQ,pM,pK,q_,pU,pR,rf⟩)):=V HD.out.box;have K2:=HD.out.off dI (z:=w.heap.size) (fun G h=>h.1) (j:=2) bR;have K3:=HD.out.off dI (z:=w.heap.size) (fun G h=>h.1) (j:=3) bR;have K4:=HD.out.off dI (z:=w.heap.size) (fun G h=>h.1) (j:=4) bR;obtain⟨p',c',e,hrw⟩:=bZ.rw iM.map IL K2 cK;have hrw2:Rw 2 iM (fun k=>w.heap.size<=k/\¬k=w.heap.size/\¬k=w2.heap.size) nQ ([]) U 0:=by
      exact Nw
     have qW:∀W,bS (fun k=>w.heap.size<=k/\¬k=w.heap.size/\¬k=w2.heap.size) nQ W->iO (fun b=>w.heap.size<=b) W ⟨x1,x2,[],0,mI,gZ,x25⟩ (dV ⟨x1,x2,[],0,mI,gZ,x25⟩ ⟨U,0,0,nP,nO,pJ,nS,nR,pQ,pM,pK,q_,pU,pR,rf⟩):=fun W q=>⟨_,rfl,⟨(gu (ko iM.map) hrw2 q).mono iM.map fun b hb _=>hb.1,qp fG (gu fG K3.1 q) fun b hb=>hb.1,qp fG (gu fG K3.2 q) fun b hb=>hb.1,qp fG (gu fG K4.1 q) fun b hb=>hb.1,qp fG (gu fG K4.2 q) fun b hb=>hb.1⟩⟩
     clear Z0 K2 K3 K4 e hrw hrw2 HD;obtain⟨W,hP⟩:=jr (c:=dV ⟨x1,x2,[],0,mI,gZ,x25⟩ ⟨U,0,0,nP,nO,pJ,nS,nR,pQ,pM,pK,q_,pU,pR,rf⟩) Z.out Az (Ce _ _) rfl;have jK:=hP.bt;have gQ:=V hP.box;have jL:=hP.size;go_wp2_with (first|(refine wpList_load_row rfl 199 _ rfl _ rfl 199 _ (0,0) _ Y.out underlying199 rfl dx ?_)|(refine jw rfl 199 _ _ rfl w.heap.size _ rfl rfl hP ?_))
     have bY:=HB.out;refine aj (v:=.agg (dV ⟨x1,x2,[],0,mI,gZ,x25⟩ ⟨U,0,0,nP,nO,pJ,nS,nR,pQ,pM,pK,q_,pU,pR,rf⟩)) ?_ rfl (PO.ok (dz HS) qe ⟨_,rfl,qW _ qe⟩ (HR.out.low qe));exact Ny
   · replace HS:=lY (xG HS i20);replace HD:=V (HD.out.up (dI) (w1:=Ac) qe);replace HB:=eu HB Ac;replace HR:=V vZ;clear b20 vZ;clear i20;have QU:=HD.out.box.lt;go_wp2_with fail;refine po HS HB (kS _ (HR.out.low qe)) ?_;clear HS HB HR;rintro TR u26 v26 nQ-HS BV rfl HR HB;replace HD:=V (HD.out.up (dI) (w1:=nQ) qe);clear BV;have Z0:=HD.out.part dI 0;have Z:=V Z0.2;have Y:Hid (bU nQ w2.heap.size 199 (dV ⟨x1,x2,[],0,mt,zD,zD⟩ ⟨U,0,0,U,0,0,U,0,0,U,0,0,U,0,0⟩)):=V HD.out.box;have K2:=HD.out.off dI (z:=w.heap.size) (fun G h=>h.1) (j:=2) bR;have K3:=HD.out.off dI (z:=w.heap.size) (fun G h=>h.1) (j:=3) bR;have K4:=HD.out.off dI (z:=w.heap.size) (fun G h=>h.1) (j:=4) bR;obtain⟨p',c',e,hrw⟩:=bZ.rw iM.map IL K2 cK;have hrw2:Rw 2 iM (fun k=>w.heap.size<=k/\¬k=w.heap.size/\¬k=w2.heap.size) nQ ([]) U 0:=by
      exact Nw
     have qW:∀W,bS (fun k=>w.heap.size<=k/\¬k=w.heap.size/\¬k=w2.heap.size) nQ W->iO (fun b=>w.heap.size<=b) W ⟨x1,x2,[],0,mt,zD,zD⟩ (dV ⟨x1,x2,[],0,mt,zD,zD⟩ ⟨U,0,0,U,0,0,U,0,0,U,0,0,U,0,0⟩):=fun W q=>⟨_,rfl,⟨(gu (ko iM.map) hrw2 q).mono iM.map fun b hb _=>hb.1,qp fG (gu fG K3.1 q) fun b hb=>hb.1,qp fG (gu fG K3.2 q) fun b hb=>hb.1,qp fG (gu fG K4.1 q) fun b hb=>hb.1,qp fG (gu fG K4.2 q) fun b hb=>hb.1⟩⟩
     clear Z0 K2 K3 K4 e hrw hrw2 HD;obtain⟨W,hP⟩:=jr (c:=dV ⟨x1,x2,[],0,mt,zD,zD⟩ ⟨U,0,0,U,0,0,U,0,0,U,0,0,U,0,0⟩) Z.out Az (Ce _ _) rfl;have jK:=hP.bt;have gQ:=V hP.box;have jL:=hP.size;go_wp2_with (first|(refine wpList_load_row rfl 199 _ rfl _ rfl 199 _ (0,0) _ Y.out underlying199 rfl dx ?_)|(refine jw rfl 199 _ _ rfl w.heap.size _ rfl rfl hP ?_))
     have bY:=HB.out;refine aj (v:=.agg (dV ⟨x1,x2,[],0,mt,zD,zD⟩ ⟨U,0,0,U,0,0,U,0,0,U,0,0,U,0,0⟩)) ?_ rfl (PO.ok (dz HS) qe ⟨_,rfl,qW _ qe⟩ (HR.out.low qe));exact Ny
end
end Ps
namespace Md
open Go.RowKit Go.Maps
open Sm (dN rT kG)
attribute [local go_sem] Wt Pw Px afd VD
theorem il.lt {b:Nat} {acc:List ByteArray} {w:ah} (h:il b acc w):b<w.heap.size:=by
 obtain⟨es,clock,hb,-⟩:=h;exact(Array.getElem?_eq_some_iff.1 hb).1
def Step (b:Nat) (r:Int×List ByteArray) (w:ah) (e:Ending) (w':ah):Prop:=e=.returned (.int .i64 r.1)/\il b r.2 w'/\But b w w'
theorem S9 (acc:List ByteArray) (p:ByteArray×Int):eB acc p=(dN (jh acc p.1) p.2,iY acc p.1):=rfl
theorem Nz {p:Prop} (h:p:=by
 go_wp2_with fail;go_ret;exact⟨rfl,HS2.out,(But.of bl).trans HB2.out⟩
 ):p:=h
theorem acM {p:Prop} (h:p:=by
 go_enter func55,ntmps55;go_wp2_with fail;refine(CD.out _ (HS.out.on bl)).mono ?_;rintro e w2 ⟨rfl,hs2,hb2⟩;have HS2:=V hs2;have HB2:=V hb2;have q:=((FX.out _ (Below.refl _ _)).but hb2 (by have:=nk.out;omega))
 have c1:=q.get (Pw x);have c2:=q.get (Px x);clear hs2 hb2 q;go_wp2_with fail;refine(CT.out _).mono ?_;rintro e w3 ⟨rfl,rfl⟩;go_wp2_with fail;refine(CF.out _).mono ?_;rintro e w3 ⟨rfl,rfl⟩;exact Nz
 ):p:=h
theorem acO {p:Prop} (h:p:=by
 go_wp2_with fail;refine(CD.out _ (HS.out.on bl)).mono ?_;rintro e w2 ⟨rfl,hs2,hb2⟩;have HS2:=V hs2;have HB2:=V hb2;clear hs2 hb2;exact Nz
 ):p:=h
theorem agf (x:Val) (b:Nat) (acc:List ByteArray) (w:ah) (hS:il b acc w) (hn:acc.length<=100000) (hx:x.nm.size<=9223372036854775807):Calls ai 55 #[.map (ag b),.agg (mQ x)] w (Step b (eB acc (DR x)) w):=by
 have HS:=V hS;have FX:=far (w:=w) 105 (mQ x);have nk:=V hS.lt;rw[S9]
 show Calls _ _ _ _ (Step b (dN (jh acc x.nm) (DT x),iY acc x.nm) w)
 obtain⟨yj,h2⟩:∃a,iY acc x.nm=a:=⟨_,rfl⟩
 obtain⟨v,hv⟩:∃v,jh acc x.nm=v:=⟨_,rfl⟩
 rw[h2,hv];have CD:=V (fun W (hW:il b acc W)=>AJ hv h2 W hW hn hx);clear hS hv h2;by_cases hv0:v=0;rotate_left 1
 · rw[rT hv0];have t1:(v != 0)=true:=bne_iff_ne.2 hv0;go_enter func55,ntmps55;exact acO
 subst hv0;rw[kG];obtain⟨ty,hty⟩:∃t,typ x.ty=t:=⟨_,rfl⟩
 obtain⟨ft,hft⟩:∃t,fits x.ty x.n=t:=⟨_,rfl⟩
 have HV:=V (show DT x=if ty then (if ft then 0 else 2) else 1 by unfold DT;rw[hty,hft]);have CT:=V (fun W=>(show Calls ai 90 #[.int .i64 x.ty] W (oI (.bool ty) W) by rw[← hty];exact ZC _ W));have CF:=V (fun W=>(show Calls ai 91 #[.int .i64 x.ty,.int .i64 x.n] W (oI (.bool ft) W) by rw[← hft];exact Yd _ _ W));clear hty hft
 cases ty with
 | false=>
  rw[show DT x=1 from HV.out];go_enter func55,ntmps55;go_wp2_with fail;refine(CD.out _ (HS.out.on bl)).mono ?_;rintro e w2 ⟨rfl,hs2,hb2⟩;have HS2:=V hs2;have HB2:=V hb2;have q:=((FX.out _ (Below.refl _ _)).but hb2 (by have:=nk.out;omega))
  have c1:=q.get (Pw x);have c2:=q.get (Px x);clear hs2 hb2 q;go_wp2_with fail;refine(CT.out _).mono ?_;rintro e w3 ⟨rfl,rfl⟩;exact Nz
 | true=>
  cases ft with
  | false=>
   rw[show DT x=2 from HV.out];exact acM
  | true=>
   rw[show DT x=0 from HV.out];exact acM
theorem acN {p:Prop} (h:p:=by
 go_enter func179,ntmps179;go_wp2_with fail;refine(CD.out _ (HS.out.on bl)).mono ?_;rintro e w2 ⟨rfl,hs2,hb2⟩;have HS2:=V hs2;have HB2:=V hb2;have q:=((FX.out _ (Below.refl _ _)).but hb2 (by have:=nk.out;omega))
 have c1:=q.get (VD x);clear hs2 hb2 q;go_wp2_with fail;refine(CT.out _).mono ?_;rintro e w3 ⟨rfl,rfl⟩;exact Nz
 ):p:=h
theorem af4 (x:eO) (b:Nat) (acc:List ByteArray) (w:ah) (hS:il b acc w) (hn:acc.length<=100000) (hx:x.nm.size<=9223372036854775807):Calls ai 179 #[.map (ag b),.agg (gW x)] w (Step b (eB acc (G8 x)) w):=by
 have HS:=V hS;have FX:=far (w:=w) 247 (gW x);have nk:=V hS.lt;rw[S9]
 show Calls _ _ _ _ (Step b (dN (jh acc x.nm) (EG x),iY acc x.nm) w)
 obtain⟨yj,h2⟩:∃a,iY acc x.nm=a:=⟨_,rfl⟩
 obtain⟨v,hv⟩:∃v,jh acc x.nm=v:=⟨_,rfl⟩
 rw[h2,hv];have CD:=V (fun W (hW:il b acc W)=>AJ hv h2 W hW hn hx);clear hS hv h2;by_cases hv0:v=0;rotate_left 1
 · rw[rT hv0];have t1:(v != 0)=true:=bne_iff_ne.2 hv0;go_enter func179,ntmps179;exact acO
 subst hv0;rw[kG];obtain⟨ty,hty⟩:∃t,typ x.ty=t:=⟨_,rfl⟩
 have HV:=V (show EG x=if ty then 0 else 1 by unfold EG;rw[hty]);have CT:=V (fun W=>(show Calls ai 90 #[.int .i64 x.ty] W (oI (.bool ty) W) by rw[← hty];exact ZC _ W));clear hty
 cases ty with
 | false=>
  rw[show EG x=1 from HV.out];exact acN
 | true=>
  rw[show EG x=0 from HV.out];exact acN
end Md
end Go.Proofs.YtkpekhpgdajabaaGreatDoor
