/-
  Parts of this proof: The reference's pen in memory. The contracts of the pen's small functions. The contracts of the pen's words. The contracts of the pen's numbers and of operan. The contracts of the pen's operands and expressi.
-/
import Derived.Test.YtkpekhpgdajabaaGreatDoorYTBase
open Go.Proofs.Tryz
open Go.World renaming cell?->ae
open Go.Proofs.Tryz renaming prog->af
open Option renaming none->ag,some->ak
open Go renaming World->ah
open List renaming length_append->ai
open Go.Lib renaming hid->aj
set_option linter.unusedVariables false
set_option maxRecDepth 100000
set_option maxHeartbeats 4000000
open Go.Lib (hid)
namespace Go.Proofs.YtkpekhpgdajabaaGreatDoor
namespace Ps
open Go.RowKit
open Lx (jl mkS)
open Md (bU)
structure RlG (G:Gen):Prop where
 nx:∀s,G.nx s=(s*6364136223846793005+1442695040888963407) % 18446744073709551616
 pk:∀n s,G.pk n s=s / 8589934592 % n
theorem ao7:∃G:Gen,RlG G:=⟨⟨fun s=>(s*6364136223846793005+1442695040888963407) % 18446744073709551616,fun n s=>s / 8589934592 % n,fun n s h=>Nat.mod_lt _ h⟩,fun _=>rfl,fun _ _=>rfl⟩
theorem RlG.lt {G:Gen} (h:RlG G) (s:Nat):G.nx s<18446744073709551616:=by rw[h.nx];omega
theorem RlG.wrap {G:Gen} (h:RlG G) (s:Nat):IntKind.u64.wrap (IntKind.u64.wrap ((s:Int)*6364136223846793005)+1442695040888963407)=((G.nx s:Nat):Int):=by
 rw[IntKind.wrap_u64,IntKind.wrap_u64,h.nx];omega
structure PnB (g sd:Nat) (l:List UInt8) (w:ah):Prop where
 box:bU w g 65 #[.int .u64 (sd:Int),.string (mkS l)]
 lt:sd<18446744073709551616
section
variable {g sd:Nat} {l:List UInt8} {w w2:ah}
theorem PnB.at (h:PnB g sd l w) (hb:bS (fun k=>k=g) w w2):PnB g sd l w2:=⟨cZ h.box hb,h.lt⟩
theorem PnB.blk (h:PnB g sd l w):g<w.heap.size:=h.box.lt
end
def j4 (G:Gen) (X:W) (g sd:Nat) (l:List UInt8) (w:ah) (e:Ending) (w':ah):Prop:=e=.returned (.tuple #[])/\Bt g w w'/\PnB g (txt G X sd).2 (l++(txt G X sd).1) w'
theorem ao1 (a b:List UInt8):mkS a++mkS b=mkS (a++b):=by
 apply jl
 rw[Lx.ae5];rfl
end Ps
namespace Ps
open Ps.P (kw)
open Go.RowKit
open Lx (bs mkS)
open Md (bU)
section
variable {G:Gen} {g sd:Nat} {l:List UInt8}
theorem aoW (hG:RlG G) (n:Nat) (hn:0<n) (hn2:n<=1000) (w:ah) (hp:PnB g sd l w):Calls af 35 #[.pointer (ak ⟨g,0,ag⟩),.int .i64 (n:Int)] w fun e w'=>e=.returned (.int .i64 ((G.pk n (G.nx sd):Nat):Int))/\Bt g w w'/\PnB g (G.nx sd) l w':=by
 have c0:=hp.box.get (r:=0) rfl;have fz:∀i,w.frozen? ⟨g,i,ag⟩=false:=fun i=>fA (i:=i) hp.box;obtain⟨S,hS⟩:∃S,G.nx sd=S:=⟨_,rfl⟩
 have hw:=hG.wrap sd;rw[hS] at hw;obtain⟨A,hA⟩:∃A,IntKind.u64.wrap ((sd:Int)*6364136223846793005)=A:=⟨_,rfl⟩
 rw[hA] at hw;have HP:=aj hp;have HG:=aj hG;clear hp hG;go_enter func35,ntmps35;go_wp2_with fail;go_ret;have hx:S / 8589934592 % n<n:=Nat.mod_lt _ hn;have hq:(S:Int) / 8589934592 % (n:Int)=((S / 8589934592 % n:Nat):Int):=by simp
 refine⟨nN ?_,Pe,?_⟩
 · rw[HG.out.pk,hS,hq]
   generalize S / 8589934592 % n=x at hx;unfold wrap64;omega
 · rw[hS];exact⟨eX HP.out.box,by rw[← hS];exact HG.out.lt _⟩
theorem apG {P:Prop} {S:Nat->Prop} {W w2:ah} {b:Nat} {t:TypeId} {c:Array Value} (ba:bS S W w2) (h:bU W b t c) (hs:S b) (k:bU w2 b t c->P):P:=k (eT h ba hs)
theorem PnB.c1 {w:ah} (h:PnB g sd l w):w.cell? ⟨g,1,ag⟩=ak (.string (mkS l)):=h.box.get rfl
structure ao5 (G:Gen) (g b:Nat) (ws:List ByteArray) (sd:Nat) (l:List UInt8) (w:ah) (k:Nat) (wr:ah):Prop where
 pen:∃s2 l2,PnB g s2 l2 wr/\(txt G (wds (ws.drop k)) s2).2=(txt G (wds ws) sd).2/\l2++(txt G (wds (ws.drop k)) s2).1=l++(txt G (wds ws) sd).1
 box:bU wr b 9 (ws.map Value.string).toArray
 bt:Bt g w wr
set_option maxHeartbeats 16000000 in
theorem apF (hG:RlG G) (ws:List ByteArray) (hw:ws.length<=1000) (b c:Nat) (w:ah) (hp:PnB g sd l w) (hb:bU w b 9 (ws.map Value.string).toArray) (hbg:¬b=g) (hL:l.length+(txt G (wds ws) sd).1.length<=1000000):Calls af 31 #[.pointer (ak ⟨g,0,ag⟩),.slice (ak ⟨b,0,ag⟩) ws.length c] w (j4 G (wds ws) g sd l w):=by
 have HG:=aj hG;have HP:=aj hp;have HX:=aj hb;have hg:=hp.blk;have hbl:=hb.lt;have HL:=aj hL;clear hG hp hb hL;go_enter func31,ntmps31;go_wp2_with fail;go_loopw [4] (fun i wr=>∃k:Nat,k<=ws.length/\i=.int .i64 (k:Nat)/\ao5 G g b ws sd l w k wr) (fun i _=>ws.length-(intOf i).toNat)
 case atStart=>exact⟨0,by omega,rfl,⟨⟨sd,l,HP.out,rfl,rfl⟩,HX.out,bS.refl _ _⟩⟩
 case round=>
  obtain⟨k,hk,rfl,⟨⟨s2,l2,hpn,h2,h3⟩,hbx,hbt⟩⟩:=hrel;have iG:=aj hbx;have HB:=aj hbt;have HPN:=aj hpn;have H2:=aj h2;have H3:=aj h3;by_cases hlt:k<ws.length
  · have t1:decide ((k:Int)<(ws.length:Int))=true:=decide_eq_true bT;have c1:ae wr ⟨g,1,ag⟩=ak (.string (mkS l2)):=hpn.box.get rfl;have ck:ae wr ⟨b,k,ag⟩=ak (.string ws[k]):=hbx.get (r:=k) (by simp[hlt]);have fz:∀i,World.frozen? wr ⟨g,i,ag⟩=false:=fun i=>fA (i:=i) hpn.box;have hgr:=hpn.blk;have HXK:Hid ((ws.map Value.string).toArray[k]?=ak (.string ws[k])):=aj (by simp[hlt]);have k0:(0:Int)<=(k:Int):=by omega
    have k1:(k:Int)<(ws.length:Int):=by omega
    have k2:(k:Int)<=1000:=by omega
    obtain⟨j,hj⟩:∃j,G.pk 4 (G.nx s2)=j:=⟨_,rfl⟩
    have hj4:j<4:=by rw[← hj];exact G.lt _ _ bR
    have HJ:=aj hj;have kw:IntKind.i64.wrap ((k:Int)+1)=(k:Int)+1:=by rw[IntKind.wrap_i64];omega
    obtain⟨x,hx⟩:∃x,ws[k]=x:=⟨_,rfl⟩
    have hdr:ws.drop k=x::ws.drop (k+1):=by rw[List.drop_eq_getElem_cons hlt,hx]
    have htx:txt G (wds (ws.drop k)) s2=((bs x++blk j)++(txt G (wds (ws.drop (k+1))) (G.nx s2)).1,(txt G (wds (ws.drop (k+1))) (G.nx s2)).2):=by
     rw[hdr,← hj];rfl
    rw[htx] at h2 h3;have hlen:l2.length+(bs x).length+(blk j).length<=1000000:=by
     have e:=congrArg List.length h3;have e2:=HL.out;simp only[ai] at e;omega
    rw[hx] at ck HXK;obtain⟨Q,hQ⟩:∃Q,l2++bs x=Q:=⟨_,rfl⟩
    have a1:∀W,(Op.stringOp .add (mkS l2) x).run af W=.ok (.string (mkS Q)) W:=fun W=>by
     rw[run_string_add_sum W _ _ (by show l2.length+(bs x).length<=_;omega),← hQ,← ao1];rfl
    have A2:Hid (∀W,(Op.stringOp .add (mkS Q) (mkS (blk j))).run af W=.ok (.string (mkS (Q++blk j))) W):=aj fun W=>by
     rw[run_string_add_sum W _ _ (by show Q.length+(blk j).length<=_;rw[← hQ,ai];omega),ao1]
    have H2':=aj h2;have H3':Hid ((Q++blk j)++(txt G (wds (ws.drop (k+1))) (G.nx s2)).1=l++(txt G (wds ws) sd).1):=aj (by rw[← h3,← hQ];simp);clear HX HP hbx hbt hpn h2 h3 hj htx hdr H2 H3 HL hlen;have HC4:Hid ((#[.string ⟨#[32]⟩,.string ⟨#[32]⟩,.string ⟨#[32,32]⟩,.string ⟨#[9]⟩]:Array Value)[j]?=ak (.string (mkS (blk j)))):=aj (by rcases (show j=0∨j=1∨j=2∨j=3 by omega) with rfl|rfl|rfl|rfl <;> rfl);have a2:=A2.out;have j0:(0:Int)<=(j:Int):=by omega
    have j1:(j:Int)<4:=by omega
    clear hj4 A2;obtain⟨B,hB⟩:∃B,blk j=B:=⟨_,rfl⟩
    rw[hB] at a2 H3' HC4;obtain⟨R,hR⟩:∃R,Q++B=R:=⟨_,rfl⟩
    rw[hR] at a2 H3';clear hB hR hx hQ;have f1:ae (wr.alloc (.cells #[.string ⟨#[32]⟩,.string ⟨#[32]⟩,.string ⟨#[32,32]⟩,.string ⟨#[9]⟩] 9)) ⟨g,1,ag⟩=ak (.string (mkS l2)):=(HPN.out.at qe).c1;have f2:ae (wr.alloc (.cells #[.string ⟨#[32]⟩,.string ⟨#[32]⟩,.string ⟨#[32,32]⟩,.string ⟨#[9]⟩] 9)) ⟨b,k,ag⟩=ak (.string x):=(cZ iG.out qe).get HXK.out;go_wp2_with fail;go_region_law (go_simp;go_at_call 35;refine(aoW HG.out 4 bR bR _ (HPN.out.at qe)).mono ?_;rintro e' wa ⟨rfl,ba,Pa⟩;rw[HJ.out];have d1:=Pa.c1;have dk:ae wa ⟨b,k,ag⟩=ak (.string x):=(cZ iG.out qe).get HXK.out;have fza:∀i,World.frozen? wa ⟨g,i,ag⟩=false:=fun i=>fA (i:=i) Pa.box;have Pb:=Pa.at (w2:=wa.alloc (.cells #[.string ⟨#[32]⟩,.string ⟨#[32]⟩,.string ⟨#[32,32]⟩,.string ⟨#[9]⟩] 9)) qe;have d2:=Pb.c1;have fzb:∀i,World.frozen? (wa.alloc (.cells #[.string ⟨#[32]⟩,.string ⟨#[32]⟩,.string ⟨#[32,32]⟩,.string ⟨#[9]⟩] 9)) ⟨g,i,ag⟩=false:=fun i=>fA (i:=i) Pb.box;have dk2:ae (wa.alloc (.cells #[.string ⟨#[32]⟩,.string ⟨#[32]⟩,.string ⟨#[32,32]⟩,.string ⟨#[9]⟩] 9)) ⟨b,k,ag⟩=ak (.string x):=(cZ iG.out qe).get HXK.out;have dj:ae (wa.alloc (.cells #[.string ⟨#[32]⟩,.string ⟨#[32]⟩,.string ⟨#[32,32]⟩,.string ⟨#[9]⟩] 9)) ⟨wa.heap.size,j,ag⟩=ak (.string (mkS B)):=bU.new.get HC4.out;try (refine apG (b:=wr.heap.size) (t:=9) (c:=#[.string ⟨#[32]⟩,.string ⟨#[32]⟩,.string ⟨#[32,32]⟩,.string ⟨#[9]⟩]) ba bU.new (show ¬wr.heap.size=g by omega) (fun dl=>?_);have dlj:=dl.get HC4.out))
    all_goals
     first
      | (have PF : PnB g (G.nx s2) R ((wa.alloc (.cells #[.string ⟨#[32]⟩, .string ⟨#[32]⟩, .string ⟨#[32, 32]⟩, .string ⟨#[9]⟩] 9)).setCell ⟨g, 1, ag⟩ (.string (mkS R))) := ⟨eX Pb.box, Pb.lt⟩
         have BF:Bt g w ((wa.alloc (.cells #[.string ⟨#[32]⟩,.string ⟨#[32]⟩,.string ⟨#[32,32]⟩,.string ⟨#[9]⟩] 9)).setCell ⟨g,1,ag⟩ (.string (mkS R))):=by have bY:=HB.out;exact qe
         have XF:=cZ (w2:=(wa.alloc (.cells #[.string ⟨#[32]⟩,.string ⟨#[32]⟩,.string ⟨#[32,32]⟩,.string ⟨#[9]⟩] 9)).setCell ⟨g,1,ag⟩ (.string (mkS R))) iG.out qe;go_wp2_with fail;go_roundw
         case rel=>exact⟨k+1,by omega,rfl,⟨⟨_,_,PF,H2'.out,H3'.out⟩,XF,BF⟩⟩
         case measure=>simp[intOf];omega)
      | (have PF : PnB g (G.nx s2) R (wa.setCell ⟨g, 1, ag⟩ (.string (mkS R))) := ⟨eX Pa.box, Pa.lt⟩
         have BF:Bt g w (wa.setCell ⟨g,1,ag⟩ (.string (mkS R))):=by have bY:=HB.out;exact qe
         have XF:=cZ (w2:=wa.setCell ⟨g,1,ag⟩ (.string (mkS R))) iG.out qe;go_wp2_with fail;go_roundw
         case rel=>exact⟨k+1,by omega,rfl,⟨⟨_,_,PF,H2'.out,H3'.out⟩,XF,BF⟩⟩
         case measure=>simp[intOf];omega)
  · obtain rfl:k=ws.length:=by omega
    have t1:decide ((ws.length:Int)<(ws.length:Int))=false:=decide_eq_false bT;clear HX HP hbx hbt hpn h2 h3;go_wp2_with fail
    (first|go_end0|refine bodyPost_ret (results_none rfl _ _ _) rfl ?_)
    have e1:=H2.out;have e2:=H3.out;rw[List.drop_length] at e1 e2;refine⟨rfl,HB.out,?_⟩;rw[← e1,← e2,show(txt G (wds []) s2).1=[] from rfl,List.append_nil];exact HPN.out
end
end Ps
namespace Ps
open Go.RowKit
open Ex (Gives)
theorem aoU (o:Int) (h0:9<=o) (h1:o<=19) (w:ah):Calls af 36 #[.int .i64 o] w (Gives (.string (sgO o)) w):=by
 rcases (show o=9∨o=10∨o=11∨o=12∨o=13∨o=14∨o=15∨o=16∨o=17∨o=18∨o=19 by omega) with rfl|rfl|rfl|rfl|rfl|rfl|rfl|rfl|rfl|rfl|rfl
 all_goals
  go_enter func36,ntmps36;go_wp2_with fail;go_ret;exact⟨rfl,bl⟩
theorem aoV (o:Int) (h:o=7∨o=8∨o=20∨o=21∨o=22∨o=23∨o=24) (w:ah):Calls af 34 #[.int .i64 o] w (Gives (.string (PK o)) w):=by
 rcases h with rfl|rfl|rfl|rfl|rfl|rfl|rfl
 all_goals
  go_enter func34,ntmps34;go_wp2_with fail;go_ret;exact⟨rfl,bl⟩
end Ps
namespace Ps
open Go.RowKit
open Md (bU)
theorem aoQ (G:Gen) (x:ByteArray) (s:Nat):txt G (wds [x]) s=txt G (.wd x) s:=by simp[wds,qj,txt]
section
variable {G:Gen} {g sd:Nat} {l:List UInt8}
theorem aoO (hG:RlG G) (ws:List ByteArray) (c n:Nat) (cs:Array Value) (hn:n=ws.length) (hcs:cs=(ws.map Value.string).toArray) (w:ah) {B:Nat} (hB:B=w.heap.size) (hw:ws.length<=1000) (X:W) (hX:∀s,txt G (wds ws) s=txt G X s) (hp:PnB g sd l w) (hL:l.length+(txt G X sd).1.length<=1000000):Calls af 31 #[.pointer (ak ⟨g,0,ag⟩),.slice (ak ⟨B,0,ag⟩) n c] (w.alloc (.cells cs 9)) (j4 G X g sd l w):=by
 subst hn hcs hB;have hb:=hp.blk;refine(apF hG ws hw w.heap.size c _ (hp.at (bS.alloc (bS.refl _ _))) bU.new bT (by rw[hX];exact hL)).mono ?_;rintro e w' ⟨rfl,b1,P⟩;rw[hX] at P;exact⟨rfl,bS.trans (bS.alloc (bS.refl _ _)) b1,P⟩
theorem j4.cat {X Y:W} {w w1 w2:ah} (b1:Bt g w w1) (b2:Bt g w1 w2) (P:PnB g (txt G Y (txt G X sd).2).2 ((l++(txt G X sd).1)++(txt G Y (txt G X sd).2).1) w2):Bt g w w2/\PnB g (txt G (.cat X Y) sd).2 (l++(txt G (.cat X Y) sd).1) w2:=by
 refine⟨b1.trans b2,?_⟩;rw[List.append_assoc] at P;exact P
theorem j6 {X Y:W} (h:l.length+(txt G (.cat X Y) sd).1.length<=1000000):l.length+(txt G X sd).1.length<=1000000/\(l++(txt G X sd).1).length+(txt G Y (txt G X sd).2).1.length<=1000000:=by
 rw[txt,ai] at h;rw[ai];omega
theorem ao4 {p:Prop} (h:p:=by
 rintro e w2 ⟨rfl,b2,P2⟩;go_wp2_with fail
 (first|go_end0|refine bodyPost_ret (results_none rfl _ _ _) rfl ?_)
 exact⟨rfl,b2,P2⟩
 ):p:=h
theorem ao3 (hG:RlG G) (n:Int) (h0:-1000000000000<=n) (h1:n<=1000000000000) (w:ah) (hp:PnB g sd l w) (hL:l.length+(txt G (Nb n) sd).1.length<=1000000):Calls af 32 #[.pointer (ak ⟨g,0,ag⟩),.int .i64 n] w (j4 G (Nb n) g sd l w):=by
 have HG:=aj hG;have HP:=aj hp;by_cases hn:n<0
 · have e0:Nb n=.cat (.wd mK) (.wd (Nu.num (-n))):=if_pos hn;rw[e0] at hL ⊢;have HL:=aj hL;have t1:decide (n<0)=true:=decide_eq_true hn;have t2:wrap64 (-n) = -n:=by unfold wrap64;omega
   have CT:=aj (fun W=>Nu.amC (-n) bT bT W);clear hG hp hL hn h0 h1 e0;go_enter func32,ntmps32;go_wp2_with fail;refine(CT.out _).mono ?_;rintro e w1 ⟨rfl,rfl⟩;go_wp2_with fail;refine(aoO HG.out [mK,Nu.num (-n)] 2 2 _ rfl rfl _ cK (by show 2<=1000;omega) (.cat (.wd mK) (.wd (Nu.num (-n)))) (fun s=>by simp[wds,qj,txt]) HP.out HL.out).mono ?_;exact ao4
 · have e0:Nb n=.wd (Nu.num n):=if_neg hn;rw[e0] at hL ⊢;have HL:=aj hL;have t1:decide (n<0)=false:=decide_eq_false hn;have CT:=aj (fun W=>Nu.amC n bT bT W);clear hG hp hL hn h0 h1 e0;go_enter func32,ntmps32;go_wp2_with fail;refine(CT.out _).mono ?_;rintro e w1 ⟨rfl,rfl⟩;go_wp2_with fail;refine(aoO HG.out [Nu.num n] 1 1 _ rfl rfl _ cK (by show 1<=1000;omega) (.wd (Nu.num n)) (aoQ G _) HP.out HL.out).mono ?_;exact ao4
end
end Ps
namespace Ps
open Go.RowKit
open Ex (Ex bX)
open Md (bU)
def j5 (G:Gen) (e:Ex):Prop:=∀(g sd:Nat) (l:List UInt8) (w:ah) (p:Option Addr) (m c:Nat),PnB g sd l w->bX (fun b=>¬b=g) w e p m->l.length+(txt G (eZ e) sd).1.length<=1000000->Calls af 14 #[.pointer (ak ⟨g,0,ag⟩),.agg #[.int .i64 e.o,.string e.s,.int .i64 e.n,.slice p m c]] w (j4 G (eZ e) g sd l w)
theorem aoP {g:Nat} {w w2:ah} {e:Ex} {p:Option Addr} {m:Nat} (h:bX (fun b=>¬b=g) w e p m) (hb:Bt g w w2):bX (fun b=>¬b=g) w2 e p m:=Ex.bX.map hb.size (fun b hb' hlt=>⟨hb',hb.block b hlt hb'⟩) e h
theorem ao0 {G:Gen} {X:W} {sd j:Nat} (h:G.pk 4 (G.nx (txt G (.wd fU) sd).2)=j):txt G (iE X) sd=txt G (.cat (.wd fU) (.cat (.xF 4 fun _=>if j=0 then par X else X) (.wd jN))) sd:=by
 subst h;rfl
section
variable {G:Gen} {g sd:Nat} {l:List UInt8}
theorem j4.of {X Y:W} {w w':ah} (h:txt G X sd=txt G Y sd) (hb:Bt g w w'/\PnB g (txt G Y sd).2 (l++(txt G Y sd).1) w'):j4 G X g sd l w (.returned (.tuple #[])) w':=by
 unfold j4;rw[h];exact⟨rfl,hb⟩
theorem aoX {p:Prop} (h:p:=by show 1<=1000;omega):p:=h
theorem aoR (hG:RlG G) {e:Ex} (HE0:j5 G e) (w:ah) (p:Option Addr) (m c:Nat) (hp:PnB g sd l w) (hk:bX (fun b=>¬b=g) w e p m) (hL:l.length+(txt G (iE (eZ e)) sd).1.length<=1000000):Calls af 33 #[.pointer (ak ⟨g,0,ag⟩),.agg #[.int .i64 e.o,.string e.s,.int .i64 e.n,.slice p m c]] w (j4 G (iE (eZ e)) g sd l w):=by
 have HG:=aj hG;have HE:=aj HE0;have HK:=aj hk;have hg:=hp.blk;obtain⟨j,hj⟩:∃j,G.pk 4 (G.nx (txt G (.wd fU) sd).2)=j:=⟨_,rfl⟩
 rw[ao0 hj] at hL;obtain⟨L1,L23⟩:=j6 hL;obtain⟨L2,L3⟩:=j6 L23;have HL1:=aj L1;have HL2:=aj L2;have HL3:=aj L3;have HJ:=aj hj;have hb:Bt g w (w.alloc (.cells #[.int .i64 e.o,.string e.s,.int .i64 e.n,.slice p m c] 25)):=bS.alloc (bS.refl _ _);have HB:=aj hb;have HP:=aj (hp.at (w2:=w.alloc (.cells #[.int .i64 e.o,.string e.s,.int .i64 e.n,.slice p m c] 25)) (bS.alloc (bS.refl _ _)));have Z:=aj (bU.new (w:=w) (t:=25) (c:=#[.int .i64 e.o,.string e.s,.int .i64 e.n,.slice p m c]));clear hG HE0 hk hp hL L1 L2 L3 L23 hj hb;go_enter func33,ntmps33;go_wp2_with fail;refine(aoO HG.out [fU] 1 1 _ rfl rfl _ cK aoX (.wd fU) (aoQ G _) HP.out HL1.out).mono ?_;rintro e' w1 ⟨rfl,b1,P1⟩;replace Z:=bV Z w1;replace HB:Hid (Bt g w w1):=aj (HB.out.trans b1);have HB1:=HB;clear b1;obtain⟨q1,hq1⟩:∃q,txt G (.wd fU) sd=q:=⟨_,rfl⟩
 have nU:=aj hq1;rw[hq1] at P1;have HP1:=aj P1;have HJ1:Hid (G.pk 4 (G.nx q1.2)=j):=aj (by rw[← hq1];exact HJ.out);clear P1 hq1;go_wp2_with fail;refine(aoW HG.out 4 bR bR _ HP1.out).mono ?_;rintro e' w2 ⟨rfl,b2,P2⟩;rw[HJ1.out];have B12:=aj b2;replace Z:=bV Z w2;replace HB:Hid (Bt g w w2):=aj (HB.out.trans b2);rw[← nU.out] at P2;have HP2:=aj P2;clear b2 P2 HP1;obtain⟨y0,y1,y2,y3⟩:ae w2 ⟨w.heap.size,0,ag⟩=ak (.int .i64 e.o)/\ae w2 ⟨w.heap.size,1,ag⟩=ak (.string e.s)/\ae w2 ⟨w.heap.size,2,ag⟩=ak (.int .i64 e.n)/\ae w2 ⟨w.heap.size,3,ag⟩=ak (.slice p m c):=⟨Z.out.get rfl,Z.out.get rfl,Z.out.get rfl,Z.out.get rfl⟩
 by_cases h0:j=0
 · subst h0;rw[if_pos rfl] at HL2 HL3;obtain⟨M1,M23⟩:=j6 (X:=.wd fU) (Y:=.cat (eZ e) (.wd jN)) HL2.out;obtain⟨M2,M3⟩:=j6 M23;have HM1:=aj M1;have U4:=aj M2;have HM3:=aj M3;clear M1 M2 M3 M23;go_wp2_with fail;refine(aoO HG.out [fU] 1 1 _ rfl rfl _ cK aoX (.wd fU) (aoQ G _) HP2.out HM1.out).mono ?_;rintro e' w3 ⟨rfl,b3,P3⟩;replace Z:=bV Z w3;replace HB:Hid (Bt g w w3):=aj (HB.out.trans b3);have B3:=aj b3;have HP3:=aj P3;clear b3 P3 y0 y1 y2 y3;obtain⟨y0,y1,y2,y3⟩:ae w3 ⟨w.heap.size,0,ag⟩=ak (.int .i64 e.o)/\ae w3 ⟨w.heap.size,1,ag⟩=ak (.string e.s)/\ae w3 ⟨w.heap.size,2,ag⟩=ak (.int .i64 e.n)/\ae w3 ⟨w.heap.size,3,ag⟩=ak (.slice p m c):=⟨Z.out.get rfl,Z.out.get rfl,Z.out.get rfl,Z.out.get rfl⟩
   go_wp2_with fail;refine(HE.out _ _ _ _ p m c HP3.out (aoP HK.out HB.out) U4.out).mono ?_;rintro e' w4 ⟨rfl,b4,P4⟩;have B4:=aj b4;have HP4:=aj P4;clear b4 P4 y0 y1 y2 y3;go_wp2_with fail;refine(aoO HG.out [jN] 1 1 _ rfl rfl _ cK aoX (.wd jN) (aoQ G _) HP4.out HM3.out).mono ?_;rintro e' w5 ⟨rfl,b5,P5⟩;have D1:=j4.cat (X:=eZ e) (Y:=.wd jN) B4.out b5 P5;have D2:=aj (j4.cat (X:=.wd fU) (Y:=.cat (eZ e) (.wd jN)) B3.out D1.1 D1.2);clear b5 P5 D1;go_wp2_with fail;refine(aoO HG.out [jN] 1 1 _ rfl rfl _ cK aoX (.wd jN) (aoQ G _) D2.out.2 HL3.out).mono ?_;rintro e' w6 ⟨rfl,b6,P6⟩;go_wp2_with fail
   (first|go_end0|refine bodyPost_ret (results_none rfl _ _ _) rfl ?_)
   have F1:=j4.cat (X:=.xF 4 fun _=>par (eZ e)) (Y:=.wd jN) (B12.out.trans D2.out.1) b6 P6;exact j4.of ((ao0 HJ.out).trans (by rw[if_pos rfl])) (j4.cat (X:=.wd fU) (Y:=.cat (.xF 4 fun _=>par (eZ e)) (.wd jN)) HB1.out F1.1 F1.2)
 · rw[if_neg h0] at HL2 HL3;have H0:=aj h0;have t0:((j:Int)==0)=false:=beq_eq_false_iff_ne.2 bT;clear h0;go_wp2_with fail;refine(HE.out _ _ _ _ p m c HP2.out (aoP HK.out HB.out) HL2.out).mono ?_;rintro e' w4 ⟨rfl,b4,P4⟩;have B4:=aj b4;have HP4:=aj P4;clear b4 P4 y0 y1 y2 y3;go_wp2_with fail;refine(aoO HG.out [jN] 1 1 _ rfl rfl _ cK aoX (.wd jN) (aoQ G _) HP4.out HL3.out).mono ?_;rintro e' w6 ⟨rfl,b6,P6⟩;go_wp2_with fail
   (first|go_end0|refine bodyPost_ret (results_none rfl _ _ _) rfl ?_)
   have F1:=j4.cat (X:=.xF 4 fun _=>eZ e) (Y:=.wd jN) (B12.out.trans B4.out) b6 P6;exact j4.of ((ao0 HJ.out).trans (by rw[if_neg H0.out])) (j4.cat (X:=.wd fU) (Y:=.cat (.xF 4 fun _=>eZ e) (.wd jN)) HB1.out F1.1 F1.2)
end
end Ps
end Go.Proofs.YtkpekhpgdajabaaGreatDoor
