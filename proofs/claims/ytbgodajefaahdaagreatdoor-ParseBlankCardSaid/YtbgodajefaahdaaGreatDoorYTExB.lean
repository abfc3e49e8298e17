/-
  Parts of this proof: Expressions as values that a rule makes; node; t. The contract of the reader's chain. The contracts of Const, of the reference's Const. The contracts of the reader's rules for expressi. The contract of the reader's group. The contract of the reader's primary.
-/
import Derived.Test.YtbgodajefaahdaaGreatDoorYTBase
import Derived.Deep.RegionWith
open Go.World renaming cell?->U,frozen?->af
open Option renaming none->V,some->E
open Go.Lib renaming hid->D
open Go renaming bodyPost_ret->ae,World->ah,results_cell_row->ai,Calls->aj
open Go.RowKit renaming Hid->F
open Go.Proofs.Tryz renaming prog->ag
set_option linter.unusedVariables false
open Go.Lib (hid)
namespace Go.Proofs.YtbgodajefaahdaaGreatDoor
namespace Ps
open Ps.P (len)
open Go.RowKit
open Lx (Tk bs)
open Ex (Ex Gives bW ry jQ)
open Md (Rec fC Rw At bT Kind iH nC)
set_option maxHeartbeats 1000000
def cu (x:Ex) (p:Option Addr) (m c:Nat):Array Value:=#[.int .i64 x.o,.string x.s,.int .i64 x.n,.slice p m c]
def jh:Rec Ex:=fun G w x c=>∃p m cc,c=cu x p m cc/\bW G w x p m
theorem jh.map:fC jh:=by
 intro G H w w2 hs hk x c ⟨p,m,cc,h1,h2⟩;exact⟨p,m,cc,h1,bW.map hs hk x h2⟩
theorem P8:iH 4 jh:=by
 intro G w x c ⟨p,m,cc,h1,h2⟩;subst h1;exact⟨rfl,by simp[cu,Value.oneCell']⟩
theorem kEx:Kind 39 41 4:=nC Tryz.underlying39 (z:=.agg #[.int .i64 0,.string ⟨#[]⟩,.int .i64 0,.slice V 0 0]) (b:=56) (by kernel_rfl) (by decide) (by decide) (by decide)
theorem IX {w:ah} {b o:Nat} {x:Ex} {p:Option Addr} {m c:Nat}:At w b o (cu x p m c)↔jQ w b o x p m c:=by
 constructor
 · intro h;exact⟨by have:=h 0 _ rfl;rwa [Nat.add_zero] at this,h 1 _ rfl,h 2 _ rfl,h 3 _ rfl⟩
 · rintro⟨h0,h1,h2,h3⟩ r v hv;have hr:r<4:=(Array.getElem?_eq_some_iff.1 hv).1
   match r,hr,hv with
   | 0,_,hv=>cases hv;rw[Nat.add_zero];exact h0
   | 1,_,hv=>cases hv;exact h1
   | 2,_,hv=>cases hv;exact h2
   | 3,_,hv=>cases hv;exact h3
theorem UD {G:Nat->Prop} {w:ah} {o:Int} {s:ByteArray} {n:Int} {l:List Ex} {p:Option Addr} {m:Nat}:bW G w (.mk o s n l) p m↔Rw 4 jh G w l p m:=by
 rw[ry];constructor
 · rintro⟨h1,h2,h3|⟨b,o',rfl,hg,hb,hc⟩⟩
   · exact⟨h1,h2,.inl h3⟩
   · refine⟨h1,h2,.inr ⟨b,o',rfl,hg,hb,D fun i hi=>?_⟩⟩;obtain⟨q,j,c,h5,h6⟩:=hc.out i hi;exact⟨cu l[i] q j c,rfl,IX.2 h5,q,j,c,rfl,h6⟩
 · rintro⟨h1,h2,h3|⟨b,o',rfl,hg,hb,hc⟩⟩
   · exact⟨h1,h2,.inl h3⟩
   · refine⟨h1,h2,.inr ⟨b,o',rfl,hg,hb,D fun i hi=>?_⟩⟩;obtain⟨c,h4,h5,q,j,cc,rfl,h6⟩:=hc.out i hi;exact⟨q,j,cc,IX.1 h5,h6⟩
def VX (lo:Nat) (w:ah) (x:Ex) (v:Value):Prop:=∃p m c,v=.agg (cu x p m c)/\bW (fun b=>lo<=b) w x p m
set_option maxRecDepth 100000 in
theorem yB (o:Int) (p:Option Addr) (m c:Nat) (w:ah):aj ag 142 #[.int .i64 o,.slice p m c] w (Gives (.agg #[.int .i64 o,.string ⟨#[]⟩,.int .i64 0,.slice p m c]) w):=by
 go_enter Tryz.func142,Tryz.ntmps142;go_wp2_with fail;refine ae (v:=.agg #[.int .i64 o,.string ⟨#[]⟩,.int .i64 0,.slice p m c]) ?_ rfl ⟨rfl,bl⟩;exact ai rfl _ _ w.heap.size 41 _ (0,0) _ rfl bT.new Tryz.underlying41 rfl (by kernel_rfl)
def Ak:Rec (ByteArray×Int):=fun _ _ x c=>c=#[.string x.1,.int .i64 x.2]
theorem Ak.map:fC Ak:=by intro G H w w2 _ _ x c h;exact h
def oz:List (ByteArray×Int)->List Tk->Option Int
 | [],_=>V
 | o::r,t=>if is o.1 t=true then E o.2 else oz r t
theorem aei {α:Type} {A:Int->P α} {B:P α} {t:List Tk} {o:Int}:∀{os:List (ByteArray×Int)},oz os t=E o->run (zG A B os) t=run (A o) t.tail
 | [],h=>by cases h
 | q::r,h=>by
  unfold oz at h;unfold zG
  cases hi:is q.1 t with
  | true=>rw[hi,if_pos rfl] at h;cases h;rw[FW hi]
  | false=>rw[hi,if_neg (by decide)] at h;rw[D_ hi];exact aei h
theorem aeh {α:Type} {A:Int->P α} {B:P α} {t:List Tk}:∀{os:List (ByteArray×Int)},oz os t=V->run (zG A B os) t=run B t
 | [],h=>rfl
 | q::r,h=>by
  unfold oz at h;unfold zG
  cases hi:is q.1 t with
  | true=>rw[hi,if_pos rfl] at h;cases h
  | false=>rw[hi,if_neg (by decide)] at h;rw[D_ hi];exact aeh h
theorem aaF {α:Type} {l:List α} {k:Nat} {x:α} (h:l[k]?=E x):l.drop k=x::l.drop (k+1):=by
 obtain⟨hk,e⟩:=List.getElem?_eq_some_iff.1 h;rw[List.drop_eq_getElem_cons hk,e]
theorem amm {t:List Tk} {os:List (ByteArray×Int)} {k:Nat} {q:ByteArray×Int} (hk:os[k]?=E q) (h:is q.1 t=false):oz (os.drop k) t=oz (os.drop (k+1)) t:=by
 rw[aaF hk,oz,h,if_neg (by decide)]
theorem aml {t:List Tk} {os:List (ByteArray×Int)} {k:Nat} {q:ByteArray×Int} (hk:os[k]?=E q) (h:is q.1 t=true):oz (os.drop k) t=E q.2:=by
 rw[aaF hk,oz,h,if_pos rfl]
def OO (L:Lk) (g:Nat) (os:List (ByteArray×Int)) (t:List Tk) (w:ah) (e:Ending) (w':ah):Prop:=
 Bt g w w'/\((∃o,oz os t=E o/\e=.returned (.tuple #[.int .i64 o,.bool true])/\Rd L g t.tail w')∨(oz os t=V/\e=.returned (.tuple #[.int .i64 0,.bool false])/\Rd L g t w'))
structure ah_ (L:Lk) (g:Nat) (os:List (ByteArray×Int)) (t:List Tk) (w:ah) (n:Nat) (v:Value) (wr:ah):Prop where
 ex:∃k,k+n=os.length+1/\0<n/\v=.int .i64 ((k:Nat):Int)/\oz os t=oz (os.drop k) t
 rd:Rd L g t wr
 bt:Bt g w wr
section
variable {L:Lk} {g:Nat} {t:List Tk}
set_option maxRecDepth 100000 in
theorem aiF (os:List (ByteArray×Int)) (p:Option Addr) (m c:Nat) (w:ah) (hR:Rd L g t w) (ho:Rw 2 Ak (fun b=>¬b=g) w os p m) (hs:∀q∈os,¬bs q.1=[]):aj ag 141 #[.pointer (E ⟨g,0,V⟩),.slice p m c] w (OO L g os t w):=by
 obtain⟨hl,hm⟩:=ho.len;have HL:=D hl;have HM:=D hm;have HO:=D ho;have HR:=D hR;have Rx:=D hs;clear hl hm ho hR hs;go_enter Tryz.func141,Tryz.ntmps141;go_wp2_with fail;go_loopg [10] (os.length+1) (ah_ L g os t w)
 case atStart=>exact⟨⟨0,by omega,by omega,rfl,rfl⟩,HR.out,by exact qe⟩
 case round=>
  obtain⟨⟨k,hk,h0,rfl,hf⟩,hR,hb⟩:=hrel;have h30:=hR.few;by_cases hkl:k<os.length
  · obtain⟨b,o,hpe,hbg,hlt,hcc⟩:=HO.out.rows (by rw[← HL.out];omega);obtain⟨cc,hc1,hc2,hc3⟩:=hcc.out k hkl;obtain⟨⟨s,op⟩,hso⟩:∃q,os[k]=q:=⟨_,rfl⟩
    rw[hso] at hc3;have hc3:cc=#[.string s,.int .i64 op]:=hc3;subst hc3;subst hpe;have hne:=Rx.out os[k] (List.getElem_mem hkl);rw[hso] at hne;have hcw:At wr b (o+k*2) #[.string s,.int .i64 op]:=hc2.keep (hb.block b hlt hbg);have q0:wr.cell? ⟨b,o+k*2,V⟩=E (.string s):=by have:=hcw.get (r:=0) rfl;rwa [Nat.add_zero] at this
    have q1:wr.cell? ⟨b,o+k*2+1,V⟩=E (.int .i64 op):=hcw.get (r:=1) rfl;have k0:(0:Int)<=(k:Int):=by omega
    have k1:(k:Int)<(m:Int):=by have:=HL.out;omega
    have k2:decide ((k:Int)<(m:Int))=true:=decide_eq_true k1;have hw:IntKind.i64.wrap ((k:Int)+1)=((k+1:Nat):Int):=by rw[IntKind.wrap_i64];have:=HM.out;omega
    have HQ:F (os[k]?=E (s,op)):=D (by rw[List.getElem?_eq_getElem hkl,hso]);have hkm:k<m:=by have:=HL.out;omega
    have HN:=D hne;have HR2:=D hR;have HB:=D hb;have HF:=D hf;have HK:=D hk;clear hR hb hf hk hcw hc2 hcc hne hso hkl hc1 HO hc3;go_wp2_with fail;refine(dL s _ (HR2.out.low qe) HN.out).mono ?_;rintro e w1 ⟨b1,⟨i1,rfl,R1⟩|⟨i1,rfl,R1⟩⟩
    · have hr:oz os t=E op:=HF.out.trans (aml HQ.out i1);have HH:=D hr;have B1:F (Bt g w w1):=D (by have q:Bt g w wr:=HB.out;exact qe);have R2:=D R1;have z1:(wr.alloc (.cells #[.string s,.int .i64 op] 184)).cell? ⟨wr.heap.size,1,V⟩=E (.int .i64 op):=by rw[World.cell?_alloc_mark];rfl
      have z2:bT w1 wr.heap.size 184 #[.string s,.int .i64 op]:=ai8 (g:=g) bT.new b1 (by have:=HR2.out.blk;omega);have z3:=z2.get (r:=1) rfl;clear hr b1 i1 R1 z1 z2 q0 q1 HF;go_wp2_with fail;refine ae (v:=.tuple #[.int .i64 op,.bool true]) (by simp[results,Tryz.results141,go_sem]) rfl ⟨B1.out,.inl ⟨op,HH.out,rfl,R2.out⟩⟩
    · have hr:oz os t=oz (os.drop (k+1)) t:=HF.out.trans (amm HQ.out i1);have HH:=D hr;have B1:=D b1;have R2:=D R1;clear hr b1 i1 R1 q0 q1 HF;have B2:F (Bt g w w1):=D (by have q:Bt g w wr:=HB.out;have q2:=B1.out;exact qe);go_wp2_with fail;go_roundg (gk-1)
      case measure=>omega
      case rel=>
       have h1:=HK.out;exact⟨⟨k+1,by omega,by have:=HL.out;omega,rfl,HH.out⟩,R2.out,B2.out⟩
  · have e:os.drop k=[]:=List.drop_of_length_le (by omega);have hn:oz os t=V:=by rw[hf,e];rfl
    have k2:decide ((k:Int)<(m:Int))=false:=decide_eq_false (by have:=HL.out;omega);have k3:¬((k:Int)<(m:Int)):=by have:=HL.out;omega
    have HH:=D hn;have B2:=D hb;have R2:=D hR;clear hf hb hR hn e hk hkl;go_wp2_with fail;exact ae (v:=.tuple #[.int .i64 0,.bool false]) (by simp[results,Tryz.results141,go_sem]) rfl ⟨B2.out,.inr ⟨HH.out,rfl,R2.out⟩⟩
end
end Ps
namespace Ps
open Ps.P (bd)
open Go.RowKit
open Lx (Tk bs)
open Ex (Ex bW)
open Md (Rw bT)
set_option maxHeartbeats 1000000
theorem yw {G:Nat->Prop} {w:ah} {x y:Ex} {p q:Option Addr} {m n c d:Nat} (o:Int) (hx:bW G w x p m) (hy:bW G w y q n) (hg:G w.heap.size):bW G (w.alloc (.cells #[.int .i64 x.o,.string x.s,.int .i64 x.n,.slice p m c,.int .i64 y.o,.string y.s,.int .i64 y.n,.slice q n d] 41)) (jl o x y) (E ⟨w.heap.size,0,V⟩) 2:=by
 have hk:∀(z:Ex) (r:Option Addr) (j:Nat),bW G w z r j->bW G (w.alloc (.cells #[.int .i64 x.o,.string x.s,.int .i64 x.n,.slice p m c,.int .i64 y.o,.string y.s,.int .i64 y.n,.slice q n d] 41)) z r j:=fun z r j h=>Ex.bW.map (by simp) (fun b hb hlt=>⟨hb,by show(w.heap.push _)[b]?=_;rw[Array.getElem?_push,if_neg (by omega)]⟩) z h;have hb:bT (w.alloc (.cells #[.int .i64 x.o,.string x.s,.int .i64 x.n,.slice p m c,.int .i64 y.o,.string y.s,.int .i64 y.n,.slice q n d] 41)) w.heap.size 41 _:=bT.new;refine UD.2 ⟨rfl,by omega,.inr ⟨w.heap.size,0,rfl,hg,by simp,D fun i hi=>?_⟩⟩
 match i,hi with
 | 0,_=>exact⟨cu x p m c,rfl,IX.2 ⟨hb.get rfl,hb.get rfl,hb.get rfl,hb.get rfl⟩,p,m,c,rfl,hk x p m hx⟩
 | 1,_=>exact⟨cu y q n d,rfl,IX.2 ⟨hb.get rfl,hb.get rfl,hb.get rfl,hb.get rfl⟩,q,n,d,rfl,hk y q n hy⟩
theorem JZ {G:Nat->Prop} {w:ah} {x:Ex} {p:Option Addr} {m c:Nat} (o:Int) (hx:bW G w x p m) (hg:G w.heap.size):bW G (w.alloc (.cells #[.int .i64 x.o,.string x.s,.int .i64 x.n,.slice p m c] 41)) (uh o x) (E ⟨w.heap.size,0,V⟩) 1:=by
 have hk:bW G (w.alloc (.cells #[.int .i64 x.o,.string x.s,.int .i64 x.n,.slice p m c] 41)) x p m:=Ex.bW.map (by simp) (fun b hb hlt=>⟨hb,by show(w.heap.push _)[b]?=_;rw[Array.getElem?_push,if_neg (by omega)]⟩) x hx;have hb:bT (w.alloc (.cells #[.int .i64 x.o,.string x.s,.int .i64 x.n,.slice p m c] 41)) w.heap.size 41 _:=bT.new;refine UD.2 ⟨rfl,by omega,.inr ⟨w.heap.size,0,rfl,hg,by simp,D fun i hi=>?_⟩⟩
 match i,hi with
 | 0,_=>exact⟨cu x p m c,rfl,IX.2 ⟨hb.get rfl,hb.get rfl,hb.get rfl,hb.get rfl⟩,p,m,c,rfl,hk⟩
structure ahv (L:Lk) (g:Nat) (r:R Ex) (m:P Ex) (os:List (ByteArray×Int)) (N:Nat) (w:ah) (B:Nat) (k:Nat) (wr:ah):Prop where
 ex:∃e u p j c,run (wI m os k e) u=r/\u.length<k/\u.length<=N/\bT wr B 41 (cu e p j c)/\bW (fun b=>w.heap.size<b/\¬b=B) wr e p j/\Rd L g u wr
 bt:Bt g w wr
 res:∃z,z.size=4/\bT wr w.heap.size 41 z
theorem four {z:Array Value} (h:z.size=4):∃a b c d,z=#[a,b,c,d]:=by
 match z,h with
 | ⟨[a,b,c,d]⟩,_=>exact⟨a,b,c,d,rfl⟩
theorem ajQ {m:P Ex} {os:List (ByteArray×Int)} {k:Nat} {e:Ex} {u:List Tk} {r:R Ex} (H:F (run (wI m os (k+1) e) u=r)) (h:oz os u=V):r=.ok e u:=by
 have:=H.out;rw[wI,aeh h] at this;exact this.symm
theorem ajR {m:P Ex} {os:List (ByteArray×Int)} {k:Nat} {e:Ex} {u:List Tk} {r:R Ex} {o:Int} (H:F (run (wI m os (k+1) e) u=r)) (h:oz os u=E o):F (run (bd m fun y=>wI m os k (jl o e y)) u.tail=r):=by
 have:=H.out;rw[wI,aei h] at this;exact D this
section
variable {L:Lk} {g:Nat} {t:List Tk}
theorem Qz {p:Prop} (h:p:=by have hgB:¬w1.heap.size=g:=(by omega);exact qe):p:=h
set_option maxHeartbeats 3000000 in
set_option maxRecDepth 100000 in
theorem NM (f:FuncId) (m:P Ex) (os:List (ByteArray×Int)) (p:Option Addr) (n c:Nat) (w:ah) (hR:Rd L g t w)
 (hC:∀W u,Rd L g u W->u.length<=t.length->aj ag f #[.pointer (E ⟨g,0,V⟩)] W (PO L g VX (run m u) W))
 (hf:∀(a:Array Value) (W:ah),(callFunc f a).run ag W=.ok (.enter f a) W) (ho:Rw 2 Ak (fun b=>¬b=g) w os p n) (hs:∀q∈os,¬bs q.1=[]) (hm:Dn 1 m):aj ag 93 #[.pointer (E ⟨g,0,V⟩),.func (.func f) #[] #[],.slice p n c] w (PO L g VX (run (zi m os) t) w):=by
 have HC:=D hC;have HO:F (∀W,Bt g w W->Rw 2 Ak (fun b=>¬b=g) W os p n):=D fun W hW=>ho.map Ak.map hW.size fun b hb hlt=>⟨hb,hW.block b hlt hb⟩
 have Rx:=D hs;have HM:=D hm;have hd0:F (∀x u,run m t=.ok x u->u.length+1<=t.length):=D (fun x u h=>(hm.out hR.gd h).2);have hfu:=D hR.fu;clear hC ho hs hm;obtain⟨r,hr⟩:∃r,run (zi m os) t=r:=⟨_,rfl⟩
 rw[hr];have HS:=D hr;have hg:=hR.blk;have HR:=D hR;have HB:F (Bt g w w):=D (bR.refl _ _);clear hR hr;have Z:=D (bT.new (w:=w) (t:=41) (c:=#[.int .i64 0,.string ⟨#[]⟩,.int .i64 0,.slice V 0 0]));go_enter Tryz.func93,Tryz.ntmps93;go_wp2_with fail;refine(HC.out _ _ (HR.out.low qe) (Nat.le_refl _)).mono ?_;rintro e w1 h1;rcases h1.cases with⟨x1,u1,v1,r1,rfl,b1,V1,R1⟩|⟨u1,r1,rfl,b1⟩
 rotate_left 1
 · have bU:=HB.out;go_wp2_with fail;exact⟨rfl,PO.no (dJ HS (by assumption)) qe⟩
 have HT:=D (hd0.out _ _ r1);replace HS:=bY HS r1;replace Z:=D (bS (w2:=w1) Z.out qe);replace HB:F (Bt g w w1):=D qh;replace HR:=D R1;clear b1 R1;clear r1 h1 hd0;obtain⟨p1,m1,c1,rfl,k1⟩:=V1;have e0:(w.alloc (.cells #[.int .i64 0,.string ⟨#[]⟩,.int .i64 0,.slice V 0 0] 41)).heap.size=w.heap.size+1:=by simp
 rw[e0] at k1;have K1:=D k1;have hz:=Z.out.lt;clear k1 e0;unfold cu;go_wp2_with fail;go_loopg [] FU (ahv L g r m os t.length w w1.heap.size)
 case atStart=>
  have h1:=HT.out;have h2:=hfu.out;refine⟨⟨x1,u1,p1,m1,c1,HS.out,by omega,by omega,bT.new,?_,(HR.out.low qe)⟩,by have bU:=HB.out;exact qe,_,rfl,bS Z.out qe⟩;exact Ex.bW.map (by simp) (fun b hb hlt=>⟨⟨by have:w.heap.size+1<=b:=hb;omega,by omega⟩,by show(w1.heap.push _)[b]?=_;rw[Array.getElem?_push,if_neg (by omega)]⟩) x1 K1.out
 case round=>
  obtain⟨⟨e,u,p2,m2,c2,hr,hk,hl,hbx,kL,hR⟩,hb,zz,sH,hzb⟩:=hrel;clear HS HB HR HT K1 Z hfu;obtain⟨k,rfl⟩:∃k,gk=k+1:=⟨gk-1,by omega⟩
  have Ru:=D (HO.out wr hb);have HS:=D hr;have HR:=D hR;have HB:=D hb;have HK:=D hk;have HL:=D hl;have Y:=D hbx;have FF:=D kL;have Z:=D hzb;have RB:=D sH;clear hr hR hb hk hl hbx kL hzb sH;go_wp2_with fail;refine(aiF os p n c _ HR.out Ru.out Rx.out).mono ?_;rintro e' w2 ⟨b2,⟨o,JQ,rfl,R2⟩|⟨JQ,rfl,R2⟩⟩
  · replace HS:=ajR HS JQ;have hne:¬(hd u).k=0:=by
     intro e;have:=HR.out.gd.last e;have h2:=R2.gd.ne;rw[List.length_tail] at h2;omega
    have HT:=D (HR.out.gd.tail hne).2;have hd2:F (∀y v,run m u.tail=.ok y v->v.length+1<=u.tail.length):=D (fun y v h=>(HM.out.out R2.gd h).2);replace Y:=D (bS (w2:=w2) Y.out Qz);replace Z:=D (bS (w2:=w2) Z.out qe);have b2':=b2;replace HB:F (Bt g w w2):=D qh;replace HR:=D R2;replace FF:F (bW (fun b=>w.heap.size<b/\¬b=w1.heap.size) w2 e p2 m2):=D (Ex.bW.map b2'.size (fun b hb hlt=>⟨hb,b2'.block b hlt (by omega)⟩) e FF.out);clear b2 b2' R2 JQ hne;have l0:U _ ⟨_,0,V⟩=E (.int .i64 e.o):=Y.out.get rfl;have l1:U _ ⟨_,1,V⟩=E (.string e.s):=Y.out.get rfl;have l2:U _ ⟨_,2,V⟩=E (.int .i64 e.n):=Y.out.get rfl;have l3:U _ ⟨_,3,V⟩=E (.slice p2 m2 c2):=Y.out.get rfl;have y0:∃z0 z1 z2 z3,zz=#[z0,z1,z2,z3]:=four RB.out;have fz:∀i,af _ ⟨_,i,V⟩=false:=fun i=>df (i:=i) Y.out;clear y0;go_wp2_with fail;go_region_with (first|(go_at_call 142;refine(yB _ _ _ _ _).mono ?_;rintro e' w4 ⟨rfl,hb4⟩;have q4:Bt g _ w4:=bR.of hb4;have s4:bT w4 w1.heap.size 41 (cu e p2 m2 c2):=bS s3 Qz;have y0:U w4 ⟨w1.heap.size,0,V⟩=E (.int .i64 e.o):=s4.get rfl;have y1:U w4 ⟨w1.heap.size,1,V⟩=E (.string e.s):=s4.get rfl;have y2:U w4 ⟨w1.heap.size,2,V⟩=E (.int .i64 e.n):=s4.get rfl;have y3:U w4 ⟨w1.heap.size,3,V⟩=E (.slice p2 m2 c2):=s4.get rfl;have Er:∀i,af w4 ⟨w1.heap.size,i,V⟩=false:=fun i=>df (i:=i) s4)|(refine(HC.out _ _ (HR.out.low qe) (by have h1:=HT.out;have h2:=HL.out;omega)).mono ?_;rintro e' w3 h3;rcases h3.cases with⟨x3,u3,v3,r3,rfl,b3,V3,R3⟩|⟨u3,r3,rfl,b3⟩;rotate_left 1;(have bU:=HB.out;exact⟨rfl,PO.no (dJ HS (by assumption)) qe⟩);obtain⟨p3,m3,c3,rfl,k3⟩:=V3;dsimp only [cu];have s3:=bS (w2:=w3) Y.out Qz;have m0:U w3 ⟨w1.heap.size,0,V⟩=E (.int .i64 e.o):=s3.get rfl;have vG:U w3 ⟨w1.heap.size,1,V⟩=E (.string e.s):=s3.get rfl;have vH:U w3 ⟨w1.heap.size,2,V⟩=E (.int .i64 e.n):=s3.get rfl;have vI:U w3 ⟨w1.heap.size,3,V⟩=E (.slice p2 m2 c2):=s3.get rfl))
    all_goals
     have z2:=Y.out.lt;have HD:=D (hd2.out _ _ r3);have HS2:=bY HS r3;have gB:¬w1.heap.size=g:=(by omega)
     have Z3:bT w3 w.heap.size 41 zz:=bS (w2:=w3) Z.out qe;have Z4:bT w4 w.heap.size 41 zz:=bS Z3 qe;have B4:Bt g w w4:=by have bU:=HB.out;exact qe
     have R4:Rd L g u3 w4:=R3.low (by have q5:Lw g _ w4:=bR.of hb4;exact qe);have KE:bW (fun b=>w.heap.size<b/\¬b=w1.heap.size) w3 e p2 m2:=Ex.bW.map (w:=w2) b3.size (fun b hb hlt=>⟨hb,b3.block b hlt (by omega)⟩) e FF.out;have KX:bW (fun b=>w.heap.size<b/\¬b=w1.heap.size) w3 x3 p3 m3:=k3.mono fun b hb hlt=>by
      have hb2:w2.heap.size<=b:=hb;have hb3:=hz;exact⟨by omega,by omega⟩
     have uu:=b3.size;have atL:w2.heap.size<=w3.heap.size:=uu;have KN:=yw (c:=c2) (d:=c3) o KE KX ⟨by omega,by omega⟩;have K4:bW (fun b=>w.heap.size<b/\¬b=w1.heap.size) w4 (jl o e x3) (E ⟨w3.heap.size,0,V⟩) 2:=Ex.bW.map hb4.size (fun b hb hlt=>⟨hb,hb4.block b hlt⟩) _ KN;have D4:=D s4;have HQ:=D (And.intro Z4 (And.intro B4 (And.intro R4 K4)));clear Z3 Z4 B4 R4 KE KX KN K4 uu r3 k3 h3 R3 b3 hb4 q4 s4 s3 m0 vG vH vI l0 l1 l2 l3 y0 y1 y2 y3 Er fz;go_wp2_with fail;go_roundg k
     case measure=>exact Nat.lt_succ_self k
     case rel=>
      obtain⟨Z4,B4,R4,K4⟩:=HQ.out;have h1:=HD.out;have h2:=HT.out;have h3:=HK.out;have h4:=HL.out;have qS:bR (fun b=>w.heap.size<b/\¬b=w1.heap.size) w4 ((((w4.setCell ⟨w1.heap.size,0,V⟩ (.int .i64 o)).setCell ⟨w1.heap.size,1,V⟩ (.string ⟨#[]⟩)).setCell ⟨w1.heap.size,2,V⟩ (.int .i64 0)).setCell ⟨w1.heap.size,3,V⟩ (.slice (E ⟨w3.heap.size,0,V⟩) 2 2)):=by
       refine bR.set (bR.set (bR.set (bR.set (bR.refl _ _) ?_) ?_) ?_) ?_ <;> exact .inr fun h=>h.2 rfl
      exact⟨⟨jl o e x3,u3,_,2,2,HS2.out,by omega,by omega,lu D4.out rfl,Ex.bW.map qS.size (fun b hb hlt=>⟨hb,qS.block b hlt hb⟩) _ K4,R4.low qe⟩,by exact qe,zz,RB.out,bS Z4 qe⟩
  · have hr:=ajQ HS JQ;replace Y:=D (bS (w2:=w2) Y.out Qz);replace Z:=D (bS (w2:=w2) Z.out qe);have b2':=b2;replace HB:F (Bt g w w2):=D qh;replace HR:=D R2;replace FF:F (bW (fun b=>w.heap.size<b/\¬b=w1.heap.size) w2 e p2 m2):=D (Ex.bW.map b2'.size (fun b hb hlt=>⟨hb,b2'.block b hlt (by omega)⟩) e FF.out);replace HS:=D hr;clear b2 b2' R2 JQ hr;obtain⟨z0,z1,z2,z3,rfl⟩:=four RB.out;have l0:U _ ⟨_,0,V⟩=E (.int .i64 e.o):=Y.out.get rfl;have l1:U _ ⟨_,1,V⟩=E (.string e.s):=Y.out.get rfl;have l2:U _ ⟨_,2,V⟩=E (.int .i64 e.n):=Y.out.get rfl;have l3:U _ ⟨_,3,V⟩=E (.slice p2 m2 c2):=Y.out.get rfl;have y0:U _ ⟨_,0,V⟩=E z0:=Z.out.get rfl;have y1:U _ ⟨_,1,V⟩=E z1:=Z.out.get rfl;have y2:U _ ⟨_,2,V⟩=E z2:=Z.out.get rfl;have y3:U _ ⟨_,3,V⟩=E z3:=Z.out.get rfl;have fz:∀i,af _ ⟨_,i,V⟩=false:=fun i=>df (i:=i) Z.out;go_wp2_with fail;have bU:=HB.out;refine ae (v:=.agg (cu e p2 m2 c2)) ?_ rfl (PO.ok HS.out qe ⟨p2,m2,c2,rfl,?_⟩ (HR.out.low qe))
    · exact ai rfl _ _ w.heap.size 41 _ (0,0) _ rfl (lu Z.out rfl) Tryz.underlying41 rfl (by kernel_rfl)
    · refine Ex.bW.map (G:=fun b=>w.heap.size<b/\¬b=w1.heap.size) (w:=w2) (by simp) (fun b hb hlt=>⟨by show w.heap.size<=b;omega,?_⟩) e FF.out;have q:bR (fun k=>¬k=w.heap.size) w2 ((((w2.setCell ⟨w.heap.size,0,V⟩ (.int .i64 e.o)).setCell ⟨w.heap.size,1,V⟩ (.string e.s)).setCell ⟨w.heap.size,2,V⟩ (.int .i64 e.n)).setCell ⟨w.heap.size,3,V⟩ (.slice p2 m2 c2)):=by exact qe
      exact q.block b hlt (by omega)
end
end Ps
namespace Ex
open Go.RowKit
set_option maxHeartbeats 2000000
set_option linter.unusedSimpArgs false
abbrev mE:ByteArray:=⟨#[]⟩
def ahx (x:Ex) (w:ah) (e:Ending) (w':ah):Prop:=∃p m c,e=.returned (.agg #[.int .i64 x.o,.string x.s,.int .i64 x.n,.slice p m c])/\In w' x p m/\Below w.heap.size w w'
def b01 (n:Int):Int:=if n=0 then 0 else 1
def NP (t n:Int):Ex:=if t=1 then .mk 1 mE n [] else if t=2 then .mk 2 mE (b01 n) [] else if t=3 then .mk 7 mE 0 [.mk 1 mE n []] else .mk 0 mE 0 []
theorem In.leaf {w:ah} {o n:Int} {s:ByteArray} {p:Option Addr}:In w (.mk o s n []) p 0:=bW.zero
theorem In.one {w:ah} {o n:Int} {s:ByteArray} {x:Ex} {b:Nat} {p:Option Addr} {m c:Nat} (hb:b<w.heap.size) (h:jQ w b 0 x p m c) (hx:In w x p m):In w (.mk o s n [x]) (E ⟨b,0,V⟩) 1:=by
 refine ry.2 ⟨rfl,by omega,.inr ⟨b,0,rfl,hb,hb,D fun k hk=>?_⟩⟩;have:k=0:=by simpa using hk
 subst this;exact⟨p,m,c,h,hx⟩
theorem In.two {w:ah} {o n:Int} {s:ByteArray} {x y:Ex} {b:Nat} {p q:Option Addr} {m c m2 c2:Nat} (hb:b<w.heap.size) (h:jQ w b 0 x p m c) (hx:In w x p m) (h2:jQ w b 4 y q m2 c2) (hy:In w y q m2):In w (.mk o s n [x,y]) (E ⟨b,0,V⟩) 2:=by
 refine ry.2 ⟨rfl,by omega,.inr ⟨b,0,rfl,hb,hb,D fun k hk=>?_⟩⟩;have:k=0∨k=1:=by simp at hk;omega
 rcases this with rfl|rfl
 · exact⟨p,m,c,h,hx⟩
 · exact⟨q,m2,c2,h2,hy⟩
theorem Oz {w:ah} {C:Array Value} {t:TypeId} (k:Nat):(w.alloc (.cells C t)).frozen? ⟨w.heap.size,k,V⟩=false:=by
 have h:(w.alloc (.cells C t)).heap[w.heap.size]?=E (.cells C t (0,0)):=World.alloc_heap_new w _;unfold af;rw[h];simp
theorem aqY {W:ah} {g:Nat} {o:Int} {s:ByteArray} {n:Int} {p:Option Addr} {m c:Nat} (h:jg W g o s n p m c) (o':Int) (s':ByteArray) (n':Int) (p':Option Addr) (m' c':Nat) :
 jg ((((W.setCell ⟨g,0,V⟩ (.int .i64 o')).setCell ⟨g,1,V⟩ (.string s')).setCell ⟨g,2,V⟩ (.int .i64 n')).setCell ⟨g,3,V⟩ (.slice p' m' c')) g o' s' n' p' m' c':=by
 obtain⟨h0,h1,h2,h3⟩:=h;refine⟨?_,?_,?_,?_⟩ <;> simp[go_sem,h0,h1,h2,h3]
theorem ai0 {a W:ah} {g:Nat} (h:Below a.heap.size a W) (hg:a.heap.size<=g) (v0 v1 v2 v3:Value):Below a.heap.size a ((((W.setCell ⟨g,0,V⟩ v0).setCell ⟨g,1,V⟩ v1).setCell ⟨g,2,V⟩ v2).setCell ⟨g,3,V⟩ v3):=
 (((h.setCell (p:=⟨g,0,V⟩) hg v0).setCell (p:=⟨g,1,V⟩) hg v1).setCell (p:=⟨g,2,V⟩) hg v2).setCell (p:=⟨g,3,V⟩) hg v3
theorem QA {p:Prop} (h:p:=by simp[results,Tryz.results228,go_sem]):p:=h
theorem Gn (n:Int) (w:ah):aj ag 228 #[.int .i64 1,.int .i64 n] w fun e w'=>e=.returned (.agg #[.int .i64 1,.string mE,.int .i64 n,.slice V 0 0])/\Below w.heap.size w w':=by
 go_enter Tryz.func228,Tryz.ntmps228;go_wp2_with fail
 (try simp only[Exit.inBlock,Exit.then])
 exact ae (v:=.agg #[.int .i64 1,.string mE,.int .i64 n,.slice V 0 0]) QA rfl ⟨rfl,bl⟩
theorem SL (t n:Int) (w:ah):aj ag 228 #[.int .i64 t,.int .i64 n] w (ahx (NP t n) w):=by
 unfold NP;by_cases h1:t=1
 · subst h1;rw[if_pos rfl];exact(Gn n w).mono fun e w' h=>⟨V,0,0,h.1,In.leaf,h.2⟩
 rw[if_neg h1];have t1:(t==1)=false:=beq_eq_false_iff_ne.2 h1;by_cases h2:t=2
 · subst h2;rw[if_pos rfl];by_cases hn:n=0
   · subst hn;go_enter Tryz.func228,Tryz.ntmps228;go_wp2_with fail
     (try simp only[Exit.inBlock,Exit.then])
     exact ae (v:=.agg #[.int .i64 2,.string mE,.int .i64 0,.slice V 0 0]) QA rfl ⟨V,0,0,rfl,In.leaf,bl⟩
   · have f0:(n==0)=false:=beq_eq_false_iff_ne.2 hn;rw[show b01 n=1 from if_neg hn];go_enter Tryz.func228,Tryz.ntmps228;go_wp2_with fail
     (try simp only[Exit.inBlock,Exit.then])
     exact ae (v:=.agg #[.int .i64 2,.string mE,.int .i64 1,.slice V 0 0]) QA rfl ⟨V,0,0,rfl,In.leaf,bl⟩
 rw[if_neg h2];have t2:(t==2)=false:=beq_eq_false_iff_ne.2 h2;by_cases h3:t=3
 · subst h3;rw[if_pos rfl];go_enter Tryz.func228,Tryz.ntmps228;go_wp2_with fail;refine(Gn n _).mono ?_;rintro e w2 ⟨rfl,hb2⟩;obtain⟨z0,z1,z2,z3⟩:=jg.on hb2 ni;have y0:=(hb2.frozen (p:=⟨w.heap.size,0,V⟩) (by simp)).trans (Oz 0);have y1:=(hb2.frozen (p:=⟨w.heap.size,1,V⟩) (by simp)).trans (Oz 1);have y2:=(hb2.frozen (p:=⟨w.heap.size,2,V⟩) (by simp)).trans (Oz 2);have y3:=(hb2.frozen (p:=⟨w.heap.size,3,V⟩) (by simp)).trans (Oz 3);have hlt:w.heap.size<w2.heap.size:=by have:=hb2.size;simp at this;omega
   have HB:=D (show Below w.heap.size w w2 by exact bl);clear hb2;go_wp2_with fail
   (try simp only[Exit.inBlock,Exit.then])
   obtain⟨r0,r1,r2,r3⟩:=(aqY ⟨z0,z1,z2,z3⟩ 7 mE 0 (E ⟨w2.heap.size,0,V⟩) 1 1).alloc (.cells #[.int .i64 1,.string mE,.int .i64 n,.slice V 0 0] 41);have hB:=ji (o:=.cells #[.int .i64 1,.string mE,.int .i64 n,.slice V 0 0] 41) (ai0 HB.out (g:=w.heap.size) (Nat.le_refl _) (.int .i64 7) (.string mE) (.int .i64 0) (.slice (E ⟨w2.heap.size,0,V⟩) 1 1));have ny:=A_ (w:=(((w2.setCell ⟨w.heap.size,0,V⟩ (.int .i64 7)).setCell ⟨w.heap.size,1,V⟩ (.string mE)).setCell ⟨w.heap.size,2,V⟩ (.int .i64 0)).setCell ⟨w.heap.size,3,V⟩ (.slice (E ⟨w2.heap.size,0,V⟩) 1 1)) (x:=.mk 1 mE n []) (p:=V) (m:=0) (c:=0) (t:=41);simp only[World.size_setCell] at ny;exact ae (v:=.agg #[.int .i64 7,.string mE,.int .i64 0,.slice (E ⟨w2.heap.size,0,V⟩) 1 1]) (by simp[results,Tryz.results228,go_sem,r0,r1,r2,r3]) rfl ⟨_,_,_,rfl,In.one (by simp) ny In.leaf,hB⟩
 rw[if_neg h3];have t3:(t==3)=false:=beq_eq_false_iff_ne.2 h3;clear h1 h2 h3;go_enter Tryz.func228,Tryz.ntmps228;go_wp2_with fail
 (try simp only[Exit.inBlock,Exit.then])
 exact ae (v:=.agg #[.int .i64 0,.string mE,.int .i64 0,.slice V 0 0]) QA rfl ⟨V,0,0,rfl,In.leaf,bl⟩
end Ex
namespace Ps
open Ps.P (exp)
open Go.RowKit
open Lx (Tk)
open Ex (Ex bW)
open Md (bT)
set_option maxHeartbeats 1000000
theorem gX {a:Nat} {w w2:ah} {x:Ex} {p:Option Addr} {m:Nat} (h:bW (fun b=>a<b) w x p m) (hb:bR (fun b=>a<b) w w2):bW (fun b=>a<=b) w2 x p m:=by
 have hk:∀b,(fun b=>a<b) b->b<w.heap.size->(fun b=>a<=b) b/\w2.heap[b]?=w.heap[b]?:=fun b hg hlt=>⟨Nat.le_of_lt hg,hb.block b hlt hg⟩
 exact Ex.bW.map hb.size hk x h
theorem jB {a:Nat} {w w2:ah} {x:Ex} {p:Option Addr} {m:Nat} (h:bW (fun b=>a<b) w x p m) (hb:bR (fun b=>a<b) w w2):bW (fun b=>a<b) w2 x p m:=by
 have hk:∀b,(fun b=>a<b) b->b<w.heap.size->(fun b=>a<b) b/\w2.heap[b]?=w.heap[b]?:=fun b hg hlt=>⟨hg,hb.block b hlt hg⟩
 exact Ex.bW.map hb.size hk x h
structure XC (L:Lk) (g:Nat) (n:Nat):Prop where
 xe:∀W u,Rd L g u W->u.length<n->aj ag 53 #[.pointer (E ⟨g,0,V⟩)] W (PO L g VX (run (fE n) u) W)
 xn:∀W u,Rd L g u W->u.length<n->aj ag 143 #[.pointer (E ⟨g,0,V⟩)] W (PO L g VX (run (fN n) u) W)
 xf:∀W u,Rd L g u W->u.length<n->aj ag 208 #[.pointer (E ⟨g,0,V⟩)] W (PO L g VX (run (fF n) u) W)
section
variable {L:Lk} {g:Nat} {t:List Tk} {n:Nat}
theorem yR {p:Prop} (h:p:=by
 have bU:=HB.out;go_wp2_with fail;exact⟨rfl,PO.no (dJ HS (by assumption)) qe⟩
 ):p:=h
theorem XK {p:Prop} (h:p:=by
 exact ai rfl _ _ w.heap.size 41 _ (0,0) _ rfl (lu Z.out rfl) Tryz.underlying41 rfl (by kernel_rfl)
 ):p:=h
theorem XL {p:Prop} (h:p:=by have hb':_<=b:=hb;first|(simp at hb';omega)|omega):p:=h
set_option maxRecDepth 100000 in
theorem aee (hX:XC L g n) (o:Int) (w:ah) (hR:Rd L g t w) (hn:t.length<=n):aj ag 229 #[.pointer (E ⟨g,0,V⟩),.int .i64 o] w (PO L g VX (run (one (fE n) o) t) w):=by
 have HX:=D hX.xe;have HD:F (∀u,run (exp mY) t=.ok () u->u.length<n):=D fun u h=>by have:=((Dn.exp (by decide):Dn 1 (exp mY)).out hR.gd h).2;omega
 clear hX hn;obtain⟨r,hr⟩:∃r,run (one (fE n) o) t=r:=⟨_,rfl⟩
 rw[hr];have HS:=D hr;have hg:=hR.blk;have HR:=D hR;have HB:F (Bt g w w):=D (bR.refl _ _);clear hR hr;have Z:=D (bT.new (w:=w) (t:=41) (c:=#[.int .i64 0,.string ⟨#[]⟩,.int .i64 0,.slice V 0 0]));go_enter Tryz.func229,Tryz.ntmps229;go_wp2_with fail;refine(gW _ _ (HR.out.low qe) (by decide)).mono ?_;rintro e w1 h1;rcases h1.cases with⟨x1,u1,v1,r1,rfl,b1,V1,R1⟩|⟨u1,r1,rfl,b1⟩
 rotate_left 1
 · exact yR
 have hu:=D (HD.out _ r1);replace HS:=bY HS r1;replace Z:=D (bS (w2:=w1) Z.out qe);replace HB:F (Bt g w w1):=D qh;replace HR:=D R1;clear b1 R1;clear r1 h1 HD;obtain rfl:=V1;have hz1:=Z.out.lt;go_wp2_with fail;refine(HX.out _ _ (HR.out.low qe) hu.out).mono ?_;rintro e w2 h2;rcases h2.cases with⟨x2,u2,v2,r2,rfl,b2,V2,R2⟩|⟨u2,r2,rfl,b2⟩
 rotate_left 1
 · exact yR
 replace HS:=bY HS r2;replace Z:=D (bS (w2:=w2) Z.out qe);replace HB:F (Bt g w w2):=D qh;replace HR:=D R2;clear b2 R2;clear r2 h2;obtain⟨p2,m2,c2,rfl,k2⟩:=V2;have jJ:F (bW (fun b=>w.heap.size<b) w2 x2 p2 m2):=D (k2.mono fun b hb hlt=>XL);clear k2;dsimp only [cu];have Y:=D (bT.new (w:=w2) (t:=41) (c:=cu x2 p2 m2 c2));dsimp only [cu] at Y;have hz2:=Z.out.lt;go_wp2_with fail;refine(gW _ _ (HR.out.low qe) (by decide)).mono ?_;rintro e w3 h3;rcases h3.cases with⟨x3,u3,v3,r3,rfl,b3,V3,R3⟩|⟨u3,r3,rfl,b3⟩
 rotate_left 1
 · exact yR
 replace HS:=bY HS r3;replace Z:=D (bS (w2:=w3) Z.out qe);replace Y:=D (bS (w2:=w3) Y.out qe);replace jJ:=D (jB (w2:=w3) jJ.out qe);replace HB:F (Bt g w w3):=D qh;replace HR:=D R3;clear b3 R3;clear r3 h3;obtain rfl:=V3;have l0:U _ ⟨_,0,V⟩=E (.int .i64 x2.o):=Y.out.get rfl;have l1:U _ ⟨_,1,V⟩=E (.string x2.s):=Y.out.get rfl;have l2:U _ ⟨_,2,V⟩=E (.int .i64 x2.n):=Y.out.get rfl;have l3:U _ ⟨_,3,V⟩=E (.slice p2 m2 c2):=Y.out.get rfl;go_wp2_with fail;refine(yB _ _ _ _ _).mono ?_;rintro e w4 ⟨rfl,hb4⟩;have b4:Bt g _ w4:=bR.of hb4;have R4:Rd L g u3 w4:=HR.out.low (by have q:Lw g _ w4:=bR.of hb4;exact qe);have hz3:=Z.out.lt;have KN:F (bW (fun b=>w.heap.size<b) w4 (uh o x2) (E ⟨w3.heap.size,0,V⟩) 1):=D (Ex.bW.map hb4.size (fun b hb hlt=>⟨hb,hb4.block b hlt⟩) _ (JZ (c:=c2) o jJ.out hz3));replace Z:=D (bS (w2:=w4) Z.out qe);replace HB:F (Bt g w w4):=D qh;replace HR:=D R4;clear b4 R4;clear hb4 l0 l1 l2 l3;have y0:U _ ⟨_,0,V⟩=E (.int .i64 0):=Z.out.get rfl;have y1:U _ ⟨_,1,V⟩=E (.string ⟨#[]⟩):=Z.out.get rfl;have y2:U _ ⟨_,2,V⟩=E (.int .i64 0):=Z.out.get rfl;have y3:U _ ⟨_,3,V⟩=E (.slice V 0 0):=Z.out.get rfl;have fz:∀i,af _ ⟨_,i,V⟩=false:=fun i=>df (i:=i) Z.out;go_wp2_with fail;have bU:=HB.out;refine ae (v:=.agg (cu (uh o x2) (E ⟨w3.heap.size,0,V⟩) 1 1)) ?_ rfl (PO.ok (dA HS) qe ⟨(E ⟨w3.heap.size,0,V⟩),1,1,rfl,?_⟩ (HR.out.low qe))
 · exact XK
 · have KK:=KN.out;exact gX KK qe
set_option maxRecDepth 100000 in
theorem aef (hX:XC L g n) (o:Int) (w:ah) (hR:Rd L g t w) (hn:t.length<=n):aj ag 230 #[.pointer (E ⟨g,0,V⟩),.int .i64 o] w (PO L g VX (run (two (fE n) o) t) w):=by
 have HX:=D hX.xe;have HD:F (∀u,run (exp mY) t=.ok () u->u.length<n):=D fun u h=>by have:=((Dn.exp (by decide):Dn 1 (exp mY)).out hR.gd h).2;omega
 have HD2:F (∀u v x,Gd u->u.length<n->run (fE n) u=.ok x v->v.length<n):=D fun u v x hg hl h=>by have:=((S9 n).out hg h).2;omega
 have HD3:F (∀u v,Gd u->u.length<n->run (exp yS) u=.ok () v->v.length<n):=D fun u v hg hl h=>by have:=((Dn.exp (by decide):Dn 1 (exp yS)).out hg h).2;omega
 clear hX hn;obtain⟨r,hr⟩:∃r,run (two (fE n) o) t=r:=⟨_,rfl⟩
 rw[hr];have HS:=D hr;have hg:=hR.blk;have HR:=D hR;have HB:F (Bt g w w):=D (bR.refl _ _);clear hR hr;have Z:=D (bT.new (w:=w) (t:=41) (c:=#[.int .i64 0,.string ⟨#[]⟩,.int .i64 0,.slice V 0 0]));go_enter Tryz.func230,Tryz.ntmps230;go_wp2_with fail;refine(gW _ _ (HR.out.low qe) (by decide)).mono ?_;rintro e w1 h1;rcases h1.cases with⟨x1,u1,v1,r1,rfl,b1,V1,R1⟩|⟨u1,r1,rfl,b1⟩
 rotate_left 1
 · exact yR
 have hu:=D (HD.out _ r1);replace HS:=bY HS r1;replace Z:=D (bS (w2:=w1) Z.out qe);replace HB:F (Bt g w w1):=D qh;replace HR:=D R1;clear b1 R1;clear r1 h1 HD;obtain rfl:=V1;have hz1:=Z.out.lt;go_wp2_with fail;refine(HX.out _ _ (HR.out.low qe) hu.out).mono ?_;rintro e w2 h2;rcases h2.cases with⟨x2,u2,v2,r2,rfl,b2,V2,R2⟩|⟨u2,r2,rfl,b2⟩
 rotate_left 1
 · exact yR
 replace hu:=D (HD2.out _ _ _ HR.out.gd hu.out r2);replace HS:=bY HS r2;replace Z:=D (bS (w2:=w2) Z.out qe);replace HB:F (Bt g w w2):=D qh;replace HR:=D R2;clear b2 R2;clear r2 h2 HD2;obtain⟨p2,m2,c2,rfl,k2⟩:=V2;have jJ:F (bW (fun b=>w.heap.size<b) w2 x2 p2 m2):=D (k2.mono fun b hb hlt=>XL);clear k2;dsimp only [cu];have Y:=D (bT.new (w:=w2) (t:=41) (c:=cu x2 p2 m2 c2));dsimp only [cu] at Y;have hz2:=Z.out.lt;go_wp2_with fail;refine(gW _ _ (HR.out.low qe) (by decide)).mono ?_;rintro e w3 h3;rcases h3.cases with⟨x3,u3,v3,r3,rfl,b3,V3,R3⟩|⟨u3,r3,rfl,b3⟩
 rotate_left 1
 · exact yR
 replace hu:=D (HD3.out _ _ HR.out.gd hu.out r3);replace HS:=bY HS r3;replace Z:=D (bS (w2:=w3) Z.out qe);replace Y:=D (bS (w2:=w3) Y.out qe);replace jJ:=D (jB (w2:=w3) jJ.out qe);replace HB:F (Bt g w w3):=D qh;replace HR:=D R3;clear b3 R3;clear r3 h3 HD3;obtain rfl:=V3;have hz3:=Z.out.lt;have hy3:=Y.out.lt;go_wp2_with fail;refine(HX.out _ _ (HR.out.low qe) hu.out).mono ?_;rintro e w4 h4;rcases h4.cases with⟨x4,u4,v4,r4,rfl,b4,V4,R4⟩|⟨u4,r4,rfl,b4⟩
 rotate_left 1
 · exact yR
 replace HS:=bY HS r4;replace Z:=D (bS (w2:=w4) Z.out qe);replace Y:=D (bS (w2:=w4) Y.out qe);replace jJ:=D (jB (w2:=w4) jJ.out qe);replace HB:F (Bt g w w4):=D qh;replace HR:=D R4;clear b4 R4;clear r4 h4;obtain⟨p4,m4,c4,rfl,k4⟩:=V4;have RG:F (bW (fun b=>w.heap.size<b) w4 x4 p4 m4):=D (k4.mono fun b hb hlt=>XL);clear k4;dsimp only [cu];have X:=D (bT.new (w:=w4) (t:=41) (c:=cu x4 p4 m4 c4));dsimp only [cu] at X;have sH:=Z.out.lt;have hy4:=Y.out.lt;go_wp2_with fail;refine(gW _ _ (HR.out.low qe) (by decide)).mono ?_;rintro e w5 h5;rcases h5.cases with⟨x5,u5,v5,r5,rfl,b5,V5,R5⟩|⟨u5,r5,rfl,b5⟩
 rotate_left 1
 · exact yR
 replace HS:=bY HS r5;replace Z:=D (bS (w2:=w5) Z.out qe);replace Y:=D (bS (w2:=w5) Y.out qe);replace jJ:=D (jB (w2:=w5) jJ.out qe);replace RG:=D (jB (w2:=w5) RG.out qe);replace X:=D (bS (w2:=w5) X.out qe);replace HB:F (Bt g w w5):=D qh;replace HR:=D R5;clear b5 R5;clear r5 h5;obtain rfl:=V5;have l0:U _ ⟨_,0,V⟩=E (.int .i64 x2.o):=Y.out.get rfl;have l1:U _ ⟨_,1,V⟩=E (.string x2.s):=Y.out.get rfl;have l2:U _ ⟨_,2,V⟩=E (.int .i64 x2.n):=Y.out.get rfl;have l3:U _ ⟨_,3,V⟩=E (.slice p2 m2 c2):=Y.out.get rfl;have j0:U _ ⟨_,0,V⟩=E (.int .i64 x4.o):=X.out.get rfl;have j1:U _ ⟨_,1,V⟩=E (.string x4.s):=X.out.get rfl;have j2:U _ ⟨_,2,V⟩=E (.int .i64 x4.n):=X.out.get rfl;have j3:U _ ⟨_,3,V⟩=E (.slice p4 m4 c4):=X.out.get rfl;go_wp2_with fail;refine(yB _ _ _ _ _).mono ?_;rintro e w6 ⟨rfl,hb6⟩;have b6:Bt g _ w6:=bR.of hb6;have R6:Rd L g u5 w6:=HR.out.low (by have q:Lw g _ w6:=bR.of hb6;exact qe);have Um:=Z.out.lt;have KN:F (bW (fun b=>w.heap.size<b) w6 (jl o x2 x4) (E ⟨w5.heap.size,0,V⟩) 2):=D (Ex.bW.map hb6.size (fun b hb hlt=>⟨hb,hb6.block b hlt⟩) _ (yw (c:=c2) (d:=c4) o jJ.out RG.out Um));replace Z:=D (bS (w2:=w6) Z.out qe);replace HB:F (Bt g w w6):=D qh;replace HR:=D R6;clear b6 R6;clear hb6 l0 l1 l2 l3 j0 j1 j2 j3;have y0:U _ ⟨_,0,V⟩=E (.int .i64 0):=Z.out.get rfl;have y1:U _ ⟨_,1,V⟩=E (.string ⟨#[]⟩):=Z.out.get rfl;have y2:U _ ⟨_,2,V⟩=E (.int .i64 0):=Z.out.get rfl;have y3:U _ ⟨_,3,V⟩=E (.slice V 0 0):=Z.out.get rfl;have fz:∀i,af _ ⟨_,i,V⟩=false:=fun i=>df (i:=i) Z.out;go_wp2_with fail;have bU:=HB.out;refine ae (v:=.agg (cu (jl o x2 x4) (E ⟨w5.heap.size,0,V⟩) 2 2)) ?_ rfl (PO.ok (dA HS) qe ⟨(E ⟨w5.heap.size,0,V⟩),2,2,rfl,?_⟩ (HR.out.low qe))
 · exact XK
 · have KK:=KN.out;exact gX KK qe
set_option maxRecDepth 100000 in
theorem U2 (o:Int) (w:ah) (hR:Rd L g t w):aj ag 231 #[.pointer (E ⟨g,0,V⟩),.int .i64 o] w (PO L g VX (run (zF o) t) w):=by
 obtain⟨r,hr⟩:∃r,run (zF o) t=r:=⟨_,rfl⟩
 rw[hr];have HS:=D hr;have hg:=hR.blk;have HR:=D hR;have HB:F (Bt g w w):=D (bR.refl _ _);clear hR hr;have Z:=D (bT.new (w:=w) (t:=41) (c:=#[.int .i64 0,.string ⟨#[]⟩,.int .i64 0,.slice V 0 0]));go_enter Tryz.func231,Tryz.ntmps231;go_wp2_with fail;refine(gW _ _ (HR.out.low qe) (by decide)).mono ?_;rintro e w1 h1;rcases h1.cases with⟨x1,u1,v1,r1,rfl,b1,V1,R1⟩|⟨u1,r1,rfl,b1⟩
 rotate_left 1
 · exact yR
 replace HS:=bY HS r1;replace Z:=D (bS (w2:=w1) Z.out qe);replace HB:F (Bt g w w1):=D qh;replace HR:=D R1;clear b1 R1;clear r1 h1;obtain rfl:=V1;have hz1:=Z.out.lt;go_wp2_with fail;refine(jR _ (HR.out.low qe)).mono ?_;rintro e w2 h2;rcases h2.cases with⟨x2,u2,v2,r2,rfl,b2,V2,R2⟩|⟨u2,r2,rfl,b2⟩
 rotate_left 1
 · exact yR
 replace HS:=bY HS r2;replace Z:=D (bS (w2:=w2) Z.out qe);replace HB:F (Bt g w w2):=D qh;replace HR:=D R2;clear b2 R2;clear r2 h2;obtain rfl:=V2;have hz2:=Z.out.lt;go_wp2_with fail;refine(gW _ _ (HR.out.low qe) (by decide)).mono ?_;rintro e w3 h3;rcases h3.cases with⟨x3,u3,v3,r3,rfl,b3,V3,R3⟩|⟨u3,r3,rfl,b3⟩
 rotate_left 1
 · exact yR
 replace HS:=bY HS r3;replace Z:=D (bS (w2:=w3) Z.out qe);replace HB:F (Bt g w w3):=D qh;replace HR:=D R3;clear b3 R3;clear r3 h3;obtain rfl:=V3;have hz3:=Z.out.lt;have y0:U _ ⟨_,0,V⟩=E (.int .i64 0):=Z.out.get rfl;have y1:U _ ⟨_,1,V⟩=E (.string ⟨#[]⟩):=Z.out.get rfl;have y2:U _ ⟨_,2,V⟩=E (.int .i64 0):=Z.out.get rfl;have y3:U _ ⟨_,3,V⟩=E (.slice V 0 0):=Z.out.get rfl;have fz:∀i,af _ ⟨_,i,V⟩=false:=fun i=>df (i:=i) Z.out;have KN:F (bW (fun b=>w.heap.size<b) w3 (A9 o x2) V 0):=D bW.zero;go_wp2_with fail;have bU:=HB.out;refine ae (v:=.agg (cu (A9 o x2) (V) 0 0)) ?_ rfl (PO.ok (dA HS) qe ⟨(V),0,0,rfl,?_⟩ (HR.out.low qe))
 · exact XK
 · have KK:=KN.out;exact gX KK qe
end
end Ps
namespace Ps
open Ps.P (rt bd exp len)
open Go.RowKit
open Lx (Tk)
open Ex (Ex bW ry Gn)
open Md (bT)
set_option maxHeartbeats 2000000
theorem aoL {d:Nat} {e:Ex} (h:¬d=4∨¬e.o=5):neg d e=e:=by
 unfold neg
 split
 · rcases h with h|h
   · exact absurd rfl h
   · exact absurd rfl h
 · rfl
theorem aoM {s:ByteArray} {m:Int} {y:Ex} (h:¬y.o=1):neg 4 (.mk 5 s m [y])=.mk 5 s m [y]:=by
 unfold neg
 split
 · rename_i h1;injection h1 with _ _ _ h1;injection h1 with h1;rw[h1] at h;exact absurd rfl h
 · rfl
theorem aoN {s:ByteArray} {m:Int} {y:Ex} (h:y.o=1):neg 4 (.mk 5 s m [y])=iO 1 (-y.n):=by
 obtain⟨o,s',n',l'⟩:=y;have h:o=1:=h;subst h;rfl
section
variable {L:Lk} {g:Nat} {t:List Tk} {n:Nat}
theorem XM {p:Prop} (h:p:=by
 exact ai rfl _ _ w.heap.size 41 _ (0,0) _ rfl (lu Z.out rfl) Tryz.underlying41 rfl (by kernel_rfl)
 ):p:=h
theorem af6 {p:Prop} (h:p:=by
 have l0:U _ ⟨_,0,V⟩=E (.int .i64 x2.o):=Y.out.get rfl;have l1:U _ ⟨_,1,V⟩=E (.string x2.s):=Y.out.get rfl;have l2:U _ ⟨_,2,V⟩=E (.int .i64 x2.n):=Y.out.get rfl;have l3:U _ ⟨_,3,V⟩=E (.slice p2 m2 c2):=Y.out.get rfl;have y0:U _ ⟨_,0,V⟩=E (.int .i64 0):=Z.out.get rfl;have y1:U _ ⟨_,1,V⟩=E (.string ⟨#[]⟩):=Z.out.get rfl;have y2:U _ ⟨_,2,V⟩=E (.int .i64 0):=Z.out.get rfl;have y3:U _ ⟨_,3,V⟩=E (.slice V 0 0):=Z.out.get rfl;have fz:∀i,af _ ⟨_,i,V⟩=false:=fun i=>df (i:=i) Z.out;go_wp2_with fail;have bU:=HB.out;refine ae (v:=.agg (cu (x2) (p2) m2 c2)) ?_ rfl (PO.ok (by rw[HG.out.2 _ _ (dA HS),wo.out,aoL YF.out]) qe ⟨(p2),m2,c2,rfl,?_⟩ (HR.out.low qe))
 · exact XM
 · have KK:=jJ.out;exact gX KK qe
 ):p:=h
set_option maxRecDepth 100000 in
theorem amU (hX:XC L g n) (hQ:∀u x v,Gd u->run (fE n) u=.ok x v->x.o=5->∃s m y,x=.mk 5 s m [y]/\-1000000000000<=y.n/\y.n<=1000000000000) (w:ah) (hR:Rd L g t w) (hn:t.length<=n):aj ag 232 #[.pointer (E ⟨g,0,V⟩)] w (PO L g VX (run (AB (fE n)) t) w):=by
 have HX:=D hX.xe;have HD:F (∀u,run (exp mY) t=.ok () u->u.length<n/\u.length+1=t.length):=D fun u h=>by
  have h1:=((Dn.exp (by decide):Dn 1 (exp mY)).out hR.gd h).2;have h2:=hR.gd.ne
  cases hi:is mY t with
  | true=>rw[Oi hi] at h;cases h;have:=List.length_tail (l:=t);omega
  | false=>rw[Oh hi] at h;cases h
 have HQ:=D hQ;have BP:=D hR.len;have HFW:=D hR.few;have h1:=hR.c1;obtain⟨rr,hrr⟩:∃rr,run (AB (fE n)) t=rr:=⟨_,rfl⟩
 rw[hrr];unfold AB at hrr;obtain⟨r,hr⟩:∃r,run (bd (exp mY) fun _=>bd (fE n) fun e=>bd (exp yU) fun _=>rt e) t=r:=⟨_,rfl⟩
 have HG:F ((∀u,r=.no u->rr=.no u)/\∀x u,r=.ok x u->rr=.ok (neg (t.length-u.length) x) u):=D ⟨fun u h=>hrr.symm.trans (OV (hr.trans h)),fun x u h=>hrr.symm.trans (OW (hr.trans h))⟩;have HS:=D hr;have hg:=hR.blk;have HR:=D hR;have HB:F (Bt g w w):=D (bR.refl _ _);obtain⟨j,hj⟩:∃j,L.at t=j:=⟨_,rfl⟩
 have HJ:=D hj;rw[hj] at h1;clear hX hQ hn hr hrr hR hj;have Z:=D (bT.new (w:=w) (t:=41) (c:=#[.int .i64 0,.string ⟨#[]⟩,.int .i64 0,.slice V 0 0]));have h1':(w.alloc (.cells #[.int .i64 0,.string ⟨#[]⟩,.int .i64 0,.slice V 0 0] 41)).cell? ⟨g,1,V⟩=E (.int .i64 (j:Int)):=by
  have hq:=HR.out.c1;rw[HJ.out] at hq;rw[World.cell?_of_block (w:=w) (a:=⟨g,1,V⟩) (by show(w.heap.push _)[g]?=_;rw[Array.getElem?_push,if_neg (by omega)])];exact hq
 clear h1;go_enter Tryz.func232,Tryz.ntmps232;go_wp2_with fail;clear h1';refine(gW _ _ (HR.out.low qe) (by decide)).mono ?_;rintro e w1 h1;rcases h1.cases with⟨x1,u1,v1,r1,rfl,b1,V1,R1⟩|⟨u1,r1,rfl,b1⟩
 rotate_left 1
 · have bU:=HB.out;go_wp2_with fail;exact⟨rfl,PO.no (HG.out.1 _ (dJ HS r1)) qe⟩
 replace HS:=bY HS r1;replace Z:=D (bS (w2:=w1) Z.out qe);replace HB:F (Bt g w w1):=D qh;replace HR:=D R1;clear b1 R1;clear h1;have hu:=D (HD.out _ r1);clear r1 HD;obtain rfl:=V1;have hz1:=Z.out.lt;go_wp2_with fail;have G1:=D HR.out.gd;refine(HX.out _ _ (HR.out.low qe) hu.out.1).mono ?_;rintro e w2 h2;rcases h2.cases with⟨x2,u2,v2,r2,rfl,b2,V2,R2⟩|⟨u2,r2,rfl,b2⟩
 rotate_left 1
 · have bU:=HB.out;go_wp2_with fail;exact⟨rfl,PO.no (HG.out.1 _ (dJ HS r2)) qe⟩
 replace HS:=bY HS r2;replace Z:=D (bS (w2:=w2) Z.out qe);replace HB:F (Bt g w w2):=D qh;replace HR:=D R2;clear b2 R2;clear h2;obtain⟨p2,m2,c2,rfl,k2⟩:=V2;have jJ:F (bW (fun b=>w.heap.size<b) w2 x2 p2 m2):=D (k2.mono fun b hb hlt=>(by have hb':_<=b:=hb;first|(simp at hb';omega)|omega));clear k2;dsimp only [cu];have Rv:F (x2.o=5->∃s m y,x2=.mk 5 s m [y]/\-1000000000000<=y.n/\y.n<=1000000000000):=D (HQ.out _ _ _ G1.out r2);have Y:=D (bT.new (w:=w2) (t:=41) (c:=cu x2 p2 m2 c2));dsimp only [cu] at Y;have hz2:=Z.out.lt;have hle2:=D ((S9 n).out G1.out r2).2;have G2:=D HR.out.gd;clear r2 G1 HQ;go_wp2_with fail;refine(gW _ _ (HR.out.low qe) (by decide)).mono ?_;rintro e w3 h3;rcases h3.cases with⟨x3,u3,v3,r3,rfl,b3,V3,R3⟩|⟨u3,r3,rfl,b3⟩
 rotate_left 1
 · have bU:=HB.out;go_wp2_with fail;exact⟨rfl,PO.no (HG.out.1 _ (dJ HS r3)) qe⟩
 replace HS:=bY HS r3;replace Z:=D (bS (w2:=w3) Z.out qe);replace Y:=D (bS (w2:=w3) Y.out qe);replace jJ:=D (jB (w2:=w3) jJ.out qe);replace HB:F (Bt g w w3):=D qh;replace HR:=D R3;clear b3 R3;clear h3;have hle3:=D ((Dn.exp (by decide):Dn 1 (exp yU)).out G2.out r3).2;clear r3;obtain rfl:=V3;have hz3:=Z.out.lt;have hy3:=Y.out.lt;have n1:=HR.out.c1;obtain⟨j3,Ud⟩:∃j3,L.at u3=j3:=⟨_,rfl⟩
 rw[Ud] at n1;obtain⟨d,hd⟩:∃d,t.length-u3.length=d:=⟨_,rfl⟩
 have hlen:=HR.out.len.1;have aco:=BP.out.1;have nu:=HFW.out;have hJ:=HJ.out;rw[Ud] at hlen;rw[hJ] at aco;have hle:u3.length<=t.length:=by have h1:=hle2.out;have h2:=hu.out;have h3:=hle3.out;omega
 have hw:IntKind.i64.wrap ((j3:Int)-(j:Int))=(d:Int):=by rw[IntKind.wrap_i64];omega
 have wo:=D hd;clear Ud hd hlen aco nu hJ hle;by_cases h4:d=4
 · have b4:((d:Int)==4)=true:=by simp[h4]
   by_cases h5:x2.o=5
   · obtain⟨s5,m5,y,hxy,yl,yh⟩:=Rv.out h5;subst hxy;subst h4;obtain⟨kl,km,k0|⟨b,o',rfl,hgb,hbl,hcc⟩⟩:=ry.1 jJ.out
     · have kl:1=m2:=kl;omega
     have kl:1=m2:=kl;subst kl;obtain⟨q,jj,cc,hc4,hkk⟩:=hcc.out 0 (by simp);obtain⟨e0,e1,e2,e3⟩:=hc4;simp only[Nat.zero_mul,Nat.add_zero,List.getElem_cons_zero] at e0 e1 e2 e3;have b5:((5:Int)==5)=true:=rfl;have l0:U _ ⟨_,0,V⟩=E (.int .i64 (Ex.mk 5 s5 m5 [y]).o):=Y.out.get rfl;have l1:U _ ⟨_,1,V⟩=E (.string (Ex.mk 5 s5 m5 [y]).s):=Y.out.get rfl;have l2:U _ ⟨_,2,V⟩=E (.int .i64 (Ex.mk 5 s5 m5 [y]).n):=Y.out.get rfl;have l3:U _ ⟨_,3,V⟩=E (.slice (E ⟨b,o',V⟩) 1 c2):=Y.out.get rfl;simp only[Ex.o,Ex.s,Ex.n] at l0 l1 l2;by_cases h6:y.o=1
     · have b6:(y.o==1)=true:=by simp[h6]
       have hw2:wrap64 (-y.n) = -y.n:=by unfold wrap64;omega
       have Rt:F (neg 4 (Ex.mk 5 s5 m5 [y])=iO 1 (-y.n)):=D (aoN h6);clear h5 h6 e1 e3 hkk hcc;go_wp2_with fail;refine(Gn (-y.n) _).mono ?_;rintro e w4 ⟨rfl,hb4⟩;have b4:Bt g _ w4:=bR.of hb4;have R4:Rd L g u3 w4:=HR.out.low (by have q:Lw g _ w4:=bR.of hb4;exact qe);replace Z:=D (bS (w2:=w4) Z.out qe);replace HB:F (Bt g w w4):=D qh;replace HR:=D R4;clear b4 R4;clear hb4;have y0:U _ ⟨_,0,V⟩=E (.int .i64 0):=Z.out.get rfl;have y1:U _ ⟨_,1,V⟩=E (.string ⟨#[]⟩):=Z.out.get rfl;have y2:U _ ⟨_,2,V⟩=E (.int .i64 0):=Z.out.get rfl;have y3:U _ ⟨_,3,V⟩=E (.slice V 0 0):=Z.out.get rfl;have fz:∀i,af _ ⟨_,i,V⟩=false:=fun i=>df (i:=i) Z.out;go_wp2_with fail;have KC:F (bW (fun b=>w.heap.size<b) w4 (iO 1 (-y.n)) V 0):=D Ex.bW.zero;have bU:=HB.out;refine ae (v:=.agg (cu (iO 1 (-y.n)) (V) 0 0)) ?_ rfl (PO.ok (by rw[HG.out.2 _ _ (dA HS),wo.out,Rt.out]) qe ⟨(V),0,0,rfl,?_⟩ (HR.out.low qe))
       · exact XM
       · have KK:=KC.out;exact gX KK qe
     · have b6:(y.o==1)=false:=by simp[h6]
       have Rt:F (neg 4 (Ex.mk 5 s5 m5 [y])=Ex.mk 5 s5 m5 [y]):=D (aoM h6);clear h5 h6 e1 e3 e2 hkk hcc;have y0:U _ ⟨_,0,V⟩=E (.int .i64 0):=Z.out.get rfl;have y1:U _ ⟨_,1,V⟩=E (.string ⟨#[]⟩):=Z.out.get rfl;have y2:U _ ⟨_,2,V⟩=E (.int .i64 0):=Z.out.get rfl;have y3:U _ ⟨_,3,V⟩=E (.slice V 0 0):=Z.out.get rfl;have fz:∀i,af _ ⟨_,i,V⟩=false:=fun i=>df (i:=i) Z.out;go_wp2_with fail;have bU:=HB.out;refine ae (v:=.agg (cu (Ex.mk 5 s5 m5 [y]) (E ⟨b,o',V⟩) 1 c2)) ?_ rfl (PO.ok (by rw[HG.out.2 _ _ (dA HS),wo.out,Rt.out]) qe ⟨(E ⟨b,o',V⟩),1,c2,rfl,?_⟩ (HR.out.low qe))
       · exact XM
       · have KK:=jJ.out;exact gX KK qe
   · have b5:(x2.o==5)=false:=by simp[h5]
     have YF:F (¬d=4∨¬x2.o=5):=D (.inr h5);clear h4 h5;exact af6
 · have b4:((d:Int)==4)=false:=by simp;omega
   have YF:F (¬d=4∨¬x2.o=5):=D (.inl h4);clear h4;exact af6
end
end Ps
namespace Ps
open Go.RowKit
open Lx (Tk)
open Ex (Ex bW ry Gn SL NP)
open Md (bT)
set_option maxHeartbeats 300000
theorem Z8 {n:Int} (h:n=0∨n=1):NP 2 n=iO 2 n:=by
 rcases h with rfl|rfl <;> rfl
section
variable {L:Lk} {g:Nat} {t:List Tk} {n:Nat}
theorem tK {p:Prop} (h:p:=by
 exact ai rfl _ _ w.heap.size 41 _ (0,0) _ rfl (lu Z.out rfl) Tryz.underlying41 rfl (by kernel_rfl)
 ):p:=h
theorem LW {p:Prop} (h:p:=by
 have bU:=HB.out;go_wp2_with fail;exact⟨rfl,PO.no (dJ HS (by assumption)) qe⟩
 ):p:=h
theorem zY {p:Prop} (h:p:=by have hb':_<=b:=hb;first|(simp at hb';omega)|omega):p:=h
set_option maxRecDepth 100000 in
theorem apJ (hX:XC L g n) (hQ:∀u x v,Gd u->run (fE n) u=.ok x v->x.o=5->∃s m y,x=.mk 5 s m [y]/\-1000000000000<=y.n/\y.n<=1000000000000) (w:ah) (hR:Rd L g t w) (hn:t.length<=n):aj ag 223 #[.pointer (E ⟨g,0,V⟩)] w (PO L g VX (run (De (fE n)) t) w):=by
 have HX:=D hX;have HQ:=D hQ;have HN:=D hn;have MC:F (t.tail.length<=n):=D (by rw[List.length_tail];omega);have fk:=Oo (hd t).k (hd t).n (hd t).l (hd t).t;clear hX hQ hn;obtain⟨r,hr⟩:∃r,run (De (fE n)) t=r:=⟨_,rfl⟩
 rw[hr];have HS:=D hr;have hg:=hR.blk;have HR:=D hR;have HB:F (Bt g w w):=D (bR.refl _ _);clear hR hr;have Z:=D (bT.new (w:=w) (t:=41) (c:=#[.int .i64 0,.string ⟨#[]⟩,.int .i64 0,.slice V 0 0]));go_enter Tryz.func223,Tryz.ntmps223;go_wp2_with fail;refine(zT _ (HR.out.low qe)).mono ?_;rintro e w1 ⟨rfl,hb1⟩;have b1:Bt g _ w1:=bR.of hb1;have R1:Rd L g _ w1:=HR.out.low (by have q:Lw g _ w1:=bR.of hb1;exact qe);clear hb1;replace Z:=D (bS (w2:=w1) Z.out qe);replace HB:F (Bt g w w1):=D qh;replace HR:=D R1;clear b1 R1;unfold tv;have hz1:=Z.out.lt;by_cases hk:(hd t).k=2
 · have e1:((hd t).k==2)=true:=by simp[hk]
   replace HS:=Wt HS hk;clear hk;go_wp2_with fail;clear fk e1;refine(mh _ (HR.out.low qe)).mono ?_;rintro e w2 h2;rcases h2.cases with⟨x2,u2,v2,r2,rfl,b2,V2,R2⟩|⟨u2,r2,rfl,b2⟩
   rotate_left 1
   · exact LW
   replace HS:=bY HS r2;replace Z:=D (bS (w2:=w2) Z.out qe);replace HB:F (Bt g w w2):=D qh;replace HR:=D R2;clear b2 R2;clear r2 h2;obtain⟨rfl,n0,n1⟩:=V2;go_wp2_with fail;refine(Gn x2 _).mono ?_;rintro e w4 ⟨rfl,hb4⟩;have b4:Bt g _ w4:=bR.of hb4;have R4:Rd L g u2 w4:=HR.out.low (by have q:Lw g _ w4:=bR.of hb4;exact qe);replace Z:=D (bS (w2:=w4) Z.out qe);replace HB:F (Bt g w w4):=D qh;replace HR:=D R4;clear b4 R4;clear hb4;have y0:U _ ⟨_,0,V⟩=E (.int .i64 0):=Z.out.get rfl;have y1:U _ ⟨_,1,V⟩=E (.string ⟨#[]⟩):=Z.out.get rfl;have y2:U _ ⟨_,2,V⟩=E (.int .i64 0):=Z.out.get rfl;have y3:U _ ⟨_,3,V⟩=E (.slice V 0 0):=Z.out.get rfl;have fz:∀i,af _ ⟨_,i,V⟩=false:=fun i=>df (i:=i) Z.out;go_wp2_with fail;have KC:F (bW (fun b=>w.heap.size<b) w4 (iO 1 x2) V 0):=D Ex.bW.zero;have bU:=HB.out;refine ae (v:=.agg (cu (iO 1 x2) (V) 0 0)) ?_ rfl (PO.ok (dA HS) qe ⟨(V),0,0,rfl,?_⟩ (HR.out.low qe))
   · exact tK
   · have KK:=KC.out;exact gX KK qe
 have e1:((hd t).k==2)=false:=by simp[hk]
 replace HS:=Wu HS hk;clear hk;go_wp2_with fail;clear fk e1;refine(qf AL _ (HR.out.low qe)).mono ?_;rintro e w2 ⟨rfl,hb2⟩;have b2:Bt g _ w2:=bR.of hb2;have R2:Rd L g _ w2:=HR.out.low (by have q:Lw g _ w2:=bR.of hb2;exact qe);clear hb2;replace Z:=D (bS (w2:=w2) Z.out qe);replace HB:F (Bt g w w2):=D qh;replace HR:=D R2;clear b2 R2
 cases i2:is AL t
 rotate_left 1
 · replace HS:=Fp HS i2;clear i2;go_wp2_with fail;refine(Qh _ (HR.out.low qe)).mono ?_;rintro e w3 h3;rcases h3.cases with⟨x3,u3,v3,r3,rfl,b3,V3,R3⟩|⟨u3,r3,rfl,b3⟩
   rotate_left 1
   · exact LW
   replace HS:=bY HS r3;replace Z:=D (bS (w2:=w3) Z.out qe);replace HB:F (Bt g w w3):=D qh;replace HR:=D R3;clear b3 R3;clear r3 h3;obtain⟨rfl,n0⟩:=V3;go_wp2_with fail;refine(SL 2 x3 _).mono ?_;rintro e w4 ⟨p4,m4,c4,rfl,hk4,hb4⟩;rw[Z8 n0] at hk4 ⊢;obtain rfl:0=m4:=(ry.1 hk4).1;have b4:Bt g _ w4:=bR.of hb4;have R4:Rd L g u3 w4:=HR.out.low (by have q:Lw g _ w4:=bR.of hb4;exact qe);replace Z:=D (bS (w2:=w4) Z.out qe);replace HB:F (Bt g w w4):=D qh;replace HR:=D R4;clear b4 R4;clear hb4 hk4;have y0:U _ ⟨_,0,V⟩=E (.int .i64 0):=Z.out.get rfl;have y1:U _ ⟨_,1,V⟩=E (.string ⟨#[]⟩):=Z.out.get rfl;have y2:U _ ⟨_,2,V⟩=E (.int .i64 0):=Z.out.get rfl;have y3:U _ ⟨_,3,V⟩=E (.slice V 0 0):=Z.out.get rfl;have fz:∀i,af _ ⟨_,i,V⟩=false:=fun i=>df (i:=i) Z.out;go_wp2_with fail;have KC:F (bW (fun b=>w.heap.size<b) w4 (iO 2 x3) p4 0):=D Ex.bW.zero;have bU:=HB.out;refine ae (v:=.agg (cu (iO 2 x3) (p4) 0 c4)) ?_ rfl (PO.ok (dA HS) qe ⟨(p4),0,c4,rfl,?_⟩ (HR.out.low qe))
   · exact tK
   · have KK:=KC.out;exact gX KK qe
 replace HS:=Fj HS i2;clear i2;go_wp2_with fail;refine(qf Cy _ (HR.out.low qe)).mono ?_;rintro e w3 ⟨rfl,hb3⟩;have b3:Bt g _ w3:=bR.of hb3;have R3:Rd L g _ w3:=HR.out.low (by have q:Lw g _ w3:=bR.of hb3;exact qe);clear hb3;replace Z:=D (bS (w2:=w3) Z.out qe);replace HB:F (Bt g w w3):=D qh;replace HR:=D R3;clear b3 R3
 cases i3:is Cy t
 rotate_left 1
 · replace HS:=Fp HS i3;clear i3;go_wp2_with fail;refine(Qh _ (HR.out.low qe)).mono ?_;rintro e w4 h4;rcases h4.cases with⟨x4,u4,v4,r4,rfl,b4,V4,R4⟩|⟨u4,r4,rfl,b4⟩
   rotate_left 1
   · exact LW
   replace HS:=bY HS r4;replace Z:=D (bS (w2:=w4) Z.out qe);replace HB:F (Bt g w w4):=D qh;replace HR:=D R4;clear b4 R4;clear r4 h4;obtain⟨rfl,n0⟩:=V4;go_wp2_with fail;refine(SL 2 x4 _).mono ?_;rintro e w5 ⟨p5,m5,c5,rfl,hk5,hb5⟩;rw[Z8 n0] at hk5 ⊢;obtain rfl:0=m5:=(ry.1 hk5).1;have b5:Bt g _ w5:=bR.of hb5;have R5:Rd L g u4 w5:=HR.out.low (by have q:Lw g _ w5:=bR.of hb5;exact qe);replace Z:=D (bS (w2:=w5) Z.out qe);replace HB:F (Bt g w w5):=D qh;replace HR:=D R5;clear b5 R5;clear hb5 hk5;have y0:U _ ⟨_,0,V⟩=E (.int .i64 0):=Z.out.get rfl;have y1:U _ ⟨_,1,V⟩=E (.string ⟨#[]⟩):=Z.out.get rfl;have y2:U _ ⟨_,2,V⟩=E (.int .i64 0):=Z.out.get rfl;have y3:U _ ⟨_,3,V⟩=E (.slice V 0 0):=Z.out.get rfl;have fz:∀i,af _ ⟨_,i,V⟩=false:=fun i=>df (i:=i) Z.out;go_wp2_with fail;have KC:F (bW (fun b=>w.heap.size<b) w5 (iO 2 x4) p5 0):=D Ex.bW.zero;have bU:=HB.out;refine ae (v:=.agg (cu (iO 2 x4) (p5) 0 c5)) ?_ rfl (PO.ok (dA HS) qe ⟨(p5),0,c5,rfl,?_⟩ (HR.out.low qe))
   · exact tK
   · have KK:=KC.out;exact gX KK qe
 replace HS:=Fj HS i3;clear i3;go_wp2_with fail;refine(dL adk _ (HR.out.low qe) (by decide)).mono ?_;rintro e w4 ⟨b4,⟨i4,rfl,R4⟩|⟨i4,rfl,R4⟩⟩
 · replace HS:=dY HS i4;replace Z:=D (bS (w2:=w4) Z.out qe);replace HB:F (Bt g w w4):=D qh;replace HR:=D R4;clear b4 R4;clear i4;have y0:U _ ⟨_,0,V⟩=E (.int .i64 0):=Z.out.get rfl;have y1:U _ ⟨_,1,V⟩=E (.string ⟨#[]⟩):=Z.out.get rfl;have y2:U _ ⟨_,2,V⟩=E (.int .i64 0):=Z.out.get rfl;have y3:U _ ⟨_,3,V⟩=E (.slice V 0 0):=Z.out.get rfl;have fz:∀i,af _ ⟨_,i,V⟩=false:=fun i=>df (i:=i) Z.out;go_wp2_with fail;have KC:F (bW (fun b=>w.heap.size<b) w4 (nd0 4) V 0):=D Ex.bW.zero;have bU:=HB.out;refine ae (v:=.agg (cu (nd0 4) (V) 0 0)) ?_ rfl (PO.ok (dA HS) qe ⟨(V),0,0,rfl,?_⟩ (HR.out.low qe))
   · exact tK
   · have KK:=KC.out;exact gX KK qe
 replace HS:=dX HS i4;replace Z:=D (bS (w2:=w4) Z.out qe);replace HB:F (Bt g w w4):=D qh;replace HR:=D R4;clear b4 R4;clear i4;go_wp2_with fail;refine(dL ac9 _ (HR.out.low qe) (by decide)).mono ?_;rintro e w5 ⟨b5,⟨i5,rfl,R5⟩|⟨i5,rfl,R5⟩⟩
 · replace HS:=dY HS i5;replace Z:=D (bS (w2:=w5) Z.out qe);replace HB:F (Bt g w w5):=D qh;replace HR:=D R5;clear b5 R5;clear i5;go_wp2_with fail;have hz6:=Z.out.lt;refine(aee HX.out 7 _ (HR.out.low qe) MC.out).mono ?_;rintro e w6 h6;rcases h6.cases with⟨x6,u6,v6,r6,rfl,b6,V6,R6⟩|⟨u6,r6,rfl,b6⟩
   rotate_left 1
   · have bU:=HB.out;go_wp2_with fail;exact⟨rfl,PO.no (HS.out.symm.trans r6) qe⟩
   have HL6:=D (HS.out.symm.trans r6);replace Z:=D (bS (w2:=w6) Z.out qe);replace HB:F (Bt g w w6):=D qh;replace HR:=D R6;clear b6 R6;clear r6 h6;obtain⟨p6,m6,c6,rfl,k6⟩:=V6;have KX6:F (bW (fun b=>w.heap.size<b) w6 x6 p6 m6):=D (k6.mono fun b hb hlt=>zY);clear k6;dsimp only [cu];have y0:U _ ⟨_,0,V⟩=E (.int .i64 0):=Z.out.get rfl;have y1:U _ ⟨_,1,V⟩=E (.string ⟨#[]⟩):=Z.out.get rfl;have y2:U _ ⟨_,2,V⟩=E (.int .i64 0):=Z.out.get rfl;have y3:U _ ⟨_,3,V⟩=E (.slice V 0 0):=Z.out.get rfl;have fz:∀i,af _ ⟨_,i,V⟩=false:=fun i=>df (i:=i) Z.out;go_wp2_with fail;have bU:=HB.out;refine ae (v:=.agg (cu (x6) (p6) m6 c6)) ?_ rfl (PO.ok HL6.out qe ⟨(p6),m6,c6,rfl,?_⟩ (HR.out.low qe))
   · exact tK
   · have KK:=KX6.out;exact gX KK qe
 replace HS:=dX HS i5;replace Z:=D (bS (w2:=w5) Z.out qe);replace HB:F (Bt g w w5):=D qh;replace HR:=D R5;clear b5 R5;clear i5;go_wp2_with fail;refine(dL adH _ (HR.out.low qe) (by decide)).mono ?_;rintro e w6 ⟨b6,⟨i6,rfl,R6⟩|⟨i6,rfl,R6⟩⟩
 · replace HS:=dY HS i6;replace Z:=D (bS (w2:=w6) Z.out qe);replace HB:F (Bt g w w6):=D qh;replace HR:=D R6;clear b6 R6;clear i6;go_wp2_with fail;have hz7:=Z.out.lt;refine(aee HX.out 8 _ (HR.out.low qe) MC.out).mono ?_;rintro e w7 h7;rcases h7.cases with⟨x7,u7,v7,r7,rfl,b7,V7,R7⟩|⟨u7,r7,rfl,b7⟩
   rotate_left 1
   · have bU:=HB.out;go_wp2_with fail;exact⟨rfl,PO.no (HS.out.symm.trans r7) qe⟩
   have HL7:=D (HS.out.symm.trans r7);replace Z:=D (bS (w2:=w7) Z.out qe);replace HB:F (Bt g w w7):=D qh;replace HR:=D R7;clear b7 R7;clear r7 h7;obtain⟨p7,m7,c7,rfl,k7⟩:=V7;have KX7:F (bW (fun b=>w.heap.size<b) w7 x7 p7 m7):=D (k7.mono fun b hb hlt=>zY);clear k7;dsimp only [cu];have y0:U _ ⟨_,0,V⟩=E (.int .i64 0):=Z.out.get rfl;have y1:U _ ⟨_,1,V⟩=E (.string ⟨#[]⟩):=Z.out.get rfl;have y2:U _ ⟨_,2,V⟩=E (.int .i64 0):=Z.out.get rfl;have y3:U _ ⟨_,3,V⟩=E (.slice V 0 0):=Z.out.get rfl;have fz:∀i,af _ ⟨_,i,V⟩=false:=fun i=>df (i:=i) Z.out;go_wp2_with fail;have bU:=HB.out;refine ae (v:=.agg (cu (x7) (p7) m7 c7)) ?_ rfl (PO.ok HL7.out qe ⟨(p7),m7,c7,rfl,?_⟩ (HR.out.low qe))
   · exact tK
   · have KK:=KX7.out;exact gX KK qe
 replace HS:=dX HS i6;replace Z:=D (bS (w2:=w6) Z.out qe);replace HB:F (Bt g w w6):=D qh;replace HR:=D R6;clear b6 R6;clear i6;go_wp2_with fail;refine(dL adj _ (HR.out.low qe) (by decide)).mono ?_;rintro e w7 ⟨b7,⟨i7,rfl,R7⟩|⟨i7,rfl,R7⟩⟩
 · replace HS:=dY HS i7;replace Z:=D (bS (w2:=w7) Z.out qe);replace HB:F (Bt g w w7):=D qh;replace HR:=D R7;clear b7 R7;clear i7;go_wp2_with fail;have hz8:=Z.out.lt;refine(aef HX.out 20 _ (HR.out.low qe) MC.out).mono ?_;rintro e w8 h8;rcases h8.cases with⟨x8,u8,v8,r8,rfl,b8,V8,R8⟩|⟨u8,r8,rfl,b8⟩
   rotate_left 1
   · have bU:=HB.out;go_wp2_with fail;exact⟨rfl,PO.no (HS.out.symm.trans r8) qe⟩
   have HL8:=D (HS.out.symm.trans r8);replace Z:=D (bS (w2:=w8) Z.out qe);replace HB:F (Bt g w w8):=D qh;replace HR:=D R8;clear b8 R8;clear r8 h8;obtain⟨p8,m8,c8,rfl,k8⟩:=V8;have KX8:F (bW (fun b=>w.heap.size<b) w8 x8 p8 m8):=D (k8.mono fun b hb hlt=>zY);clear k8;dsimp only [cu];have y0:U _ ⟨_,0,V⟩=E (.int .i64 0):=Z.out.get rfl;have y1:U _ ⟨_,1,V⟩=E (.string ⟨#[]⟩):=Z.out.get rfl;have y2:U _ ⟨_,2,V⟩=E (.int .i64 0):=Z.out.get rfl;have y3:U _ ⟨_,3,V⟩=E (.slice V 0 0):=Z.out.get rfl;have fz:∀i,af _ ⟨_,i,V⟩=false:=fun i=>df (i:=i) Z.out;go_wp2_with fail;have bU:=HB.out;refine ae (v:=.agg (cu (x8) (p8) m8 c8)) ?_ rfl (PO.ok HL8.out qe ⟨(p8),m8,c8,rfl,?_⟩ (HR.out.low qe))
   · exact tK
   · have KK:=KX8.out;exact gX KK qe
 replace HS:=dX HS i7;replace Z:=D (bS (w2:=w7) Z.out qe);replace HB:F (Bt g w w7):=D qh;replace HR:=D R7;clear b7 R7;clear i7;go_wp2_with fail;refine(dL adi _ (HR.out.low qe) (by decide)).mono ?_;rintro e w8 ⟨b8,⟨i8,rfl,R8⟩|⟨i8,rfl,R8⟩⟩
 · replace HS:=dY HS i8;replace Z:=D (bS (w2:=w8) Z.out qe);replace HB:F (Bt g w w8):=D qh;replace HR:=D R8;clear b8 R8;clear i8;go_wp2_with fail;have hz9:=Z.out.lt;refine(aef HX.out 21 _ (HR.out.low qe) MC.out).mono ?_;rintro e w9 h9;rcases h9.cases with⟨x9,u9,v9,r9,rfl,b9,V9,R9⟩|⟨u9,r9,rfl,b9⟩
   rotate_left 1
   · have bU:=HB.out;go_wp2_with fail;exact⟨rfl,PO.no (HS.out.symm.trans r9) qe⟩
   have HL9:=D (HS.out.symm.trans r9);replace Z:=D (bS (w2:=w9) Z.out qe);replace HB:F (Bt g w w9):=D qh;replace HR:=D R9;clear b9 R9;clear r9 h9;obtain⟨p9,m9,c9,rfl,k9⟩:=V9;have KX9:F (bW (fun b=>w.heap.size<b) w9 x9 p9 m9):=D (k9.mono fun b hb hlt=>zY);clear k9;dsimp only [cu];have y0:U _ ⟨_,0,V⟩=E (.int .i64 0):=Z.out.get rfl;have y1:U _ ⟨_,1,V⟩=E (.string ⟨#[]⟩):=Z.out.get rfl;have y2:U _ ⟨_,2,V⟩=E (.int .i64 0):=Z.out.get rfl;have y3:U _ ⟨_,3,V⟩=E (.slice V 0 0):=Z.out.get rfl;have fz:∀i,af _ ⟨_,i,V⟩=false:=fun i=>df (i:=i) Z.out;go_wp2_with fail;have bU:=HB.out;refine ae (v:=.agg (cu (x9) (p9) m9 c9)) ?_ rfl (PO.ok HL9.out qe ⟨(p9),m9,c9,rfl,?_⟩ (HR.out.low qe))
   · exact tK
   · have KK:=KX9.out;exact gX KK qe
 replace HS:=dX HS i8;replace Z:=D (bS (w2:=w8) Z.out qe);replace HB:F (Bt g w w8):=D qh;replace HR:=D R8;clear b8 R8;clear i8;go_wp2_with fail;refine(dL ada _ (HR.out.low qe) (by decide)).mono ?_;rintro e w9 ⟨b9,⟨i9,rfl,R9⟩|⟨i9,rfl,R9⟩⟩
 · replace HS:=dY HS i9;replace Z:=D (bS (w2:=w9) Z.out qe);replace HB:F (Bt g w w9):=D qh;replace HR:=D R9;clear b9 R9;clear i9;go_wp2_with fail;have atp:=Z.out.lt;refine(U2 22 _ (HR.out.low qe)).mono ?_;rintro e eX h10;rcases h10.cases with⟨Hg,iP,v10,jC,rfl,b10,Al,jK⟩|⟨iP,jC,rfl,b10⟩
   rotate_left 1
   · have bU:=HB.out;go_wp2_with fail;exact⟨rfl,PO.no (HS.out.symm.trans jC) qe⟩
   have FH:=D (HS.out.symm.trans jC);replace Z:=D (bS (w2:=eX) Z.out qe);replace HB:F (Bt g w eX):=D qh;replace HR:=D jK;clear b10 jK;clear jC h10;obtain⟨oF,m10,c10,rfl,k10⟩:=Al;have ah0:F (bW (fun b=>w.heap.size<b) eX Hg oF m10):=D (k10.mono fun b hb hlt=>zY);clear k10;dsimp only [cu];have y0:U _ ⟨_,0,V⟩=E (.int .i64 0):=Z.out.get rfl;have y1:U _ ⟨_,1,V⟩=E (.string ⟨#[]⟩):=Z.out.get rfl;have y2:U _ ⟨_,2,V⟩=E (.int .i64 0):=Z.out.get rfl;have y3:U _ ⟨_,3,V⟩=E (.slice V 0 0):=Z.out.get rfl;have fz:∀i,af _ ⟨_,i,V⟩=false:=fun i=>df (i:=i) Z.out;go_wp2_with fail;have bU:=HB.out;refine ae (v:=.agg (cu (Hg) (oF) m10 c10)) ?_ rfl (PO.ok FH.out qe ⟨(oF),m10,c10,rfl,?_⟩ (HR.out.low qe))
   · exact tK
   · have KK:=ah0.out;exact gX KK qe
 replace HS:=dX HS i9;replace Z:=D (bS (w2:=w9) Z.out qe);replace HB:F (Bt g w w9):=D qh;replace HR:=D R9;clear b9 R9;clear i9;go_wp2_with fail;refine(dL adz _ (HR.out.low qe) (by decide)).mono ?_;rintro e eX ⟨b10,⟨i10,rfl,jK⟩|⟨i10,rfl,jK⟩⟩
 · replace HS:=dY HS i10;replace Z:=D (bS (w2:=eX) Z.out qe);replace HB:F (Bt g w eX):=D qh;replace HR:=D jK;clear b10 jK;clear i10;go_wp2_with fail;have atv:=Z.out.lt;refine(U2 23 _ (HR.out.low qe)).mono ?_;rintro e iC h11;rcases h11.cases with⟨Xu,jU,v11,rF,rfl,b11,RL,lW⟩|⟨jU,rF,rfl,b11⟩
   rotate_left 1
   · have bU:=HB.out;go_wp2_with fail;exact⟨rfl,PO.no (HS.out.symm.trans rF) qe⟩
   have FI:=D (HS.out.symm.trans rF);replace Z:=D (bS (w2:=iC) Z.out qe);replace HB:F (Bt g w iC):=D qh;replace HR:=D lW;clear b11 lW;clear rF h11;obtain⟨C_,m11,c11,rfl,k11⟩:=RL;have ah1:F (bW (fun b=>w.heap.size<b) iC Xu C_ m11):=D (k11.mono fun b hb hlt=>zY);clear k11;dsimp only [cu];have y0:U _ ⟨_,0,V⟩=E (.int .i64 0):=Z.out.get rfl;have y1:U _ ⟨_,1,V⟩=E (.string ⟨#[]⟩):=Z.out.get rfl;have y2:U _ ⟨_,2,V⟩=E (.int .i64 0):=Z.out.get rfl;have y3:U _ ⟨_,3,V⟩=E (.slice V 0 0):=Z.out.get rfl;have fz:∀i,af _ ⟨_,i,V⟩=false:=fun i=>df (i:=i) Z.out;go_wp2_with fail;have bU:=HB.out;refine ae (v:=.agg (cu (Xu) (C_) m11 c11)) ?_ rfl (PO.ok FI.out qe ⟨(C_),m11,c11,rfl,?_⟩ (HR.out.low qe))
   · exact tK
   · have KK:=ah1.out;exact gX KK qe
 replace HS:=dX HS i10;replace Z:=D (bS (w2:=eX) Z.out qe);replace HB:F (Bt g w eX):=D qh;replace HR:=D jK;clear b10 jK;clear i10;go_wp2_with fail;refine(dL adL _ (HR.out.low qe) (by decide)).mono ?_;rintro e iC ⟨b11,⟨i11,rfl,lW⟩|⟨i11,rfl,lW⟩⟩
 · replace HS:=dY HS i11;replace Z:=D (bS (w2:=iC) Z.out qe);replace HB:F (Bt g w iC):=D qh;replace HR:=D lW;clear b11 lW;clear i11;go_wp2_with fail;have atz:=Z.out.lt;refine(U2 24 _ (HR.out.low qe)).mono ?_;rintro e lK h12;rcases h12.cases with⟨x12,mq,v12,Dl,rfl,b12,V12,qy⟩|⟨mq,Dl,rfl,b12⟩
   rotate_left 1
   · have bU:=HB.out;go_wp2_with fail;exact⟨rfl,PO.no (HS.out.symm.trans Dl) qe⟩
   have FJ:=D (HS.out.symm.trans Dl);replace Z:=D (bS (w2:=lK) Z.out qe);replace HB:F (Bt g w lK):=D qh;replace HR:=D qy;clear b12 qy;clear Dl h12;obtain⟨EP,m12,c12,rfl,k12⟩:=V12;have ah3:F (bW (fun b=>w.heap.size<b) lK x12 EP m12):=D (k12.mono fun b hb hlt=>zY);clear k12;dsimp only [cu];have y0:U _ ⟨_,0,V⟩=E (.int .i64 0):=Z.out.get rfl;have y1:U _ ⟨_,1,V⟩=E (.string ⟨#[]⟩):=Z.out.get rfl;have y2:U _ ⟨_,2,V⟩=E (.int .i64 0):=Z.out.get rfl;have y3:U _ ⟨_,3,V⟩=E (.slice V 0 0):=Z.out.get rfl;have fz:∀i,af _ ⟨_,i,V⟩=false:=fun i=>df (i:=i) Z.out;go_wp2_with fail;have bU:=HB.out;refine ae (v:=.agg (cu (x12) (EP) m12 c12)) ?_ rfl (PO.ok FJ.out qe ⟨(EP),m12,c12,rfl,?_⟩ (HR.out.low qe))
   · exact tK
   · have KK:=ah3.out;exact gX KK qe
 replace HS:=dX HS i11;replace Z:=D (bS (w2:=iC) Z.out qe);replace HB:F (Bt g w iC):=D qh;replace HR:=D lW;clear b11 lW;clear i11;go_wp2_with fail;refine(qf mY _ (HR.out.low qe)).mono ?_;rintro e lK ⟨rfl,Gv⟩;have b12:Bt g _ lK:=bR.of Gv;have qy:Rd L g _ lK:=HR.out.low (by have q:Lw g _ lK:=bR.of Gv;exact qe);clear Gv;replace Z:=D (bS (w2:=lK) Z.out qe);replace HB:F (Bt g w lK):=D qh;replace HR:=D qy;clear b12 qy
 cases i12:is mY t
 rotate_left 1
 · replace HS:=Fp HS i12;clear i12;go_wp2_with fail;have atC:=Z.out.lt;refine(amU HX.out HQ.out _ (HR.out.low qe) HN.out).mono ?_;rintro e xG Es;rcases Es.cases with⟨LP,lg,v13,Be,rfl,b13,RN,xO⟩|⟨lg,Be,rfl,b13⟩
   rotate_left 1
   · have bU:=HB.out;go_wp2_with fail;exact⟨rfl,PO.no (HS.out.symm.trans Be) qe⟩
   have ahI:=D (HS.out.symm.trans Be);replace Z:=D (bS (w2:=xG) Z.out qe);replace HB:F (Bt g w xG):=D qh;replace HR:=D xO;clear b13 xO;clear Be Es;obtain⟨Po,m13,c13,rfl,k13⟩:=RN;have ah4:F (bW (fun b=>w.heap.size<b) xG LP Po m13):=D (k13.mono fun b hb hlt=>zY);clear k13;dsimp only [cu];have y0:U _ ⟨_,0,V⟩=E (.int .i64 0):=Z.out.get rfl;have y1:U _ ⟨_,1,V⟩=E (.string ⟨#[]⟩):=Z.out.get rfl;have y2:U _ ⟨_,2,V⟩=E (.int .i64 0):=Z.out.get rfl;have y3:U _ ⟨_,3,V⟩=E (.slice V 0 0):=Z.out.get rfl;have fz:∀i,af _ ⟨_,i,V⟩=false:=fun i=>df (i:=i) Z.out;go_wp2_with fail;have bU:=HB.out;refine ae (v:=.agg (cu (LP) (Po) m13 c13)) ?_ rfl (PO.ok ahI.out qe ⟨(Po),m13,c13,rfl,?_⟩ (HR.out.low qe))
   · exact tK
   · have KK:=ah4.out;exact gX KK qe
 replace HS:=Fj HS i12;clear i12;go_wp2_with fail;refine(jR _ (HR.out.low qe)).mono ?_;rintro e xG Es;rcases Es.cases with⟨LP,lg,v13,Be,rfl,b13,RN,xO⟩|⟨lg,Be,rfl,b13⟩
 rotate_left 1
 · exact LW
 replace HS:=bY HS Be;replace Z:=D (bS (w2:=xG) Z.out qe);replace HB:F (Bt g w xG):=D qh;replace HR:=D xO;clear b13 xO;clear Be Es;obtain rfl:=RN;have y0:U _ ⟨_,0,V⟩=E (.int .i64 0):=Z.out.get rfl;have y1:U _ ⟨_,1,V⟩=E (.string ⟨#[]⟩):=Z.out.get rfl;have y2:U _ ⟨_,2,V⟩=E (.int .i64 0):=Z.out.get rfl;have y3:U _ ⟨_,3,V⟩=E (.slice V 0 0):=Z.out.get rfl;have fz:∀i,af _ ⟨_,i,V⟩=false:=fun i=>df (i:=i) Z.out;go_wp2_with fail;have KC:F (bW (fun b=>w.heap.size<b) xG (A9 3 LP) V 0):=D Ex.bW.zero;have bU:=HB.out;refine ae (v:=.agg (cu (A9 3 LP) (V) 0 0)) ?_ rfl (PO.ok (dA HS) qe ⟨(V),0,0,rfl,?_⟩ (HR.out.low qe))
 · exact tK
 · have KK:=KC.out;exact gX KK qe
set_option maxRecDepth 100000 in
theorem al5 (hX:XC L g n) (hQ:∀u x v,Gd u->run (fE n) u=.ok x v->x.o=5->∃s m y,x=.mk 5 s m [y]/\-1000000000000<=y.n/\y.n<=1000000000000) (w:ah) (hR:Rd L g t w) (hn:t.length<=n):aj ag 208 #[.pointer (E ⟨g,0,V⟩)] w (PO L g VX (run (x_ (fE n) (fF n)) t) w):=by
 have HX:=D hX;have HQ:=D hQ;have HN:=D hn;have HD:F (is xK t=true->t.tail.length<n):=D fun h=>by have h2:=hR.gd.ne;rw[List.length_tail];omega
 clear hX hQ hn;obtain⟨r,hr⟩:∃r,run (x_ (fE n) (fF n)) t=r:=⟨_,rfl⟩
 rw[hr];have HS:=D hr;have hg:=hR.blk;have HR:=D hR;have HB:F (Bt g w w):=D (bR.refl _ _);clear hR hr;have Z:=D (bT.new (w:=w) (t:=41) (c:=#[.int .i64 0,.string ⟨#[]⟩,.int .i64 0,.slice V 0 0]));go_enter Tryz.func208,Tryz.ntmps208;go_wp2_with fail;refine(dL xK _ (HR.out.low qe) (by decide)).mono ?_;rintro e w1 ⟨b1,⟨i1,rfl,R1⟩|⟨i1,rfl,R1⟩⟩
 · have HT:=D (HD.out i1);replace HS:=dY HS i1;replace Z:=D (bS (w2:=w1) Z.out qe);replace HB:F (Bt g w w1):=D qh;replace HR:=D R1;clear b1 R1;clear i1;go_wp2_with fail;have hz1:=Z.out.lt;refine(HX.out.xf _ _ (HR.out.low qe) HT.out).mono ?_;rintro e w2 h2;rcases h2.cases with⟨x2,u2,v2,r2,rfl,b2,V2,R2⟩|⟨u2,r2,rfl,b2⟩
   rotate_left 1
   · exact LW
   replace HS:=bY HS r2;replace Z:=D (bS (w2:=w2) Z.out qe);replace HB:F (Bt g w w2):=D qh;replace HR:=D R2;clear b2 R2;clear r2 h2;obtain⟨p2,m2,c2,rfl,k2⟩:=V2;have jJ:F (bW (fun b=>w.heap.size<b) w2 x2 p2 m2):=D (k2.mono fun b hb hlt=>zY);clear k2;dsimp only [cu];go_wp2_with fail;refine(yB _ _ _ _ _).mono ?_;rintro e w3 ⟨rfl,hb3⟩;have b3:Bt g _ w3:=bR.of hb3;have R3:Rd L g u2 w3:=HR.out.low (by have q:Lw g _ w3:=bR.of hb3;exact qe);have hzz:=Z.out.lt;have KN:F (bW (fun b=>w.heap.size<b) w3 (uh 5 x2) (E ⟨w2.heap.size,0,V⟩) 1):=D (Ex.bW.map hb3.size (fun b hb hlt=>⟨hb,hb3.block b hlt⟩) _ (JZ (c:=c2) 5 jJ.out hzz));replace Z:=D (bS (w2:=w3) Z.out qe);replace HB:F (Bt g w w3):=D qh;replace HR:=D R3;clear b3 R3;clear hb3;have y0:U _ ⟨_,0,V⟩=E (.int .i64 0):=Z.out.get rfl;have y1:U _ ⟨_,1,V⟩=E (.string ⟨#[]⟩):=Z.out.get rfl;have y2:U _ ⟨_,2,V⟩=E (.int .i64 0):=Z.out.get rfl;have y3:U _ ⟨_,3,V⟩=E (.slice V 0 0):=Z.out.get rfl;have fz:∀i,af _ ⟨_,i,V⟩=false:=fun i=>df (i:=i) Z.out;go_wp2_with fail;have bU:=HB.out;refine ae (v:=.agg (cu (uh 5 x2) (E ⟨w2.heap.size,0,V⟩) 1 1)) ?_ rfl (PO.ok (dA HS) qe ⟨(E ⟨w2.heap.size,0,V⟩),1,1,rfl,?_⟩ (HR.out.low qe))
   · exact tK
   · have KK:=KN.out;exact gX KK qe
 replace HS:=dX HS i1;replace Z:=D (bS (w2:=w1) Z.out qe);replace HB:F (Bt g w w1):=D qh;replace HR:=D R1;clear b1 R1;clear i1;go_wp2_with fail;have hz2:=Z.out.lt;refine(apJ HX.out HQ.out _ (HR.out.low qe) HN.out).mono ?_;rintro e w2 h2;rcases h2.cases with⟨x2,u2,v2,r2,rfl,b2,V2,R2⟩|⟨u2,r2,rfl,b2⟩
 rotate_left 1
 · have bU:=HB.out;go_wp2_with fail;exact⟨rfl,PO.no (HS.out.symm.trans r2) qe⟩
 have HL2:=D (HS.out.symm.trans r2);replace Z:=D (bS (w2:=w2) Z.out qe);replace HB:F (Bt g w w2):=D qh;replace HR:=D R2;clear b2 R2;clear r2 h2;obtain⟨p2,m2,c2,rfl,k2⟩:=V2;have jJ:F (bW (fun b=>w.heap.size<b) w2 x2 p2 m2):=D (k2.mono fun b hb hlt=>zY);clear k2;dsimp only [cu];have y0:U _ ⟨_,0,V⟩=E (.int .i64 0):=Z.out.get rfl;have y1:U _ ⟨_,1,V⟩=E (.string ⟨#[]⟩):=Z.out.get rfl;have y2:U _ ⟨_,2,V⟩=E (.int .i64 0):=Z.out.get rfl;have y3:U _ ⟨_,3,V⟩=E (.slice V 0 0):=Z.out.get rfl;have fz:∀i,af _ ⟨_,i,V⟩=false:=fun i=>df (i:=i) Z.out;go_wp2_with fail;have bU:=HB.out;refine ae (v:=.agg (cu (x2) (p2) m2 c2)) ?_ rfl (PO.ok HL2.out qe ⟨(p2),m2,c2,rfl,?_⟩ (HR.out.low qe))
 · exact tK
 · have KK:=jJ.out;exact gX KK qe
end
end Ps
end Go.Proofs.YtbgodajefaahdaaGreatDoor
