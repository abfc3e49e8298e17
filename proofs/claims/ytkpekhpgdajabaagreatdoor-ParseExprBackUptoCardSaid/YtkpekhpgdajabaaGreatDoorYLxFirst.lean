/-
  Parts of this proof: The contracts of sign, wordSize, signSize, Numbe. The contract of formed. What reading leaves. What Check says of a list; the contracts of plac. The contract of the reference's Check. What holds of all that a rule reads.
-/
import Derived.Test.YtkpekhpgdajabaaGreatDoorYQMath
open Go.Proofs.Tryz
open Bool renaming and_eq_true->ae
open Go renaming World->af
open Go.Proofs.Tryz renaming prog->ag
open Option renaming none->ah,some->ai
set_option linter.unusedVariables false
set_option maxRecDepth 100000
set_option maxHeartbeats 8000000
open Go.Lib (hid)
namespace Go.Proofs.YtkpekhpgdajabaaGreatDoor
namespace Lx
open Nu
open Go.RowKit
theorem anc {s:ByteArray} {c:List UInt8} (h:(s.toList==c)=true) (hc:Bg.contains c=true):true=dG (bs s):=by
 have e:bs s=c:=by
  have g:=eq_of_beq h;rw[Lib.toList_data] at g;exact g
 unfold dG;rw[e,hc]
theorem anb (s:ByteArray):dG (bs s)=Bg.any fun c=>s.toList==c:=by
 unfold dG;simp only[Lib.toList_data];rw[List.contains_eq_any_beq]
theorem ane (s:ByteArray) (w:af):Calls ag 193 #[.string s] w fun e w'=>e=.returned (.bool (dG (bs s)))/\w'=w:=by
 go_enter func193,ntmps193;go_wp2_with fail
 all_goals first
  | exact(clash (by assumption) (by assumption)).elim
  | (go_ret;exact⟨lC (anc (by assumption) bR),rfl⟩)
  | (go_ret;exact⟨lC (by rw[anb];simp only[Bg,List.any_cons,List.any_nil,Bool.or_false, *]),rfl⟩)
def rq (l:List UInt8):Nat:=if dF gN l=0 then 0 else dF kX l
theorem BI {p:Prop} (h:p:=by(repeat (first|(with_reducible exact Below.refl _ _)|(with_reducible assumption)|(with_reducible apply iJ)|(with_reducible apply uy)|(with_reducible apply qJ)|(with_reducible refine yn ?_ (by first|(simp;done)|(simp;omega)) _)|(with_reducible refine rF ?_ (by assumption))))):p:=h
theorem acv {p:Prop} (h:p:=by
 go_wp2_with fail;go_ret;exact YM (by rw[Aq.out];rfl) BI
 ):p:=h
theorem aoz (s:ByteArray) (w:af) (hs:s.size<=9223372036854775807):Calls ag 162 #[.string s] w (Gives (.int .i64 ((rq (bs s):Nat):Int)) w):=by
 have I1:=anq s w hs;have I2:=fun w1=>anr s w1 hs;have HV:Hid (rq (bs s)=if dF gN (bs s)=0 then 0 else dF kX (bs s)):=hid rfl;obtain⟨K,hK⟩:∃K,dF gN (bs s)=K:=⟨_,rfl⟩
 obtain⟨M,hM⟩:∃M,dF kX (bs s)=M:=⟨_,rfl⟩
 rw[hK] at I1;simp only[hM] at I2;rw[hK,hM] at HV;clear hK hM;by_cases h:K=0
 · have Aq:=hid (HV.out.trans (if_pos h));subst h;clear HV;go_enter func162,ntmps162;go_wp2_with fail;refine I1.mono ?_;rintro e w1 ⟨rfl,hb1⟩;exact acv
 · have Aq:=hid (HV.out.trans (if_neg h));have q:((K:Int)==0)=false:=by rw[beq_eq_false_iff_ne];omega
   clear HV;go_enter func162,ntmps162;go_wp2_with fail;refine I1.mono ?_;rintro e w1 ⟨rfl,hb1⟩;go_wp2_with fail;refine(I2 w1).mono ?_;rintro e w2 ⟨rfl,hb2⟩;exact acv
theorem aoA {s:ByteArray} {k:Nat} (h:rq (bs s)=k) (hs:s.size<=9223372036854775807) (w:af):Calls ag 162 #[.string s] w (Gives (.int .i64 (k:Int)) w):=by rw[← h];exact aoz s w hs
def xD (l:List UInt8):Nat:=if 2<=l.length/\dG (l.take 2)=true then 2 else if dG (l.take 1)=true then 1 else 0
def Gs (l:List UInt8) (k m:Nat):Prop:=∀j,k<j->j<=m->dG (l.take j)=false
theorem am9 {l:List UInt8} {k:Nat} (h0:0<k) (hk:k<=min 2 l.length) (h:Gs l k (min 2 l.length)) (e:dG (l.take k)=true):xD l=k:=by
 unfold xD;by_cases h2:k=2
 · subst h2;rw[if_pos ⟨by omega,e⟩]
 · obtain rfl:k=1:=by omega
   rw[if_neg,if_pos e];rintro⟨g1,g2⟩;rw[h 2 bT bT] at g2;cases g2
theorem am_ {l:List UInt8} (h:Gs l 0 (min 2 l.length)):xD l=0:=by
 unfold xD;rw[if_neg,if_neg]
 · intro g;by_cases h1:l.length=0
   · have:l=[]:=List.length_eq_zero_iff.1 h1;subst this
     cases (by simpa using g:dG []=true)
   · rw[h 1 bT bT] at g;cases g
 · rintro⟨g1,g2⟩;rw[h 2 bT bT] at g2;cases g2
theorem akw {l:List UInt8} {k m:Nat} (h:Gs l (k+1) m) (e:dG (l.take (k+1))=false):Gs l k m:=by
 intro j h1 h2;by_cases g:j=k+1
 · subst g;exact e
 · exact h j bT h2
theorem acw {p:Prop} (h:p:=by
 go_wp2_with fail;go_ret;exact YM (by rw[HR.out];rfl) BI
 ):p:=h
theorem anf (s:ByteArray) (w:af) (hs:s.size<=9223372036854775807):Calls ag 165 #[.string s] w (Gives (.int .i64 ((xD (bs s):Nat):Int)) w):=by
 have hs':(s.size:Int)<=9223372036854775807:=by omega
 obtain⟨M,hM⟩:∃M,min 2 s.size=M:=⟨_,rfl⟩
 have hM2:M<=2:=by omega
 have hMs:(M:Int)<=(s.size:Int):=by omega
 have hmin:∀(ts:Array TypeId) (t:TypeId) (W:af),(Builtin.min_ ts t #[.int .i64 2,.int .i64 (s.size:Int)]).run ag W=.ok (.int .i64 (M:Int)) W:=fun ts t W=>by
  rw[run_min_int2]
  congr 2
  split <;> omega
 have HM:Hid (min 2 (bs s).length=M):=hid (by rw[fJ];exact hM);clear hM;go_enter func165,ntmps165;go_wp2_with fail;go_loop [3] (fun i=>∃k:Nat,k<=M/\i=.int .i64 (k:Nat)/\Hid (Gs (bs s) k M)) (fun i=>(intOf i).toNat)
 case atStart=>exact⟨M,Nat.le_refl _,rfl,hid fun j h1 h2=>by omega⟩
 case round=>
  obtain⟨k,hk,rfl,HN⟩:=hrel
  cases k with
  | zero=>
   have HR:=hid (am_ (by rw[HM.out];exact HN.out));exact acw
  | succ k=>
   have c1:(0:Int)<((k+1:Nat):Int):=by omega
   have c2:((k+1:Nat):Int)<=(s.size:Int):=by omega
   have c3:((k+1:Nat):Int)-1=(k:Int):=by omega
   have hx:=Lm s (k+1);have HY:=hid (fun e=>am9 (k:=k+1) (Nat.succ_pos k) (by rw[HM.out];exact hk) (by rw[HM.out];exact HN.out) e);have HZ:=hid (fun e=>akw HN.out e);obtain⟨K,hK⟩:∃K:Nat,k+1=K:=⟨_,rfl⟩
   have I1:=ane (s.extract 0 K) w;rw[hK] at c1 c2 c3 hx HY HZ hk;rw[hK];rw[hx,wC,← hx] at I1;have hK1:(K:Int)-1=(k:Int):=c3;obtain⟨b,hb⟩:∃b,dG ((bs s).take K)=b:=⟨_,rfl⟩
   rw[hb] at I1 HY HZ;clear hx hb HN
   cases b with
   | true=>
    have HR:=hid (HY.out rfl);clear HY HZ;go_wp2_with fail;refine I1.mono ?_;rintro e w1 ⟨rfl,rfl⟩;exact acw
   | false=>
    have BO:=hid (HZ.out rfl);clear HY HZ;go_wp2_with fail;refine I1.mono ?_;rintro e w1 ⟨rfl,rfl⟩;go_wp2_with fail;go_round
    case rel=>exact⟨k,by omega,by go_num,BO⟩
    case measure=>simp[intOf];omega
theorem aaH {s:ByteArray} {v:Int}:num v=s↔bs s=Lib.itoa v:=by
 constructor
 · rintro rfl;rfl
 · intro h;exact(jl (a:=s) (b:=num v) h).symm
theorem TV {p:Prop} (h:p:=by
 go_enter func164,ntmps164;go_wp2_with fail;refine I1.mono ?_;rintro e w1 ⟨rfl,hb1⟩;go_wp2_with fail;go_ret2
 exact⟨rfl,hb1⟩
 ):p:=h
theorem akG {s:ByteArray} {v:Int} (h:qX (bs s)=ai v) (w:af) (hE:Env w):Calls ag 164 #[.string s] w (Gives (.tuple #[.int .i64 v,.bool true]) w):=by
 obtain⟨h0,h1,h2⟩:=C_.1 h;have e:=aaH.2 h2;have I1:=aaY v bT h1 w hE;rw[e] at I1;have c:decide (v<0)=false:=decide_eq_false bT;clear h h2 e hE;exact TV
theorem akF {s:ByteArray} (h:qX (bs s)=ah) (hs:s.size<=140737488355328) (w:af) (hE:Env w):Calls ag 164 #[.string s] w (Gives (.tuple #[.int .i64 0,.bool false]) w):=by
 by_cases hv:∃v,iB v=true/\num v=s
 · obtain⟨v,hv,e⟩:=hv;obtain⟨h0,h1⟩:=Zu hv;have hneg:v<0:=by
    rcases Int.lt_or_le v 0 with g|g
    · exact g
    · exact absurd (aaH.1 e) (akA.1 h v g h1)
   have I1:=aaY v h0 h1 w hE;rw[e] at I1;have c:decide (v<0)=true:=decide_eq_true hneg;clear h e hE hv;exact TV
 · have I1:=alc s hs (fun v hi e=>hv ⟨v,hi,e⟩) w hE;clear h hE hv;exact TV
theorem YE {l:List UInt8} {k:Nat} (h:rq l=k) (hk:0<k):fQ l=ai (⟨1,mkS (l.take k),0,0⟩,k):=by
 unfold rq at h;unfold fQ;by_cases h1:dF gN l=0
 · rw[if_pos h1] at h;omega
 · rw[if_neg h1] at h ⊢; rw[h]
theorem TK {l:List UInt8} (h:rq l=0):dF gN l=0:=by
 unfold rq at h;by_cases h1:dF gN l=0
 · exact h1
 · rw[if_neg h1] at h;obtain⟨c,t,rfl,hc⟩:=SS h1;have:=Bl (p:=kX) (t:=t) (TQ hc);omega
theorem YB {l:List UInt8} {k:Nat} {v:Int} (h:rq l=0) (h2:dF iA l=k) (hk:0<k) (e:qX (l.take k)=ai v):fQ l=ai (⟨2,mt,v,0⟩,k):=by
 unfold fQ;rw[if_pos (TK h),h2,if_neg bT,e]
theorem aiw {l:List UInt8} {k:Nat} (h:rq l=0) (h2:dF iA l=k) (hk:0<k) (e:qX (l.take k)=ah):fQ l=ah:=by
 unfold fQ;rw[if_pos (TK h),h2,if_neg bT,e]
theorem YC {l:List UInt8} {k:Nat} (h:rq l=0) (h2:dF iA l=0) (h3:xD l=k):fQ l=if k=0 then ah else ai (⟨3,mkS (l.take k),0,0⟩,k):=by
 unfold fQ;rw[if_pos (TK h),if_pos h2];unfold xD at h3;by_cases g1:2<=l.length/\dG (l.take 2)=true
 · rw[if_pos g1] at h3 ⊢;subst h3;rw[if_neg bR]
 · rw[if_neg g1] at h3 ⊢;by_cases g2:dG (l.take 1)=true
   · rw[if_pos g2] at h3 ⊢;subst h3;rw[if_neg bR]
   · rw[if_neg g2] at h3 ⊢;subst h3;rw[if_pos rfl]
def UX (o:Option (Tk×Nat)) (w:af) (e:Ending) (w':af):Prop:=
 ∃(x:Tk) (k:Nat),e=.returned (.tuple #[.agg #[.int .i64 x.k,.string x.t,.int .i64 x.n,.int .i64 x.l],.int .i64 (k:Int)])/\Below w.heap.size w w'/\((o=ai (x,k)/\0<k)∨(o=ah/\k=0))
theorem fst_mk {o:Option (Tk×Nat)} {w w':af} {e:Ending} (a:Int) (b:ByteArray) (c:Int) (d:Int) (k:Nat) (he:e=.returned (.tuple #[.agg #[.int .i64 a,.string b,.int .i64 c,.int .i64 d],.int .i64 (k:Int)])) (hb:Below w.heap.size w w') (h:(o=ai (⟨a,b,c,d⟩,k)/\0<k)∨(o=ah/\k=0)):UX o w e w':=⟨⟨a,b,c,d⟩,k,he,hb,h⟩
def zb (w:af) (g:Nat):Prop:=w.cell? ⟨g,0,ah⟩=ai (.int .i64 0)/\w.cell? ⟨g,1,ah⟩=ai (.string ⟨#[]⟩)/\w.cell? ⟨g,2,ah⟩=ai (.int .i64 0)/\w.cell? ⟨g,3,ah⟩=ai (.int .i64 0)/\(∀o,w.frozen? ⟨g,o,ah⟩=false)/\g<w.heap.size
theorem zb.new {w:af}:zb (w.alloc (.cells #[.int .i64 0,.string ⟨#[]⟩,.int .i64 0,.int .i64 0] 125)) w.heap.size:=by
 have h:=zP (w:=w) (x:=⟨0,⟨#[]⟩,0,0⟩) (t:=125);exact⟨h.1,h.2.1,h.2.2.1,h.2.2.2,fun o=>frozen_of_row _ _ o _ _ (heap_alloc_new w _),by simp⟩
theorem zb.on {w w2:af} {g:Nat} (hb:Below w.heap.size w w2) (h:zb w g):zb w2 g:=by
 exact zzg
theorem Nn {p:Prop} (h:p:=by simp[results,results114,go_sem, *]):p:=h
theorem aic (s:ByteArray) (w:af) (hs:s.size<=140737488355328) (hE:Env w):Calls ag 114 #[.string s] w (UX (fQ (bs s)) w):=by
 have hs1:s.size<=9223372036854775807:=by omega
 have hs':(s.size:Int)<=140737488355328:=by omega
 obtain⟨K,hK⟩:∃K,rq (bs s)=K:=⟨_,rfl⟩
 have hKs:K<=s.size:=by
  rw[← hK,← fJ];unfold rq
  split
  · exact Nat.zero_le _
  · exact z8 _ _
 have I1:=aoA hK hs1 (w.alloc (.cells #[.int .i64 0,.string ⟨#[]⟩,.int .i64 0,.int .i64 0] 125));have Z:=zb.new (w:=w);have hB0:Below w.heap.size w (w.alloc (.cells #[.int .i64 0,.string ⟨#[]⟩,.int .i64 0,.int .i64 0] 125)):=iJ (Below.refl _ _);have q0:(0:Int)<=(K:Int):=by omega
 have q1:(K:Int)<=(s.size:Int):=by omega
 by_cases h:0<K
 · have HF:=hid (YE hK h);have hx:=Lm s K;rw[← hx] at HF;have q2:decide ((0:Int)<(K:Int))=true:=decide_eq_true bT;have HP:Hid (0<K):=hid h;clear hK hx h hKs hE;go_enter func114,ntmps114;go_wp2_with fail;refine I1.mono ?_;rintro e w1 ⟨rfl,hb1⟩;have Z1:=zb.on hb1 Z;obtain⟨z0,z1,z2,z3,z4,z5⟩:=Z1;clear Z;go_wp2_with fail;exact bodyPost_ret (v:=.tuple #[.agg #[.int .i64 1,.string (s.extract 0 K),.int .i64 0,.int .i64 0],.int .i64 (K:Int)]) Nn rfl (fst_mk _ _ _ _ K rfl BI (.inl ⟨HF.out,HP.out⟩))
 · obtain rfl:K=0:=by omega
   obtain⟨D,hD⟩:∃D,dF iA (bs s)=D:=⟨_,rfl⟩
   have hDs:D<=s.size:=by rw[← hD,← fJ];exact z8 _ _
   have I2:=fun w1=>ano s w1 hs1;simp only[hD] at I2;have d0:(0:Int)<=(D:Int):=by omega
   have d1:(D:Int)<=(s.size:Int):=by omega
   by_cases g:0<D
   · have d2:decide ((0:Int)<(D:Int))=true:=decide_eq_true bT;have hx:=Lm s D;have hxs:(s.extract 0 D).size<=140737488355328:=by rw[ByteArray.size_extract];omega
     have hxb:bs (s.extract 0 D)=(bs s).take D:=by rw[hx,wC]
     cases hv:qX ((bs s).take D) with
     | some v=>
      have HF:=hid (YB hK hD g hv);have HP:=hid g;have I3:=fun w1 hE=>akG (s:=s.extract 0 D) (v:=v) (by rw[hxb];exact hv) w1 hE;clear hK hD hx hxs hxb hv h;have Oy:=hid fun w1 (hb:Below w.heap.size w w1)=>I3 w1 (hE.below hb);clear I3 hE;go_enter func114,ntmps114;go_wp2_with fail;refine I1.mono ?_;rintro e w1 ⟨rfl,hb1⟩;have Z1:=zb.on hb1 Z;clear Z;go_wp2_with fail;refine(I2 w1).mono ?_;rintro e w2 ⟨rfl,hb2⟩;have Z2:=zb.on hb2 Z1;clear Z1;go_wp2_with fail;refine(Oy.out w2 BI).mono ?_;rintro e w3 ⟨rfl,hb3⟩;have Z3:=zb.on hb3 Z2;clear Z2;obtain⟨z0,z1,z2,z3,z4,z5⟩:=Z3;go_wp2_with fail;exact bodyPost_ret (v:=.tuple #[.agg #[.int .i64 2,.string (⟨#[]⟩),.int .i64 v,.int .i64 0],.int .i64 (D:Int)]) Nn rfl (fst_mk _ _ _ _ D rfl BI (.inl ⟨HF.out,HP.out⟩))
     | none=>
      have HF:=hid (aiw hK hD g hv);have I3:=fun w1 hE=>akF (s:=s.extract 0 D) (by rw[hxb];exact hv) hxs w1 hE;clear hK hD hx hxs hxb hv h;have Oy:=hid fun w1 (hb:Below w.heap.size w w1)=>I3 w1 (hE.below hb);clear I3 hE;go_enter func114,ntmps114;go_wp2_with fail;refine I1.mono ?_;rintro e w1 ⟨rfl,hb1⟩;have Z1:=zb.on hb1 Z;clear Z;go_wp2_with fail;refine(I2 w1).mono ?_;rintro e w2 ⟨rfl,hb2⟩;have Z2:=zb.on hb2 Z1;clear Z1;go_wp2_with fail;refine(Oy.out w2 BI).mono ?_;rintro e w3 ⟨rfl,hb3⟩;have Z3:=zb.on hb3 Z2;clear Z2;obtain⟨z0,z1,z2,z3,z4,z5⟩:=Z3;go_wp2_with fail;exact bodyPost_ret (v:=.tuple #[.agg #[.int .i64 0,.string (⟨#[]⟩),.int .i64 0,.int .i64 0],.int .i64 0]) Nn rfl (fst_mk _ _ _ _ 0 rfl BI (.inr ⟨HF.out,rfl⟩))
   · obtain rfl:D=0:=by omega
     obtain⟨G,hG⟩:∃G,xD (bs s)=G:=⟨_,rfl⟩
     have hGs:G<=s.size:=by
      rw[← hG,← fJ];unfold xD
      split
      · omega
      · split
        · rename_i g2
          have:=Ls g2;rw[List.length_take] at this;omega
        · omega
     have HF:=YC hK hD hG;have hx:=Lm s G;rw[← hx] at HF;have HF':=hid HF;have I3:=fun w1=>anf s w1 hs1;simp only[hG] at I3;have g0:(0:Int)<=(G:Int):=by omega
     have g1:(G:Int)<=(s.size:Int):=by omega
     clear hK hD hG hx HF g h hE hGs;go_enter func114,ntmps114;go_wp2_with fail;refine I1.mono ?_;rintro e w1 ⟨rfl,hb1⟩;have Z1:=zb.on hb1 Z;clear Z;go_wp2_with fail;refine(I2 w1).mono ?_;rintro e w2 ⟨rfl,hb2⟩;have Z2:=zb.on hb2 Z1;clear Z1;go_wp2_with fail;refine(I3 w2).mono ?_;rintro e w3 ⟨rfl,hb3⟩;have Z3:=zb.on hb3 Z2;clear Z2;obtain⟨z0,z1,z2,z3,z4,z5⟩:=Z3;go_wp2_with fail;exact bodyPost_ret (v:=.tuple #[.agg #[.int .i64 3,.string (s.extract 0 G),.int .i64 0,.int .i64 0],.int .i64 (G:Int)]) Nn rfl (fst_mk _ _ _ _ G rfl BI (by
      have h:=HF'.out;by_cases e:G=0
      · rw[if_pos e] at h;exact .inr ⟨h,e⟩
      · rw[if_neg e] at h;exact .inl ⟨h,by omega⟩))
end Lx
namespace Lx
open Nu
open Go.RowKit
def jH (x:Tk):Bool:=if x.k=1 then iC (bs x.t)&&decide (x.n=0) else if x.k=2 then decide (x.t.size=0)&&(decide (0<=x.n)&&decide (x.n<=1000000000000)) else if x.k=3 then dG (bs x.t)&&decide (x.n=0) else decide (x.n=0)&&decide (x.t.size=0)
def dR (w':af) (g:Nat) (k:Int) (t:ByteArray) (n ln:Int):Prop:=w'.cell? ⟨g,0,ah⟩=ai (.int .i64 k)/\w'.cell? ⟨g,1,ah⟩=ai (.string t)/\w'.cell? ⟨g,2,ah⟩=ai (.int .i64 n)/\w'.cell? ⟨g,3,ah⟩=ai (.int .i64 ln)
theorem dR.new {w:af} {k:Int} {t:ByteArray} {n ln:Int}:dR (w.alloc (.cells #[.int .i64 k,.string t,.int .i64 n,.int .i64 ln] 125)) w.heap.size k t n ln:=by
 have h:=zP (w:=w) (x:=⟨k,t,n,ln⟩) (t:=125);exact⟨h.1,h.2.1,h.2.2.1,h.2.2.2⟩
theorem dR.on {w w2:af} {g:Nat} {k:Int} {t:ByteArray} {n ln:Int} (hb:Below w.heap.size w w2) (hg:g<w.heap.size) (h:dR w g k t n ln):dR w2 g k t n ln:=by
 exact zzm
theorem dR.drew {w:af} {g:Nat} {k:Int} {t:ByteArray} {n ln:Int} (h:dR w g k t n ln):dR w.drew g k t n ln:=h
theorem dR.keep {w':af} {g:Nat} {k:Int} {t:ByteArray} {n ln:Int} (h:dR w' g k t n ln):w'.cell? ⟨g,0,ah⟩=ai (.int .i64 k)/\w'.cell? ⟨g,1,ah⟩=ai (.string t)/\w'.cell? ⟨g,2,ah⟩=ai (.int .i64 n)/\w'.cell? ⟨g,3,ah⟩=ai (.int .i64 ln):=h
end Lx
namespace Ps
open Ps.P (rt fl bd acc see kd kw tk exp len)
open Lx (Tk bs fJ jH iC)
open Na (gX)
open Ex (Ex)
open Sm (St)
open Md (cz dL)
def Wf (x:Tk):Prop:=jH x=true/\0<=x.k/\x.k<=4/\x.t.size<=20000/\0<=x.l/\x.l<=30000
def Gd:List Tk->Prop
 | []=>False
 | [x]=>Wf x/\x.k=0
 | x::y::r=>Wf x/\¬x.k=0/\Gd (y::r)
theorem Gd.ne {t:List Tk} (h:Gd t):0<t.length:=by
 cases t with
 | nil=>exact h.elim
 | cons x r=>simp
theorem Gd.wf {t:List Tk} (h:Gd t):Wf (hd t):=by
 match t,h with
 | [x],h=>exact h.1
 | x::y::r,h=>exact h.1
theorem Gd.tail {t:List Tk} (h:Gd t) (hk:¬(hd t).k=0):Gd t.tail/\t.tail.length+1=t.length:=by
 match t,h with
 | [x],h=>exact absurd h.2 hk
 | x::y::r,h=>exact⟨h.2.2,rfl⟩
theorem Gd.last {t:List Tk} (h:Gd t) (hk:(hd t).k=0):t.length=1:=by
 match t,h with
 | [x],h=>rfl
 | x::y::r,h=>exact absurd hk h.2.1
theorem Wf.txt {x:Tk} (h:Wf x) (h1:¬x.k=1) (h3:¬x.k=3):bs x.t=[]:=by
 obtain⟨hf,-⟩:=h;unfold jH at hf;rw[if_neg h1] at hf;have key:x.t.size=0->bs x.t=[]:=fun h=>List.length_eq_zero_iff.1 Gb
 split at hf
 · rw[ae,decide_eq_true_eq] at hf;exact key hf.1
 · try rw[if_neg h3] at hf
   simp only[ae,decide_eq_true_eq] at hf;exact key hf.2
theorem Wf.wd {x:Tk} (h:Wf x) (h1:x.k=1):iC (bs x.t)=true:=by
 obtain⟨hf,-⟩:=h;unfold jH at hf;rw[if_pos h1,ae] at hf;exact hf.1
theorem Wf.n {x:Tk} (h:Wf x):0<=x.n/\x.n<=1000000000000:=by
 obtain⟨hf,-⟩:=h;unfold jH at hf
 split at hf
 · simp only[ae,decide_eq_true_eq] at hf;omega
 · split at hf
   · simp only[ae,decide_eq_true_eq] at hf;omega
   · split at hf <;> (simp only[ae,decide_eq_true_eq] at hf;omega)
theorem ajh {s:ByteArray} {t:List Tk}:is s t=true↔bs (hd t).t=bs s:=by unfold is;exact decide_eq_true_iff
theorem ZG {s:ByteArray} {t:List Tk} (h:Gd t) (hs:¬bs s=[]) (hi:is s t=true):(hd t).k=1∨(hd t).k=3:=by
 rw[ajh] at hi;by_cases h1:(hd t).k=1
 · exact .inl h1
 · by_cases h3:(hd t).k=3
   · exact .inr h3
   · exact absurd (hi▸h.wf.txt h1 h3) hs
theorem EM {s:ByteArray} {t:List Tk} (h:Gd t) (hs:¬bs s=[]) (hi:is s t=true):Gd t.tail/\t.tail.length+1=t.length:=h.tail (by rcases ZG h hs hi with g|g <;> omega)
structure Dn {α:Type} (n:Nat) (m:P α):Prop where
 out:∀{t u:List Tk} {x:α},Gd t->run m t=.ok x u->Gd u/\u.length+n<=t.length
section
variable {α β:Type} {m:P α} {k:α->P β} {A B:P α} {a b n:Nat} {s:ByteArray}
theorem Dn.le (h:Dn a m) (hn:n<=a):Dn n m:=⟨fun g e=>by have:=h.out g e;exact⟨this.1,by omega⟩⟩
theorem Dn.rt {x:α}:Dn 0 (rt x):=⟨fun g e=>by rw[zW] at e;cases e;exact⟨g,Nat.le_refl _⟩⟩
theorem Dn.fl:Dn n (fl:P α):=⟨fun g e=>by rw[Sq] at e;cases e⟩
theorem Dn.bd (h:Dn a m) (hk:∀x,Dn b (k x)) (hn:n<=a+b):Dn n (bd m k):=by
 refine⟨fun {t u x} g e=>?_⟩
 cases hm:run m t with
 | ok y v=>
  rw[dK hm] at e;obtain⟨h1,h2⟩:=h.out g hm;obtain⟨h3,h4⟩:=(hk y).out h1 e;exact⟨h3,by omega⟩
 | no v=>rw[iq hm] at e;cases e
theorem Dn.len {f:Nat->α->β} (h:Dn n m):Dn n (len m f):=by
 refine⟨fun {t u x} g e=>?_⟩
 cases hm:run m t with
 | ok y v=>rw[Ij hm] at e;cases e;exact h.out g hm
 | no v=>rw[LQ hm] at e;cases e
theorem Dn.acc (hs:¬bs s=[]) (hA:Dn a A) (hB:Dn b B) (h1:n<=a+1) (h2:n<=b):Dn n (acc s A B):=by
 refine⟨fun {t u x} g e=>?_⟩
 cases hi:is s t with
 | true=>
  rw[nW hi] at e;obtain⟨h3,h4⟩:=EM g hs hi;obtain⟨h5,h6⟩:=hA.out h3 e;exact⟨h5,by omega⟩
 | false=>
  rw[ek hi] at e;obtain⟨h5,h6⟩:=hB.out g e;exact⟨h5,by omega⟩
theorem Dn.see (hA:Dn a A) (hB:Dn b B) (h1:n<=a) (h2:n<=b):Dn n (see s A B):=by
 refine⟨fun {t u x} g e=>?_⟩
 cases hi:is s t with
 | true=>rw[Dw hi] at e;obtain⟨h5,h6⟩:=hA.out g e;exact⟨h5,by omega⟩
 | false=>rw[vL hi] at e;obtain⟨h5,h6⟩:=hB.out g e;exact⟨h5,by omega⟩
theorem Dn.kd {j:Int} (hA:Dn a A) (hB:Dn b B) (h1:n<=a) (h2:n<=b):Dn n (kd j A B):=by
 refine⟨fun {t u x} g e=>?_⟩;by_cases hi:(hd t).k=j
 · rw[EN hi] at e;obtain⟨h5,h6⟩:=hA.out g e;exact⟨h5,by omega⟩
 · rw[yC hi] at e;obtain⟨h5,h6⟩:=hB.out g e;exact⟨h5,by omega⟩
theorem Dn.kw (hA:Dn a A) (hB:Dn b B) (h1:n<=a) (h2:n<=b):Dn n (kw A B):=by
 refine⟨fun {t u x} g e=>?_⟩
 cases hi:gX (bs (hd t).t) with
 | true=>rw[Ih hi] at e;obtain⟨h5,h6⟩:=hA.out g e;exact⟨h5,by omega⟩
 | false=>rw[LM hi] at e;obtain⟨h5,h6⟩:=hB.out g e;exact⟨h5,by omega⟩
theorem bW {p:Prop} (h:p:=by omega):p:=h
theorem Dn.tk {j:Int} (hj:¬j=0):Dn 1 (tk j):=by
 refine⟨fun {t u x} g e=>?_⟩;by_cases hi:(hd t).k=j
 · rw[yT hi] at e;cases e;have:=g.tail bW;exact⟨this.1,by omega⟩
 · rw[DJ hi] at e;cases e
theorem Dn.exp (hs:¬bs s=[]):Dn 1 (exp s):=by
 refine⟨fun {t u x} g e=>?_⟩
 cases hi:is s t with
 | true=>rw[EF hi] at e;cases e;have:=EM g hs hi;exact⟨this.1,by omega⟩
 | false=>rw[KO hi] at e;cases e
theorem Dn.iff {c:Prop} [Decidable c] (hA:Dn n A) (hB:Dn n B):Dn n (if c then A else B):=by split <;> assumption
end
theorem kQ:Dn 1 num:=.bd (.tk bR) (fun _=>.rt) bW
theorem P7:Dn 1 yB:=.acc bR (.bd kQ (fun _=>.rt) bW:Dn 1 _) kQ bW bW
theorem GU:Dn 1 tV:=.acc bR .rt (.bd (.exp bR) (fun _=>.rt) bW:Dn 1 _) bW bW
theorem lh:Dn 1 fM:=.kw (.fl:Dn 1 _) (.bd (.tk bR) (fun _=>.rt) bW:Dn 1 _) bW bW
theorem ahc (s:ByteArray) (hs:¬bs s=[]):Dn 2 (yH s):=.bd (.exp hs) (fun _=>lh) bW
theorem nG:Dn 1 fV:=.bd (.tk bR) (fun _=>.rt) bW
theorem WZ:Dn 2 xc:=.bd lh (fun _=>.bd nG (fun _=>.rt) bW:∀_,Dn 1 _) bW
theorem Kz:Dn 3 pr:=.bd kQ (fun _=>.bd (.exp bR) (fun _=>.bd kQ (fun _=>.rt) bW:∀_,Dn 1 _) bW:∀_,Dn 2 _) bW
theorem Xb:∀n l,Dn 0 (Fg n l)
 | 0,l=>.fl
 | n+1,l=>.kd (.bd Kz (fun x=>Xb n (l++[x])) bW:Dn 3 _) .rt bW bW
theorem Xd:Dn 3 zS:=.bd Kz (fun x=>Xb FU [x]) bW
section
variable {α:Type} {e:P α}
theorem P8 (h:Dn 1 e):∀n l,Dn 1 (wY e n l)
 | 0,l=>.fl
 | n+1,[]=>.acc bR .rt (.bd h (fun x=>P8 h n [x]) bW:Dn 2 _) bW bW
 | n+1,y::r=>.acc bR .rt (.bd (.exp bR) (fun _=>.bd h (fun x=>P8 h n ((y::r)++[x])) bW:∀_,Dn 2 _) bW:Dn 3 _) bW bW
theorem P_ (h:Dn 1 e):Dn 2 (AZ e):=.bd (.exp bR) (fun _=>P8 h FU []) bW
end
theorem P5:Dn 2 dst:=
 .acc bR (.bd kQ (fun _=>.rt) bW:Dn 1 _)
 (.acc bR (.bd kQ (fun _=>.bd kQ (fun _=>.rt) bW:∀_,Dn 1 _) bW:Dn 1 _)
 (.acc bR (.bd Xd (fun _=>.rt) bW:Dn 1 _)
 (.acc bR (.bd kQ (fun _=>.bd kQ (fun _=>.bd kQ (fun _=>.rt) bW:∀_,Dn 1 _) bW:∀_,Dn 1 _) bW:Dn 1 _)
 (.acc bR (.bd kQ (fun _=>.bd kQ (fun _=>.rt) bW:∀_,Dn 1 _) bW:Dn 1 _) (.fl:Dn 2 _) bW bW:Dn 2 _) bW bW:Dn 2 _) bW bW:Dn 2 _) bW bW:Dn 2 _) bW bW
theorem W_ {α:Type} {A:Int->P α} {B:P α} {n:Nat} (hA:∀o,Dn n (A o)) (hB:Dn n B):∀{os:List (ByteArray×Int)},(∀q∈os,¬bs q.1=[])->Dn n (tJ A B os)
 | [],_=>hB
 | q::r,hs=>.acc (hs q List.mem_cons_self) (hA q.2) (W_ hA hB fun z hz=>hs z (List.mem_cons_of_mem _ hz)) bW bW
section
variable {m:P Ex} {os:List (ByteArray×Int)}
theorem WT (h:Dn 1 m) (hs:∀q∈os,¬bs q.1=[]):∀n e,Dn 0 (ql m os n e)
 | 0,e=>.fl
 | n+1,e=>W_ (fun o=>.bd h (fun y=>WT h hs n (dZ o e y)) bW) .rt hs
theorem Kt (h:Dn 1 m) (hs:∀q∈os,¬bs q.1=[]):Dn 1 (uH m os):=.bd h (fun e=>WT h hs FU e) bW
end
section
variable {E F N:P Ex}
theorem W9 (h:Dn 1 E) (o:Int):Dn 3 (one E o):=.bd (.exp bR) (fun _=>.bd h (fun _=>.bd (.exp bR) (fun _=>.rt) bW:∀_,Dn 1 _) bW:∀_,Dn 2 _) bW
theorem Xj (h:Dn 1 E) (o:Int):Dn 5 (two E o):=.bd (.exp bR) (fun _=>.bd h (fun _=>.bd (.exp bR) (fun _=>.bd h (fun _=>.bd (.exp bR) (fun _=>.rt) bW:∀_,Dn 1 _) bW:∀_,Dn 2 _) bW:∀_,Dn 3 _) bW:∀_,Dn 4 _) bW
theorem Qb (o:Int):Dn 3 (tH o):=.bd (.exp bR) (fun _=>.bd lh (fun _=>.bd (.exp bR) (fun _=>.rt) bW:∀_,Dn 1 _) bW:∀_,Dn 2 _) bW
theorem ag9 (h:Dn 1 E):Dn 3 (yA E):=.len (.bd (.exp bR) (fun _=>.bd h (fun _=>.bd (.exp bR) (fun _=>.rt) bW:∀_,Dn 1 _) bW:∀_,Dn 2 _) bW)
theorem ahd (h:Dn 1 E):Dn 1 (qw E):=
 .kd (.bd kQ (fun _=>.rt) bW:Dn 1 _) (.see (.bd GU (fun _=>.rt) bW:Dn 1 _) (.see (.bd GU (fun _=>.rt) bW:Dn 1 _)
 (.acc bR .rt (.acc bR (W9 h 7) (.acc bR (W9 h 8) (.acc bR (Xj h 20) (.acc bR (Xj h 21)
 (.acc bR (Qb 22) (.acc bR (Qb 23) (.acc bR (Qb 24) (.see (ag9 h) (.bd lh (fun _=>.rt) bW:Dn 1 _)
 bW bW:Dn 1 _) bW bW:Dn 1 _) bW bW:Dn 1 _) bW bW:Dn 1 _) bW bW:Dn 1 _) bW bW:Dn 1 _)
 bW bW:Dn 1 _) bW bW:Dn 1 _) bW bW:Dn 1 _) bW bW:Dn 1 _) bW bW:Dn 1 _) bW bW
theorem ag8 (h:Dn 1 E) (g:Dn 1 F):Dn 1 (jG E F):=.acc bR (.bd g (fun _=>.rt) bW:Dn 1 _) (ahd h) bW bW
theorem Xc (g:Dn 1 F):Dn 1 (Fh F):=Kt g bR
theorem AL (g:Dn 1 F):Dn 1 (sum F):=Kt (Xc g) bR
theorem ag4 (g:Dn 1 F):Dn 1 (cmp F):=
 .bd (AL g) (fun _=>.acc bR (.bd (AL g) (fun _=>.rt) bW:Dn 1 _) (.acc bR (.bd (AL g) (fun _=>.rt) bW:Dn 1 _) (.acc bR (.bd (AL g) (fun _=>.rt) bW:Dn 1 _)
 (.acc bR (.bd (AL g) (fun _=>.rt) bW:Dn 1 _) (.acc bR (.bd (AL g) (fun _=>.rt) bW:Dn 1 _) (.acc bR (.bd (AL g) (fun _=>.rt) bW:Dn 1 _) .rt
 bW bW:Dn 0 _) bW bW:Dn 0 _) bW bW:Dn 0 _) bW bW:Dn 0 _) bW bW:Dn 0 _) bW bW:∀_,Dn 0 _) bW
theorem ahb (g:Dn 1 F) (h:Dn 1 N):Dn 1 (lq F N):=.acc bR (.bd h (fun _=>.rt) bW:Dn 1 _) (ag4 g) bW bW
theorem WU (g:Dn 1 F):Dn 1 (AB F):=Kt g bR
theorem ag5 (g:Dn 1 F):Dn 1 (oO F):=Kt (WU g) bR
end
theorem Ky:∀n,Dn 1 (fF n)/\Dn 1 (fN n)/\Dn 1 (fE n)
 | 0=>⟨by rw[fF];exact .fl,by rw[fN];exact .fl,by rw[fE];exact .fl⟩
 | n+1=>by
  obtain⟨h1,h2,h3⟩:=Ky n;have a:Dn 1 (fF (n+1)):=by rw[G5];exact ag8 h3 h1
  have b:Dn 1 (fN (n+1)):=by rw[Qq];exact ahb a h2
  exact⟨a,b,by rw[X8];exact ag5 b⟩
theorem WW (n:Nat):Dn 1 (fF n):=(Ky n).1
theorem ag7 (n:Nat):Dn 1 (fN n):=(Ky n).2.1
theorem P6 (n:Nat):Dn 1 (fE n):=(Ky n).2.2
theorem ED:Dn 1 ky:=P6 FU
theorem ag3 (o:Int):Dn 2 (sJ o):=.bd lh (fun _=>.bd ED (fun _=>.rt) bW:∀_,Dn 1 _) bW
theorem WS (o:Int) (f:ByteArray):Dn 1 (Ep o f):=.bd lh (fun _=>.bd (P_ ED) (fun _=>.bd (.exp bR) (fun _=>.bd ED (fun _=>.rt) bW:∀_,Dn 0 _) bW:∀_,Dn 0 _) bW:∀_,Dn 0 _) bW
theorem Ku:Dn 2 cnd:=.bd ED (fun _=>.bd nG (fun _=>.rt) bW:∀_,Dn 1 _) bW
theorem Xi {B:P (List St)} (h:Dn 0 B):Dn 1 (stt B):=by
 have a:∀o,Dn 0 (sJ o):=fun o=>(ag3 o).le bW;have n1:∀(k:ByteArray->P St),(∀s,Dn 0 (k s))->Dn 0 (bd fM k):=fun k hk=>.bd lh hk bW;have x1:∀(k:Ex->P St),(∀s,Dn 0 (k s))->Dn 0 (bd ky k):=fun k hk=>.bd ED hk bW;have e1:∀(s:ByteArray) (k:Unit->P St),¬bs s=[]->(∀x,Dn 0 (k x))->Dn 0 (bd (exp s) k):=fun s k hs hk=>.bd (.exp hs) hk bW;have b1:∀(s:ByteArray) (k:ByteArray->P St),¬bs s=[]->(∀x,Dn 0 (k x))->Dn 0 (bd (yH s) k):=fun s k hs hk=>.bd (ahc s hs) hk bW;have st:∀(s:ByteArray) (A B:P St),¬bs s=[]->Dn 0 A->Dn 1 B->Dn 1 (acc s A B):=fun s A B hs hA hB=>.acc hs hA hB bW bW;unfold stt;refine st _ _ _ bR (n1 _ fun _=>e1 _ _ bR fun _=>x1 _ fun _=>.rt) ?_;refine st _ _ _ bR (n1 _ fun _=>b1 _ _ bR fun _=>.bd (P5.le bW:Dn 0 _) (fun _=>.rt) bW) ?_;refine st _ _ _ bR (.bd Ku (fun _=>.bd h (fun _=>.bd (.acc bR (.bd nG (fun _=>h) bW:Dn 0 _) .rt bW bW:Dn 0 _) (fun _=>e1 _ _ bR fun _=>.rt) bW:∀_,Dn 0 _) bW:∀_,Dn 0 _) bW) ?_;refine st _ _ _ bR (.bd Ku (fun _=>.bd h (fun _=>e1 _ _ bR fun _=>.rt) bW:∀_,Dn 0 _) bW) ?_;refine st _ _ _ bR (x1 _ fun _=>.rt) ?_;refine st _ _ _ bR (n1 _ fun _=>x1 _ fun _=>e1 _ _ bR fun _=>x1 _ fun _=>.bd (.acc bR .rt .rt bW bW:Dn 0 _) (fun _=>.rt) bW) ?_;refine st _ _ _ bR (a 7) ?_;refine st _ _ _ bR (x1 _ fun _=>b1 _ _ bR fun _=>.rt) ?_;refine st _ _ _ bR (n1 _ fun _=>b1 _ _ bR fun _=>.rt) ?_;refine st _ _ _ bR (n1 _ fun _=>.rt) ?_;refine st _ _ _ bR (n1 _ fun _=>.rt) ?_;refine st _ _ _ bR (a 12) ?_;refine st _ _ _ bR (n1 _ fun _=>e1 _ _ bR fun _=>(WS 13 _).le bW) ?_;refine st _ _ _ bR ((WS 14 _).le bW) ?_;refine st _ _ _ bR (a 15) ?_;refine st _ _ _ bR (a 16) ?_;refine st _ _ _ bR (a 17) ?_;exact st _ _ _ bR .rt .fl
theorem Xg {S:P St} (h:Dn 1 S):∀n l,Dn 0 (yS S n l)
 | 0,l=>.fl
 | n+1,l=>.see .rt (.see .rt (.kd .rt (.bd h (fun x=>.bd nG (fun _=>Xg h n (l++[x])) bW:∀_,Dn 0 _) bW:Dn 0 _) bW bW:Dn 0 _) bW bW:Dn 0 _) bW bW
theorem Kv:∀n,Dn 0 (fS n)
 | 0=>by rw[fS];exact .fl
 | n+1=>by rw[fS];exact Xg (Xi (Kv n)) FU []
theorem ahj:Dn 0 Bq:=Kv FU
theorem Qd:Dn 1 typ:=.acc bR .rt (.acc bR .rt (.acc bR .rt (.fl:Dn 1 _) bW bW:Dn 1 _) bW bW:Dn 1 _) bW bW
theorem Xk:Dn 1 val:=.bd lh (fun _=>.bd Qd (fun _=>.bd (.exp bR) (fun _=>.bd (.iff GU P7) (fun _=>.bd nG (fun _=>.rt) bW:∀_,Dn 0 _) bW:∀_,Dn 0 _) bW:∀_,Dn 0 _) bW:∀_,Dn 0 _) bW
theorem Kw:Dn 1 Cq:=.bd lh (fun _=>.bd Qd (fun _=>.rt) bW:∀_,Dn 0 _) bW
theorem Xe:Dn 0 shf:=.acc bR (.bd Xd (fun _=>.bd (.exp bR) (fun _=>.bd kQ (fun _=>.rt) bW:∀_,Dn 0 _) bW:∀_,Dn 0 _) bW:Dn 0 _) .rt bW bW
theorem WX:Dn 0 G9:=.acc bR (.bd lh (fun _=>.bd (.exp bR) (fun _=>.bd P5 (fun _=>.bd (.exp bR) (fun _=>.bd P5 (fun _=>.rt) bW:∀_,Dn 0 _) bW:∀_,Dn 0 _) bW:∀_,Dn 0 _) bW:∀_,Dn 0 _) bW:Dn 0 _) .rt bW bW
theorem ahg:Dn 1 qx:=.bd lh (fun _=>.bd kQ (fun _=>.bd Xe (fun _=>.bd WX (fun _=>.bd nG (fun _=>.rt) bW:∀_,Dn 0 _) bW:∀_,Dn 0 _) bW:∀_,Dn 0 _) bW:∀_,Dn 0 _) bW
theorem Xa:Dn 1 RX:=.acc bR .rt (.acc bR .rt (.acc bR .rt (.fl:Dn 1 _) bW bW:Dn 1 _) bW bW:Dn 1 _) bW bW
theorem ahi:Dn 1 MR:=.bd lh (fun _=>.bd kQ (fun _=>.bd Xa (fun _=>.bd nG (fun _=>.rt) bW:∀_,Dn 0 _) bW:∀_,Dn 0 _) bW:∀_,Dn 0 _) bW
theorem ag2:Dn 1 blt:=.bd lh (fun _=>.bd kQ (fun _=>.bd kQ (fun _=>.bd nG (fun _=>.rt) bW:∀_,Dn 0 _) bW:∀_,Dn 0 _) bW:∀_,Dn 0 _) bW
theorem WY:∀n l,Dn 0 (Cz n l)
 | 0,l=>.fl
 | n+1,l=>.acc bR (.bd Kw (fun x=>.bd nG (fun _=>WY n (l++[x])) bW:∀_,Dn 0 _) bW:Dn 0 _) .rt bW bW
theorem ahf:Dn 1 Mw:=.bd lh (fun _=>.bd (P_ Kw) (fun _=>.bd nG (fun _=>.bd (WY FU []:Dn 0 _) (fun _=>.bd ahj (fun _=>.bd (.exp bR) (fun _=>.bd nG (fun _=>.rt) bW:∀_,Dn 0 _) bW:∀_,Dn 0 _) bW:∀_,Dn 0 _) bW:∀_,Dn 0 _) bW:∀_,Dn 0 _) bW:∀_,Dn 0 _) bW
theorem WR:Dn 1 arg:=.see GU (.see GU P7 bW bW:Dn 1 _) bW bW
theorem ag6:Dn 0 X5:=.acc bR (.bd kQ (fun _=>.bd (.exp bR) (fun _=>.bd kQ (fun _=>.rt) bW:∀_,Dn 0 _) bW:∀_,Dn 0 _) bW:Dn 0 _) .rt bW bW
theorem Xh:Dn 1 MQ:=.bd lh (fun _=>.bd (P_ WR) (fun _=>.bd (.exp bR) (fun _=>.bd kQ (fun _=>.bd ag6 (fun _=>.bd nG (fun _=>.rt) bW:∀_,Dn 0 _) bW:∀_,Dn 0 _) bW:∀_,Dn 0 _) bW:∀_,Dn 0 _) bW:∀_,Dn 0 _) bW
theorem GR:Dn 2 Ab:=.bd (.kd (.bd kQ (fun _=>.bd (.exp bR) (fun _=>.rt) bW:∀_,Dn 0 _) bW:Dn 0 _) .rt bW bW:Dn 0 _) (fun _=>.bd lh (fun _=>.bd lh (fun _=>.rt) bW:∀_,Dn 1 _) bW:∀_,Dn 2 _) bW
theorem Qc:Dn 1 IW:=.acc bR GR (.bd (.exp bR) (fun _=>.bd GR (fun _=>.rt) bW:∀_,Dn 0 _) bW:Dn 1 _) bW bW
theorem Qa:∀n l,Dn 1 (CV n l)
 | 0,l=>.fl
 | n+1,l=>.acc bR .rt (.bd Qc (fun x=>Qa n (l++[x])) bW:Dn 1 _) bW bW
theorem ag_:Dn 1 law:=.bd lh (fun _=>.bd (.exp bR) (fun _=>.bd (.see .rt (.bd GR (fun _=>.rt) bW:Dn 0 _) bW bW:Dn 0 _) (fun l=>.bd (Qa FU l:Dn 1 _) (fun _=>.bd P7 (fun _=>.bd nG (fun _=>.rt) bW:∀_,Dn 0 _) bW:∀_,Dn 0 _) bW:∀_,Dn 0 _) bW:∀_,Dn 0 _) bW:∀_,Dn 0 _) bW
theorem WV (x:cz):Dn 1 (Ch x):=by
 have st:∀{α:Type} (s:ByteArray) (A:P α) (k:α->P cz) (B:P cz),¬bs s=[]->Dn 1 A->(∀y,Dn 0 (k y))->Dn 1 B->Dn 1 (acc s (bd A k) B):=fun s A k B hs hA hk hB=>.acc hs (.bd hA hk bW:Dn 1 _) hB bW bW;have nl:Dn 1 xc:=WZ.le bW;unfold Ch;refine st _ _ _ _ bR Xk (fun _=>.rt) (st _ _ _ _ bR ahg (fun _=>.rt) (st _ _ _ _ bR ahi (fun _=>.rt) (st _ _ _ _ bR ag2 (fun _=>.rt) ?_)));refine st _ _ _ _ bR nl (fun _=>.rt) (st _ _ _ _ bR nl (fun _=>.rt) (st _ _ _ _ bR nl (fun _=>.rt) (st _ _ _ _ bR nl (fun _=>.rt) (st _ _ _ _ bR nl (fun _=>.rt) ?_))));exact st _ _ _ _ bR ahf (fun _=>.rt) (st _ _ _ _ bR Xh (fun _=>.rt) (st _ _ _ _ bR ag_ (fun _=>.rt) .fl))
theorem Xf:∀n x,Dn 1 (yQ n x)
 | 0,x=>.fl
 | n+1,x=>.acc bR .rt (.bd (WV x) (fun y=>Xf n y) bW:Dn 1 _) bW bW
theorem ahh:Dn 1 sit:=.bd WZ (fun s=>.bd (Xf FU (Bj s):Dn 1 _) (fun _=>.bd nG (fun _=>.rt) bW:∀_,Dn 0 _) bW:∀_,Dn 0 _) bW
theorem aha:Dn 1 Ru:=.bd lh (fun _=>.bd lh (fun _=>.bd kQ (fun _=>.bd nG (fun _=>.rt) bW:∀_,Dn 0 _) bW:∀_,Dn 0 _) bW:∀_,Dn 0 _) bW
theorem ahe (m:dL):Dn 1 (prt m):=.acc bR (.bd Xk (fun _=>.rt) bW:Dn 1 _) (.acc bR (.bd aha (fun _=>.rt) bW:Dn 1 _) (.acc bR (.bd ahh (fun _=>.rt) bW:Dn 1 _) (.fl:Dn 1 _) bW bW:Dn 1 _) bW bW:Dn 1 _) bW bW
end Ps
namespace Lx
open Nu
open Go.RowKit
def vF (bk xk:Int) (last:Bool):Bool:=if xk=4 then !decide (bk=4) else if xk=0 then decide (bk=4)&&last else true
def tK (first:Bool) (bk bl xk xl:Int):Bool:=if first=true then decide (1<=xl) else if ¬bk=4 then decide (xl=bl) else if xk=0 then decide (bl<=xl) else decide (bl<xl)
def yt (first:Bool) (b x:Tk) (last:Bool):Int:=
 if x.k<0∨4<x.k then 1 else if (jH x&&vF b.k x.k last)=false then 8 else if tK first b.k b.l x.k x.l=false then 12 else 0
def jD (l:List Tk) (k:Nat):Tk:=if k=0 then ⟨4,mt,0,0⟩ else l.getD (k-1) ⟨4,mt,0,0⟩
theorem J5 {l:List Tk} {j:Nat} (h:j<l.length):jD l (j+1)=l[j]:=by
 unfold jD;rw[if_neg bT,Nat.add_sub_cancel];simp[List.getD,List.getElem?_eq_getElem h]
def Cf (l:List Tk) (k:Nat):Int:=yt (decide (k=0)) (jD l k) (l.getD k ⟨4,mt,0,0⟩) (decide (k+1=l.length))
theorem getD_at {l:List Tk} {k:Nat} (h:k<l.length):l.getD k ⟨4,mt,0,0⟩=l[k]:=by simp[List.getD,List.getElem?_eq_getElem h]
def yI (V:Nat->Int):Nat->Int
 | 0=>0
 | n+1=>if yI V n=0 then V n else yI V n
theorem RU {V:Nat->Int} {n:Nat}:yI V n=0 ↔ ∀i,i<n->V i=0:=by
 induction n with
 | zero=>exact⟨fun _ i hi=>absurd hi (Nat.not_lt_zero _),fun _=>rfl⟩
 | succ m ih=>
  show(if yI V m=0 then V m else yI V m)=0↔_
  constructor
  · intro h
    split at h
    · rename_i h0
      intro i hi;by_cases e:i=m
      · subst e;exact h
      · exact ih.1 h0 i bT
    · rename_i h0;exact absurd h h0
  · intro h;rw[if_pos (ih.2 fun i hi=>h i bT)];exact h m bT
def kF (l:List Tk):Int:=if yI (Cf l) l.length=0 then (if (jD l l.length).k=0 then 0 else 8) else yI (Cf l) l.length
end Lx
namespace Lx
open Nu
open Go.RowKit
def bx (w':af) (g:Nat) (x:Tk):Prop:=w'.cell? ⟨g,0,ah⟩=ai (.int .i64 x.k)/\w'.cell? ⟨g,1,ah⟩=ai (.string x.t)/\w'.cell? ⟨g,2,ah⟩=ai (.int .i64 x.n)/\w'.cell? ⟨g,3,ah⟩=ai (.int .i64 x.l)/\(∀o,w'.frozen? ⟨g,o,ah⟩=false)/\g<w'.heap.size
theorem bx.new {w:af} {x:Tk}:bx (w.alloc (.cells #[.int .i64 x.k,.string x.t,.int .i64 x.n,.int .i64 x.l] 125)) w.heap.size x:=by
 have h:=zP (w:=w) (x:=x) (t:=125);exact⟨h.1,h.2.1,h.2.2.1,h.2.2.2,fun o=>frozen_of_row _ _ o _ _ (heap_alloc_new w _),by simp⟩
theorem bx.on {w w2:af} {g:Nat} {x:Tk} (hb:Below w.heap.size w w2) (h:bx w g x):bx w2 g x:=by
 exact zzg
end Lx
namespace Ps
open Ps.P (rt fl bd acc see kd exp len)
open Lx (Tk bs mt)
open Ex (Ex)
structure Sat {α:Type} (Q:α->Prop) (m:P α):Prop where
 out:∀{t u:List Tk} {x:α},Gd t->run m t=.ok x u->Q x/\Gd u
section
variable {α β:Type} {Q:α->Prop} {Q':β->Prop} {m:P β} {k:β->P α} {A B:P α} {s:ByteArray}
theorem Sat.dn {n:Nat} {m:P α} (h:Dn n m):Sat (fun _=>True) m:=⟨fun g e=>⟨trivial,(h.out g e).1⟩⟩
theorem Sat.imp {Q2:α->Prop} {m:P α} (h:Sat Q m) (hi:∀x,Q x->Q2 x):Sat Q2 m:=⟨fun g e=>⟨hi _ (h.out g e).1,(h.out g e).2⟩⟩
theorem Sat.rt {x:α} (h:Q x):Sat Q (rt x):=⟨fun g e=>by rw[zW] at e;cases e;exact⟨h,g⟩⟩
theorem Sat.fl:Sat Q (fl:P α):=⟨fun g e=>by rw[Sq] at e;cases e⟩
theorem Sat.bd (h:Sat Q' m) (hk:∀x,Q' x->Sat Q (k x)):Sat Q (bd m k):=by
 refine⟨fun {t u x} g e=>?_⟩
 cases hm:run m t with
 | ok y v=>
  rw[dK hm] at e;obtain⟨h1,h2⟩:=h.out g hm;exact(hk y h1).out h2 e
 | no v=>rw[iq hm] at e;cases e
theorem Sat.len {f:Nat->β->α} (h:Sat Q' m) (hf:∀d x,Q' x->Q (f d x)):Sat Q (len m f):=by
 refine⟨fun {t u x} g e=>?_⟩
 cases hm:run m t with
 | ok y v=>rw[Ij hm] at e;cases e;obtain⟨h1,h2⟩:=h.out g hm;exact⟨hf _ _ h1,h2⟩
 | no v=>rw[LQ hm] at e;cases e
theorem Sat.acc (hs:¬bs s=[]) (hA:Sat Q A) (hB:Sat Q B):Sat Q (acc s A B):=by
 refine⟨fun {t u x} g e=>?_⟩
 cases hi:is s t with
 | true=>rw[nW hi] at e;exact hA.out (EM g hs hi).1 e
 | false=>rw[ek hi] at e;exact hB.out g e
theorem Sat.see (hA:Sat Q A) (hB:Sat Q B):Sat Q (see s A B):=by
 exact zzu
theorem Sat.kd {j:Int} (hA:Sat Q A) (hB:Sat Q B):Sat Q (kd j A B):=by
 exact adJ
end
def Bn (n:Int):Prop:=-1000000000000<=n/\n<=1000000000000
theorem amQ:Sat (fun n=>0<=n/\n<=1000000000000) num:=by
 refine⟨fun {t u x} g e=>?_⟩;by_cases hi:(hd t).k=2
 · have e2:run num t=.ok (hd t).n t.tail:=by unfold num;rw[dK (yT hi)];rfl
   rw[e2] at e;cases e
   exact⟨g.wf.n,(g.tail bT).1⟩
 · have e2:run num t=.no t:=by unfold num;rw[iq (DJ hi)]
   rw[e2] at e;cases e
def QE (e:Ex):Prop:=(e.o=5->∃s m y,e=.mk 5 s m [y]/\Bn y.n)/\Bn e.n
theorem Er:Bn 0:=by unfold Bn;omega
theorem Ba {o:Int} {x y:Ex} (h:¬o=5):QE (dZ o x y):=⟨fun e=>absurd e h,Er⟩
theorem Sc {o:Int} {x:Ex} (hx:QE x):QE (jq o x):=⟨fun e=>⟨mt,0,x,by have e:o=5:=e;rw[e];rfl,hx.2⟩,Er⟩
theorem Dk {o n:Int} {s:ByteArray} (h:¬o=5) (hn:Bn n):QE (.mk o s n []):=⟨fun e=>absurd e h,hn⟩
theorem abC {α:Type} {Q:α->Prop} {A:Int->P α} {B:P α} (hB:Sat Q B):∀{os:List (ByteArray×Int)},(∀q∈os,Sat Q (A q.2))->(∀q∈os,¬bs q.1=[])->Sat Q (tJ A B os)
 | [],_,_=>hB
 | q::r,hA,hs=>.acc (hs q (.head _)) (hA q (.head _)) (abC hB (fun p hp=>hA p (.tail _ hp)) fun p hp=>hs p (.tail _ hp))
section
variable {m:P Ex} {os:List (ByteArray×Int)}
theorem aby (h:Sat QE m) (hs:∀q∈os,¬bs q.1=[]) (h5:∀q∈os,¬q.2=5):∀n e,QE e->Sat QE (ql m os n e)
 | 0,_,_=>.fl
 | n+1,e,he=>abC (.rt he) (fun q hq=>.bd h fun y _=>aby h hs h5 n _ (Ba (h5 q hq))) hs
theorem MJ (h:Sat QE m) (hs:∀q∈os,¬bs q.1=[]) (h5:∀q∈os,¬q.2=5):Sat QE (uH m os):=.bd h fun e he=>aby h hs h5 FU e he
end
section
variable {E F N:P Ex}
theorem abB (h:Sat QE E) (o:Int):Sat QE (one E o):=.bd (.dn (.exp bR:Dn 1 _)) fun _ _=>.bd h fun x hx=>.bd (.dn (.exp bR:Dn 1 _)) fun _ _=>.rt (Sc hx)
theorem abE (h:Sat QE E) {o:Int} (ho:¬o=5):Sat QE (two E o):=.bd (.dn (.exp bR:Dn 1 _)) fun _ _=>.bd h fun x hx=>.bd (.dn (.exp bR:Dn 1 _)) fun _ _=>.bd h fun y hy=>.bd (.dn (.exp bR:Dn 1 _)) fun _ _=>.rt (Ba ho)
theorem SG {o:Int} (ho:¬o=5):Sat QE (tH o):=.bd (.dn (.exp bR:Dn 1 _)) fun _ _=>.bd (.dn lh) fun s _=>.bd (.dn (.exp bR:Dn 1 _)) fun _ _=>.rt (Dk ho Er)
theorem alx {d:Nat} {e:Ex} (h:QE e):QE (neg d e):=by
 unfold neg
 split
 · obtain⟨s,m,y,he,hy⟩:=h.1 rfl;injection he with _ _ _ he;injection he with he;subst he;exact Dk bR (by unfold Bn at hy ⊢; simp only[Ex.n] at hy;omega)
 · exact h
theorem amP (h:Sat QE E):Sat QE (yA E):=.len (Q':=QE) (.bd (.dn (.exp bR:Dn 1 _)) fun _ _=>.bd h fun x hx=>.bd (.dn (.exp bR:Dn 1 _)) fun _ _=>.rt hx) fun d x hx=>alx hx
theorem abD:Sat Bn tV:=.acc bR (.rt (by unfold Bn;omega)) (.bd (.dn (.exp bR:Dn 1 _)) fun _ _=>.rt Er)
theorem amR (h:Sat QE E):Sat QE (qw E):=
 .kd (.bd amQ fun n hn=>.rt (Dk bR (by unfold Bn;omega))) <|
 .see (.bd abD fun n hn=>.rt (Dk bR hn)) <|
 .see (.bd abD fun n hn=>.rt (Dk bR hn)) <|
 .acc bR (.rt (Dk bR Er)) <|
 .acc bR (abB h 7) <|
 .acc bR (abB h 8) <|
 .acc bR (abE h bR) <|
 .acc bR (abE h bR) <|
 .acc bR (SG bR) <|
 .acc bR (SG bR) <|
 .acc bR (SG bR) <|
 .see (amP h) <|
 .bd (.dn lh) fun s _=>.rt (Dk bR Er)
theorem SF (h:Sat QE E) (hF:Sat QE F):Sat QE (jG E F):=.acc bR (.bd hF fun x hx=>.rt (Sc hx)) (amR h)
theorem Dv (h:Sat QE F):Sat QE (sum F):=MJ (MJ h bR bR) bR bR
theorem amN (h:Sat QE F):Sat QE (cmp F):=.bd (Dv h) fun x hx=>
 .acc bR (.bd (Dv h) fun y hy=>.rt (Ba bR)) <|
 .acc bR (.bd (Dv h) fun y hy=>.rt (Ba bR)) <|
 .acc bR (.bd (Dv h) fun y hy=>.rt (Ba bR)) <|
 .acc bR (.bd (Dv h) fun y hy=>.rt (Ba bR)) <|
 .acc bR (.bd (Dv h) fun y hy=>.rt (Ba bR)) <|
 .acc bR (.bd (Dv h) fun y hy=>.rt (Ba bR)) <|
 .rt hx
theorem abA (h:Sat QE F) (hN:Sat QE N):Sat QE (lq F N):=.acc bR (.bd hN fun x hx=>.rt (Sc hx)) (amN h)
theorem amO (h:Sat QE N):Sat QE (oO N):=MJ (MJ h bR bR) bR bR
theorem abz:∀n,Sat QE (fF n)/\Sat QE (fN n)/\Sat QE (fE n)
 | 0=>by rw[fF,fN,fE];exact⟨.fl,.fl,.fl⟩
 | n+1=>by
  obtain⟨h1,h2,h3⟩:=abz n;rw[fF,fN,fE];exact⟨SF h3 h1,abA (SF h3 h1) h2,amO (abA (SF h3 h1) h2)⟩
end
theorem ah3 (n:Nat):∀u x v,Gd u->run (fE n) u=.ok x v->x.o=5->∃s m y,x=.mk 5 s m [y]/\-1000000000000<=y.n/\y.n<=1000000000000:=fun u x v g e ho=>((abz n).2.2.out g e).1.1 ho
end Ps
end Go.Proofs.YtkpekhpgdajabaaGreatDoor
