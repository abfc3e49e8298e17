/-
  Parts of this proof: The contracts of the reference's Number and long. The contract of the reference's longest. What reading leaves. What holds of all that a rule reads. The contract of Keyword.
-/
import Derived.Test.YthnillhnjhalmaaGreatDoorYLxSpan
import Derived.Test.YthnillhnjhalmaaGreatDoorYPBase
open Bool renaming and_eq_true->ae
set_option linter.unusedVariables false
set_option maxRecDepth 100000
set_option maxHeartbeats 4000000
open Go.Lib (hid)
namespace Go.Proofs.YthnillhnjhalmaaGreatDoor
namespace Lx
open Nu
open Go.RowKit
def TJ (o:Option Int):Value:=match o with|some v=>.tuple #[.int .i64 v,.bool true]|none=>.tuple #[.int .i64 0,.bool false]
theorem al3 {l:List UInt8} (h:l.length=0):jL l=none:=by unfold jL;rw[if_pos (.inl h)]
theorem al5 {l:List UInt8} (h:13<l.length):jL l=none:=by unfold jL;rw[if_pos (.inr (.inl h))]
theorem al6 {l:List UInt8} (h:1<l.length) (g:l[0]=48):jL l=none:=by
 have e:l.headD 0=48:=by
  cases l with
  | nil=>simp at h
  | cons c t=>exact g
 unfold jL;rw[if_pos (.inr (.inr (.inl ⟨h,e⟩)))]
theorem al2 {l:List UInt8} {k:Nat} (hk:k<l.length) (h:dY l[k]=false):jL l=none:=by
 have e:l.all dY=false:=by
  exact afo
 unfold jL;rw[if_pos (.inr (.inr (.inr (.inl e))))]
theorem al4 {l:List UInt8} (h:1000000000000<iA l):jL l=none:=by unfold jL;rw[if_pos (.inr (.inr (.inr (.inr h))))]
theorem aql {l:List UInt8} (h0:l.length≠0) (h1:l.length<=13) (h2:¬(1<l.length/\l.headD 0=48)) (h3:All dY l l.length) (h4:iA l<=1000000000000):jL l=some (iA l):=by
 unfold jL;rw[if_neg];simp only[not_or,Bool.not_eq_false];refine⟨h0,by omega,h2,?_,by omega⟩;rw[List.all_eq_true];intro c hc;obtain⟨j,hj,rfl⟩:=List.getElem_of_mem hc;exact h3 j hj hj
theorem M7 {l:List UInt8} (h:0<l.length):l.headD 0=l[0]:=by
 cases l with
 | nil=>simp at h
 | cons c t=>rfl
theorem xx {c:UInt8} {n:Nat} (hn:n<256):(c=UInt8.ofNat n)↔((c.toNat:Int)=(n:Int)):=by
 constructor
 · rintro rfl;rw[UInt8.toNat_ofNat'];omega
 · intro h
   apply UInt8.toNat_inj.1
   rw[UInt8.toNat_ofNat'];omega
theorem ajQ {l:List UInt8} {k:Nat} (hk:k<l.length) (h:dY l[k]=true):iA (l.take (k+1))=10*iA (l.take k)+((l[k].toNat:Int)-48):=by
 rw[List.take_succ_eq_append_getElem hk,MS,wF,if_pos (FF h)]
theorem at6 {p:Prop} (h:p:=by
 clear hb hq;go_enter Tryz.func37,Tryz.ntmps37;go_wp2_with fail;go_loop [4,5] (fun n i=>∃k:Nat,∃F:Int,k<=s.size/\i=.int .i64 (k:Nat)/\n=.int .i64 F/\0<=F/\F<10000000000000/\Hid (F=iA ((bs s).take k)/\All dY (bs s) k)) (fun n i=>s.size-(intOf i).toNat)
 case atStart=>exact⟨0,0,Nat.zero_le _,rfl,rfl,by omega,by omega,hid ⟨rfl,all_zero⟩⟩
 case round=>
  obtain⟨k,F,hk,rfl,rfl,f0,f1,HG⟩:=hrel;have d1:(0:Int)<=(k:Int):=by omega
  rcases Nat.lt_or_ge k s.size with h|h
  · have hkl:k<(bs s).length:=by rw[HL.out];exact h
    have d2:(k:Int)<(s.size:Int):=by omega
    have HD:Hid (dY (bs s)[k]=gV ((s[k]).toNat:Int)):=hid rfl;by_cases g1:gV ((s[k]).toNat:Int)=true
    · have hd:dY (bs s)[k]=true:=by rw[HD.out];exact g1
      have hdn:=FF hd;have g2:(48:Int)<=((s[k]).toNat:Int):=by have:48<=((bs s)[k]).toNat:=hdn.1;have e:((bs s)[k]).toNat=(s[k]).toNat:=rfl;omega
      have g3:((s[k]).toNat:Int)<=57:=by have:((bs s)[k]).toNat<=57:=hdn.2;have e:((bs s)[k]).toNat=(s[k]).toNat:=rfl;omega
      have hst:=ajQ hkl hd;rw[← HG.out.1] at hst;have hbd:=HB.out (k+1);have f2:0<=10*F+(((s[k]).toNat:Int)-48):=by have:=hbd.1;rw[hst] at this;exact this
      have f3:10*F+(((s[k]).toNat:Int)-48)<10000000000000:=by have:=hbd.2;rw[hst] at this;exact this
      have oP:Hid (10*F+(((s[k]).toNat:Int)-48)=iA ((bs s).take (k+1))/\All dY (bs s) (k+1)):=hid ⟨hst.symm,Qq hkl HG.out.2 hd⟩;clear hst hbd hd hdn HG HD;go_wp2_with fail;refine(Ep g1 w).mono ?_;rintro e w3 ⟨rfl,rfl⟩;clear g1;go_wp2_with fail;go_round
      case rel=>exact⟨k+1,10*F+(((s[k]).toNat:Int)-48),by omega,by go_num,by go_num,f2,f3,oP⟩
      case measure=>simp[intOf];omega
    · have g1':gV ((s[k]).toNat:Int)=false:=by simpa using g1
      have HR:=hid (al2 hkl (by rw[HD.out];exact g1'));clear g1 HG HD;go_wp2_with fail;refine(Ep g1' w).mono ?_;rintro e w3 ⟨rfl,rfl⟩;go_wp2_with fail;go_ret2
      exact⟨by rw[HR.out];rfl,rfl⟩
  · obtain rfl:k=s.size:=by omega
    have ht:(bs s).take s.size=bs s:=List.take_of_length_le t_;have HF:Hid (F=iA (bs s)):=hid (by have:=HG.out.1;rw[ht] at this;exact this);have HA:Hid (All dY (bs s) (bs s).length):=hid (by rw[HL.out];exact HG.out.2);clear HG ht;by_cases g:1000000000000<F
    · have HR:=hid (al4 (l:=bs s) (by rw[← HF.out];exact g));have q:decide ((1000000000000:Int)<F)=true:=decide_eq_true g;go_wp2_with fail;go_ret2
      exact⟨by rw[HR.out];rfl,rfl⟩
    · have HR:=hid (aql (l:=bs s) (by rw[HL.out];omega) (by rw[HL.out];omega) HH.out HA.out (by rw[← HF.out];omega));have q:decide ((1000000000000:Int)<F)=false:=decide_eq_false g;go_wp2_with fail;go_ret2
      exact⟨by rw[HR.out,← HF.out];rfl,rfl⟩
 ):p:=h
theorem atF {p:Prop} (h:p:=by
 clear hl;go_enter Tryz.func37,Tryz.ntmps37;go_wp2_with fail;go_ret2
 exact⟨rfl,rfl⟩
 ):p:=h
theorem aoc (s:ByteArray) (w:World) (hs:s.size<=9223372036854775807):Calls Tryz.prog 37 #[.string s] w fun e w'=>e=.returned (TJ (jL (bs s)))/\w'=w:=by
 have hs':(s.size:Int)<=9223372036854775807:=by omega
 have hl:=eF s;by_cases h0:s.size=0
 · have z:((s.size:Int)==0)=true:=by rw[beq_iff_eq];omega
   rw[al3 bU];exact atF
 have z:((s.size:Int)==0)=false:=by rw[beq_eq_false_iff_ne];omega
 by_cases h1:13<s.size
 · have t1:decide ((13:Int)<(s.size:Int))=true:=decide_eq_true bU;rw[al5 bU];exact atF
 have t1:decide ((13:Int)<(s.size:Int))=false:=decide_eq_false bU;have hs0:0<s.size:=by omega
 have c0:(0:Int)<(s.size:Int):=by omega
 by_cases h2:1<s.size/\(((s[0]).toNat:Nat):Int)=48
 · obtain⟨h2,h3⟩:=h2;have t2:decide ((1:Int)<(s.size:Int))=true:=decide_eq_true bU;have q3:(((s[0]).toNat:Int)==48)=true:=by rw[beq_iff_eq];exact h3
   rw[al6 (l:=bs s) bU ((xx (n:=48) bS).2 h3)];exact atF
 · have HL:=hid hl;have HH:Hid (¬(1<(bs s).length/\(bs s).headD 0=48)):=hid fun⟨g1,g2⟩=>h2 ⟨by omega,(xx (n:=48) bS).1 (by rw[M7 bU] at g2;exact g2)⟩;have HB:=hid (fun k=>ajN 13 ((bs s).take k) (by rw[List.length_take];omega));have aqo:(s.size:Int)<=13:=by omega
   have main:∀(b:Bool),(b=decide ((1:Int)<(s.size:Int)))->(b=true->(((s[0]).toNat:Int)==48)=false)->Calls Tryz.prog 37 #[.string s] w fun e w'=>e=.returned (TJ (jL (bs s)))/\w'=w:=by
    intro b hb hq;clear h2 hl
    cases b with
    | true=>
     have t2:=hb.symm;have q3:=hq rfl;exact at6
    | false=>
     have t2:=hb.symm;exact at6
   refine main _ rfl fun hb=>?_;rw[beq_eq_false_iff_ne];intro g;exact h2 ⟨by have:=of_decide_eq_true hb;omega,g⟩
end Lx
namespace Lx
open Nu
open Go.RowKit
def nA (l:List UInt8):Bool:=jG l||nU l||fZ l
def sS (l:List UInt8):Nat->Nat
 | 0=>0
 | n+1=>if nA (l.take (n+1))=true then n+1 else sS l n
def sw (l:List UInt8):Nat:=if mY l≠0 then mY l else if dm dY l≠0 then dm dY l else qV l
theorem Xr (l:List UInt8):∀n,sS l n<=n
 | 0=>Nat.le_refl _
 | n+1=>by
  show(if nA (l.take (n+1))=true then n+1 else sS l n)<=_
  split
  · exact Nat.le_refl _
  · have:=Xr l n;omega
theorem Xu {l:List UInt8} {n:Nat} (h:nA (l.take (n+1))=true):sS l (n+1)=n+1:=if_pos h
theorem QI {l:List UInt8} {n:Nat} (h:nA (l.take (n+1))=false):sS l (n+1)=sS l n:=if_neg (by simp[h])
theorem n_ {p:UInt8->Bool}:∀(l:List UInt8) (n:Nat),dm p (l.take n)=min n (dm p l)
 | [],n=>by simp[ac4]
 | c::t,0=>by simp[ac4]
 | c::t,n+1=>by
  rw[List.take_succ_cons]
  cases hc:p c with
  | false=>rw[Cg hc,Cg hc];omega
  | true=>rw[ED hc,ED hc,n_ t n];omega
theorem acZ {l:List UInt8} (h:fZ l=true):dm gq l=0/\dm dY l=0:=by
 exact Wt
theorem Rk {l:List UInt8}:nU l=true↔l.length≠0/\dm dY l=l.length:=by
 constructor
 · intro h;unfold nU at h;simp only[ae,decide_eq_true_eq] at h;exact⟨fun e=>h.1 (List.length_eq_zero_iff.1 e),Od fun j hj=>List.all_eq_true.1 h.2 _ (List.getElem_mem hj)⟩
 · rintro⟨h1,h2⟩;rw[Yn fun j hj hl=>Kb bU hl,decide_eq_true_eq];omega
theorem Ou {l:List UInt8}:jG l=true↔dm gq l≠0/\dm iU l=l.length:=by
 unfold jG;simp only[ae,decide_eq_true_eq]
theorem Tz {l:List UInt8}:nA l=true↔(dm gq l≠0/\dm iU l=l.length)∨(l.length≠0/\dm dY l=l.length)∨fZ l=true:=by
 unfold nA;rw[Bool.or_eq_true,Bool.or_eq_true,Ou,Rk,or_assoc]
theorem abD {l:List UInt8} (h:dm gq l≠0):dm dY l=0:=by
 obtain⟨c,t,rfl,hc⟩:=Kc h;refine Cg ?_;rw[← Bool.not_eq_true];intro g;have:=FF g;unfold gq gM at hc;simp only[ae,decide_eq_true_eq] at hc;omega
theorem QH {l:List UInt8} {K:Nat} (h:∀n,n<=l.length->(nA (l.take n)=true↔1<=n/\n<=K)):∀n,n<=l.length->sS l n=min n K
 | 0,_=>by show 0=_;omega
 | n+1,hn=>by
  have ih:=QH h n bU;by_cases g:nA (l.take (n+1))=true
  · rw[Xu g];have:=(h (n+1) hn).1 g;omega
  · rw[QI (by simpa using g),ih];have:¬(n+1<=K):=fun e=>g ((h (n+1) hn).2 ⟨by omega,e⟩);omega
theorem take_len {l:List UInt8} {n:Nat} (h:n<=l.length):(l.take n).length=n:=by rw[List.length_take];omega
theorem abz {l:List UInt8} (h:dm gq l≠0) (n:Nat) (hn:n<=l.length):nA (l.take n)=true↔1<=n/\n<=dm iU l:=by
 rw[Tz,n_,n_,n_,take_len hn,abD h];constructor
 · rintro(⟨g1,g2⟩|⟨g1,g2⟩|g)
   · omega
   · omega
   · have:=(acZ g).1;have e:=Jf g;rw[take_len hn] at e;rw[n_] at this;omega
 · rintro⟨g1,g2⟩;exact .inl ⟨by omega,by omega⟩
theorem aby {l:List UInt8} (h:dm gq l=0) (h2:dm dY l≠0) (n:Nat) (hn:n<=l.length):nA (l.take n)=true↔1<=n/\n<=dm dY l:=by
 rw[Tz,n_,n_,n_,take_len hn,h];constructor
 · rintro(⟨g1,g2⟩|⟨g1,g2⟩|g)
   · omega
   · omega
   · have:=(acZ g).2;have e:=Jf g;rw[take_len hn] at e;rw[n_] at this;omega
 · rintro⟨g1,g2⟩;exact .inr (.inl ⟨by omega,by omega⟩)
theorem Nk {l:List UInt8} (h:dm gq l=0) (h2:dm dY l=0) (n:Nat) (hn:n<=l.length):nA (l.take n)=fZ (l.take n):=by
 rw[Bool.eq_iff_iff,Tz,n_,n_,n_,take_len hn,h,h2];constructor
 · rintro(⟨g1,g2⟩|⟨g1,g2⟩|g)
   · omega
   · omega
   · exact g
 · exact fun g=>.inr (.inr g)
theorem Xt {l:List UInt8} (h:dm gq l=0) (h2:dm dY l=0):∀n,n<=l.length->(l.length<=n∨2<=n)->sS l n=qV l
 | 0,hn,hm=>by
  have:l=[]:=List.length_eq_zero_iff.1 bU;subst this
  decide
 | 1,hn,hm=>by
  have hl:l.length=1:=by omega
  show(if nA (l.take 1)=true then 1 else 0)=_
  rw[Nk h h2 1 hn];unfold qV;rw[if_neg (c:=2<=l.length/\_) bU]
 | 2,hn,hm=>by
  show(if nA (l.take 2)=true then 2 else if nA (l.take 1)=true then 1 else 0)=_
  rw[Nk h h2 2 hn,Nk h h2 1 bU];unfold qV;by_cases g:fZ (l.take 2)=true
  · rw[if_pos g,if_pos ⟨hn,g⟩]
  · rw[if_neg g,if_neg (c:=2<=l.length/\_) (fun e=>g e.2)]
 | n+3,hn,hm=>by
  have g:nA (l.take (n+3))=false:=by
   rw[Nk h h2 _ hn,← Bool.not_eq_true];intro e;have:=Jf e;rw[take_len hn] at this;omega
  rw[QI g];exact Xt h h2 (n+2) bU (.inr bU)
theorem adv {l:List UInt8} (h:dm gq l≠0):mY l=dm iU l/\dm iU l≠0:=by
 obtain⟨c,t,rfl,hc⟩:=Kc h;unfold mY;rw[if_neg h];have:=yw (p:=iU) (c:=c) (t:=t) (Oy hc);exact⟨rfl,by omega⟩
theorem adj {l:List UInt8} {n:Nat} (hn:n<=l.length) (hm:l.length<=n∨(3<=n/\nA (l.take n)=false)):sS l n=sw l:=by
 unfold sw;by_cases h:dm gq l=0
 · have hw:mY l=0:=by unfold mY;rw[if_pos h]
   rw[if_neg bU];by_cases h2:dm dY l=0
   · rw[if_neg bU];exact Xt h h2 n hn bU
   · rw[if_pos h2,QH (aby h h2) n hn];have hK:=qY dY l;rcases hm with g|⟨g1,g2⟩
     · omega
     · have:¬n<=dm dY l:=fun e=>by
        have:=(aby h h2 n hn).2 ⟨by omega,e⟩;rw[g2] at this;cases this
       omega
 · obtain⟨e1,e2⟩:=adv h;rw[e1,if_pos e2,QH (abz h) n hn];have hK:=qY iU l;rcases hm with g|⟨g1,g2⟩
   · omega
   · have:¬n<=dm iU l:=fun e=>by
      have:=(abz h n hn).2 ⟨by omega,e⟩;rw[g2] at this;cases this
     omega
theorem atG {p:Prop} (h:p:=by
 go_wp2_with fail;go_round
 case rel=>exact⟨N,by omega,by go_num,by rw[E.out]⟩
 case measure=>have hk':=HNk.out;simp[intOf];omega
 ):p:=h
theorem at7 {p:Prop} (h:p:=by
 clear HY HN HR;go_wp2_with fail;refine(I1 w).mono ?_;rintro e w3 ⟨rfl,rfl⟩;go_wp2_with fail;refine(I2 w3).mono ?_;rintro e w4 ⟨rfl,rfl⟩;go_wp2_with fail;refine(I3 w4).mono ?_;rintro e w5 ⟨rfl,rfl⟩;exact atG
 ):p:=h
theorem anL (s:ByteArray) (w:World) (hs:s.size<=140737488355328):Calls Tryz.prog 34 #[.string s] w fun e w'=>e=.returned (.int .i64 ((sw (bs s):Nat):Int))/\w'=w:=by
 have hs':(s.size:Int)<=140737488355328:=by omega
 have HL:=hid (eF s);go_enter Tryz.func34,Tryz.ntmps34;go_wp2_with fail;go_loop [3,4] (fun b i=>∃k:Nat,k<=s.size/\i=.int .i64 ((k:Int)+1)/\b=.int .i64 ((sS (bs s) k:Nat):Int)) (fun b i=>s.size+1-(intOf i).toNat)
 case atStart=>exact⟨0,Nat.zero_le _,rfl,rfl⟩
 case round=>
  obtain⟨k,hk,rfl,rfl⟩:=hrel;obtain⟨B,hB⟩:∃B,sS (bs s) k=B:=⟨_,rfl⟩
  have hBk:B<=k:=by rw[← hB];exact Xr _ _
  have HB:=hid hB;rw[hB];clear hB;rcases Nat.lt_or_ge k s.size with h|h
  · obtain⟨N,hN⟩:∃N:Nat,N=k+1:=⟨_,rfl⟩
    have hN2:(k:Int)+1=(N:Int):=by omega
    rw[hN2];have d1:(0:Int)<=(N:Int):=by omega
    have d2:(N:Int)<=(s.size:Int):=by omega
    have hx:bs (s.extract 0 N)=(bs s).take N:=by rw[Ja,rD]
    have hxs:(s.extract 0 N).size<=9223372036854775807:=by rw[ByteArray.size_extract];omega
    have I1:=fun w1=>acA (s.extract 0 N) w1 hxs;have I2:=fun w1=>aci (s.extract 0 N) w1 hxs;have I3:=fun w1=>aon (s.extract 0 N) w1;simp only[hx] at I1 I2 I3;have HY:Hid (nA ((bs s).take N)=true->sS (bs s) N=N):=hid fun e=>by subst hN;exact Xu e
    have HN:Hid (nA ((bs s).take N)=false->sS (bs s) N=B):=hid fun e=>by subst hN;rw[QI e,HB.out]
    have HR:Hid (nA ((bs s).take N)=false->3<=N->sS (bs s) N=sw (bs s)):=hid fun e g=>adj (by rw[HL.out];omega) (.inr ⟨g,e⟩);have HG:Hid (nA ((bs s).take N)=(jG ((bs s).take N)||nU ((bs s).take N)||fZ ((bs s).take N))):=hid rfl
    generalize jG ((bs s).take N)=bw at *
    generalize nU ((bs s).take N)=bd at *
    generalize fZ ((bs s).take N)=bg at *
    rw[HG.out] at HY HN HR;have HNk:=hid hN;have d3:decide ((N:Int)<=(s.size:Int))=true:=decide_eq_true d2;have d4:N<=s.size:=by omega
    have d5:B<N:=by omega
    clear HG hx hxs HB hN hN2 hBk
    cases bw with
    | true=>
     have E:=hid (HY.out rfl);clear HY HN HR;go_wp2_with fail;refine(I1 w).mono ?_;rintro e w3 ⟨rfl,rfl⟩;exact atG
    | false=>
     cases bd with
     | true=>
      have E:=hid (HY.out rfl);clear HY HN HR;go_wp2_with fail;refine(I1 w).mono ?_;rintro e w3 ⟨rfl,rfl⟩;go_wp2_with fail;refine(I2 w3).mono ?_;rintro e w4 ⟨rfl,rfl⟩;exact atG
     | false=>
      cases bg with
      | true=>
       have E:=hid (HY.out rfl);exact at7
      | false=>
       have E:=hid (HN.out rfl);have c4:decide ((B:Int)<(N:Int))=true:=decide_eq_true bU;by_cases g:2<N
       · have c5:decide ((2:Int)<(N:Int))=true:=decide_eq_true bU;have R:=hid ((HR.out rfl g).symm.trans E.out);clear HY HN HR E;go_wp2_with fail;refine(I1 w).mono ?_;rintro e w3 ⟨rfl,rfl⟩;go_wp2_with fail;refine(I2 w3).mono ?_;rintro e w4 ⟨rfl,rfl⟩;go_wp2_with fail;refine(I3 w4).mono ?_;rintro e w5 ⟨rfl,rfl⟩;go_wp2_with fail;go_ret;exact⟨by rw[R.out];rfl,rfl⟩
       · have c5:decide ((2:Int)<(N:Int))=false:=decide_eq_false bU;exact at7
  · obtain rfl:k=s.size:=by omega
    have R:=hid ((adj (l:=bs s) (n:=s.size) t_ (.inl t_)).symm.trans HB.out);have c6:¬(s.size:Int)+1<=(s.size:Int):=by omega
    have c7:decide ((s.size:Int)+1<=(s.size:Int))=false:=decide_eq_false c6;go_wp2_with fail;go_ret;exact⟨by rw[R.out];rfl,rfl⟩
end Lx
namespace Ps
open Ps.P (rt fl bd acc see kd kw tk exp len)
open Lx (Tk bs eF lV jG fZ)
open Na (iP)
open Ex (Ex)
open Sm (St)
open Md (cZ dM)
def Wf (x:Tk):Prop:=lV x=true/\0<=x.k/\x.k<=4/\x.t.size<=20000/\0<=x.l/\x.l<=30000
def Gd:List Tk->Prop
 | []=>False
 | [x]=>Wf x/\x.k=0
 | x::y::r=>Wf x/\¬x.k=0/\Gd (y::r)
theorem Gd.ne {t:List Tk} (h:Gd t):0<t.length:=by
 cases t with
 | nil=>exact h.elim
 | cons x r=>simp
theorem Gd.wf {t:List Tk} (h:Gd t):Wf (hd t):=by
 match t,h with
 | [x],h=>exact h.1
 | x::y::r,h=>exact h.1
theorem Gd.tail {t:List Tk} (h:Gd t) (hk:¬(hd t).k=0):Gd t.tail/\t.tail.length+1=t.length:=by
 match t,h with
 | [x],h=>exact absurd h.2 hk
 | x::y::r,h=>exact⟨h.2.2,rfl⟩
theorem Gd.last {t:List Tk} (h:Gd t) (hk:(hd t).k=0):t.length=1:=by
 match t,h with
 | [x],h=>rfl
 | x::y::r,h=>exact absurd hk h.2.1
theorem Wf.txt {x:Tk} (h:Wf x) (h1:¬x.k=1) (h3:¬x.k=3):bs x.t=[]:=by
 obtain⟨hf,-⟩:=h;unfold lV at hf;rw[if_neg h1] at hf;have key:x.t.size=0->bs x.t=[]:=fun h=>List.length_eq_zero_iff.1 Hr
 split at hf
 · rw[ae,decide_eq_true_eq] at hf;exact key hf.1
 · try rw[if_neg h3] at hf
   simp only[ae,decide_eq_true_eq] at hf;exact key hf.2
theorem Wf.wd {x:Tk} (h:Wf x) (h1:x.k=1):jG (bs x.t)=true:=by
 obtain⟨hf,-⟩:=h;unfold lV at hf;rw[if_pos h1,ae] at hf;exact hf.1
theorem asP {p:Prop} (h:p:=by omega):p:=h
theorem Wf.sg {x:Tk} (h:Wf x) (h1:x.k=3):fZ (bs x.t)=true:=by
 obtain⟨hf,-⟩:=h;unfold lV at hf;rw[if_neg asP,if_neg asP,if_pos h1,ae] at hf;exact hf.1
theorem Wf.n {x:Tk} (h:Wf x):0<=x.n/\x.n<=1000000000000:=by
 obtain⟨hf,-⟩:=h;unfold lV at hf
 split at hf
 · simp only[ae,decide_eq_true_eq] at hf;omega
 · split at hf
   · simp only[ae,decide_eq_true_eq] at hf;omega
   · split at hf <;> (simp only[ae,decide_eq_true_eq] at hf;omega)
theorem M_ {s:ByteArray} {t:List Tk}:is s t=true↔bs (hd t).t=bs s:=by unfold is;exact decide_eq_true_iff
theorem aaL {s:ByteArray} {t:List Tk}:is s t=false ↔ ¬bs (hd t).t=bs s:=by unfold is;exact decide_eq_false_iff_not
theorem zo {s:ByteArray} {t:List Tk} (h:Gd t) (hs:¬bs s=[]) (hi:is s t=true):(hd t).k=1∨(hd t).k=3:=by
 rw[M_] at hi;by_cases h1:(hd t).k=1
 · exact .inl h1
 · by_cases h3:(hd t).k=3
   · exact .inr h3
   · exact absurd (hi▸h.wf.txt h1 h3) hs
theorem akJ {s:ByteArray} {t:List Tk} (h:Gd t) (hs:fZ (bs s)=false) (h0:¬bs s=[]) (hi:is s t=true):(hd t).k=1:=by
 rcases zo h h0 hi with g|g
 · exact g
 · have:=h.wf.sg g;rw[M_.1 hi,hs] at this;cases this
theorem Tf {s:ByteArray} {t:List Tk} (h:Gd t) (hs:jG (bs s)=false) (h0:¬bs s=[]) (hi:is s t=true):(hd t).k=3:=by
 rcases zo h h0 hi with g|g
 · have:=h.wf.wd g;rw[M_.1 hi,hs] at this;cases this
 · exact g
theorem kU {s:ByteArray} {t:List Tk} (h:Gd t) (hs:¬bs s=[]) (hi:is s t=true):Gd t.tail/\t.tail.length+1=t.length:=h.tail (by rcases zo h hs hi with g|g <;> omega)
structure Dn {α:Type} (n:Nat) (m:P α):Prop where
 out:∀{t u:List Tk} {x:α},Gd t->run m t=.ok x u->Gd u/\u.length+n<=t.length
section
variable {α β:Type} {m:P α} {k:α->P β} {A B:P α} {a b n:Nat} {s:ByteArray}
theorem Dn.le (h:Dn a m) (hn:n<=a):Dn n m:=⟨fun g e=>by have:=h.out g e;exact⟨this.1,by omega⟩⟩
theorem Dn.rt {x:α}:Dn 0 (rt x):=⟨fun g e=>by rw[jX] at e;cases e;exact⟨g,Nat.le_refl _⟩⟩
theorem Dn.fl:Dn n (fl:P α):=⟨fun g e=>by rw[Gw] at e;cases e⟩
theorem Dn.bd (h:Dn a m) (hk:∀x,Dn b (k x)) (hn:n<=a+b):Dn n (bd m k):=by
 refine⟨fun {t u x} g e=>?_⟩
 cases hm:run m t with
 | ok y v=>
  rw[dN hm] at e;obtain⟨h1,h2⟩:=h.out g hm;obtain⟨h3,h4⟩:=(hk y).out h1 e;exact⟨h3,by omega⟩
 | no v=>rw[eU hm] at e;cases e
theorem Dn.len {f:Nat->α->β} (h:Dn n m):Dn n (len m f):=by
 refine⟨fun {t u x} g e=>?_⟩
 cases hm:run m t with
 | ok y v=>rw[Gg hm] at e;cases e;exact h.out g hm
 | no v=>rw[JA hm] at e;cases e
theorem Dn.acc (hs:¬bs s=[]) (hA:Dn a A) (hB:Dn b B) (h1:n<=a+1) (h2:n<=b):Dn n (acc s A B):=by
 refine⟨fun {t u x} g e=>?_⟩
 cases hi:is s t with
 | true=>
  rw[um hi] at e;obtain⟨h3,h4⟩:=kU g hs hi;obtain⟨h5,h6⟩:=hA.out h3 e;exact⟨h5,by omega⟩
 | false=>
  rw[lQ hi] at e;obtain⟨h5,h6⟩:=hB.out g e;exact⟨h5,by omega⟩
theorem Dn.see (hA:Dn a A) (hB:Dn b B) (h1:n<=a) (h2:n<=b):Dn n (see s A B):=by
 refine⟨fun {t u x} g e=>?_⟩
 cases hi:is s t with
 | true=>rw[Ez hi] at e;obtain⟨h5,h6⟩:=hA.out g e;exact⟨h5,by omega⟩
 | false=>rw[Ey hi] at e;obtain⟨h5,h6⟩:=hB.out g e;exact⟨h5,by omega⟩
theorem Dn.kd {j:Int} (hA:Dn a A) (hB:Dn b B) (h1:n<=a) (h2:n<=b):Dn n (kd j A B):=by
 refine⟨fun {t u x} g e=>?_⟩;by_cases hi:(hd t).k=j
 · rw[BO hi] at e;obtain⟨h5,h6⟩:=hA.out g e;exact⟨h5,by omega⟩
 · rw[DX hi] at e;obtain⟨h5,h6⟩:=hB.out g e;exact⟨h5,by omega⟩
theorem Dn.kw (hA:Dn a A) (hB:Dn b B) (h1:n<=a) (h2:n<=b):Dn n (kw A B):=by
 refine⟨fun {t u x} g e=>?_⟩
 cases hi:iP (bs (hd t).t) with
 | true=>rw[Ga hi] at e;obtain⟨h5,h6⟩:=hA.out g e;exact⟨h5,by omega⟩
 | false=>rw[Jy hi] at e;obtain⟨h5,h6⟩:=hB.out g e;exact⟨h5,by omega⟩
theorem Dn.tk {j:Int} (hj:¬j=0):Dn 1 (tk j):=by
 refine⟨fun {t u x} g e=>?_⟩;by_cases hi:(hd t).k=j
 · rw[tO hi] at e;cases e;have:=g.tail asP;exact⟨this.1,by omega⟩
 · rw[zO hi] at e;cases e
theorem Dn.exp (hs:¬bs s=[]):Dn 1 (exp s):=by
 refine⟨fun {t u x} g e=>?_⟩
 cases hi:is s t with
 | true=>rw[uJ hi] at e;cases e;have:=kU g hs hi;exact⟨this.1,by omega⟩
 | false=>rw[BH hi] at e;cases e
theorem Dn.iff {c:Prop} [Decidable c] (hA:Dn n A) (hB:Dn n B):Dn n (if c then A else B):=by split <;> assumption
end
theorem lC:Dn 1 num:=.bd (.tk bS) (fun _=>.rt) asP
theorem Rq:Dn 1 rQ:=.acc bS (.bd lC (fun _=>.rt) asP:Dn 1 _) lC asP asP
theorem IJ:Dn 1 sD:=.acc bS .rt (.bd (.exp bS) (fun _=>.rt) asP:Dn 1 _) asP asP
theorem lS:Dn 1 f_:=.kw (.fl:Dn 1 _) (.bd (.tk bS) (fun _=>.rt) asP:Dn 1 _) asP asP
theorem aiG (s:ByteArray) (hs:¬bs s=[]):Dn 2 (zy s):=.bd (.exp hs) (fun _=>lS) asP
theorem nR:Dn 1 fM:=.bd (.tk bS) (fun _=>.rt) asP
theorem Yw:Dn 2 xW:=.bd lS (fun _=>.bd nR (fun _=>.rt) asP:∀_,Dn 1 _) asP
theorem Mt:Dn 3 pr:=.bd lC (fun _=>.bd (.exp bS) (fun _=>.bd lC (fun _=>.rt) asP:∀_,Dn 1 _) asP:∀_,Dn 2 _) asP
theorem YA:∀n l,Dn 0 (Gr n l)
 | 0,l=>.fl
 | n+1,l=>.kd (.bd Mt (fun x=>YA n (l++[x])) asP:Dn 3 _) .rt asP asP
theorem YB:Dn 3 AX:=.bd Mt (fun x=>YA FU [x]) asP
section
variable {α:Type} {e:P α}
theorem Rs (h:Dn 1 e):∀n l,Dn 1 (xQ e n l)
 | 0,l=>.fl
 | n+1,[]=>.acc bS .rt (.bd h (fun x=>Rs h n [x]) asP:Dn 2 _) asP asP
 | n+1,y::r=>.acc bS .rt (.bd (.exp bS) (fun _=>.bd h (fun x=>Rs h n ((y::r)++[x])) asP:∀_,Dn 2 _) asP:Dn 3 _) asP asP
theorem Ru (h:Dn 1 e):Dn 2 (BQ e):=.bd (.exp bS) (fun _=>Rs h FU []) asP
end
theorem Rn:Dn 2 dst:=
 .acc bS (.bd lC (fun _=>.rt) asP:Dn 1 _)
 (.acc bS (.bd lC (fun _=>.bd lC (fun _=>.rt) asP:∀_,Dn 1 _) asP:Dn 1 _)
 (.acc bS (.bd YB (fun _=>.rt) asP:Dn 1 _)
 (.acc bS (.bd lC (fun _=>.bd lC (fun _=>.bd lC (fun _=>.rt) asP:∀_,Dn 1 _) asP:∀_,Dn 1 _) asP:Dn 1 _)
 (.acc bS (.bd lC (fun _=>.bd lC (fun _=>.rt) asP:∀_,Dn 1 _) asP:Dn 1 _) (.fl:Dn 2 _) asP asP:Dn 2 _) asP asP:Dn 2 _) asP asP:Dn 2 _) asP asP:Dn 2 _) asP asP
theorem Yy {α:Type} {A:Int->P α} {B:P α} {n:Nat} (hA:∀o,Dn n (A o)) (hB:Dn n B):∀{os:List (ByteArray×Int)},(∀q∈os,¬bs q.1=[])->Dn n (rZ A B os)
 | [],_=>hB
 | q::r,hs=>.acc (hs q List.mem_cons_self) (hA q.2) (Yy hA hB fun z hz=>hs z (List.mem_cons_of_mem _ hz)) asP asP
section
variable {m:P Ex} {os:List (ByteArray×Int)}
theorem Yr (h:Dn 1 m) (hs:∀q∈os,¬bs q.1=[]):∀n e,Dn 0 (gU m os n e)
 | 0,e=>.fl
 | n+1,e=>Yy (fun o=>.bd h (fun y=>Yr h hs n (dF o e y)) asP) .rt hs
theorem Mm (h:Dn 1 m) (hs:∀q∈os,¬bs q.1=[]):Dn 1 (gI m os):=.bd h (fun e=>Yr h hs FU e) asP
end
section
variable {E F N:P Ex}
theorem Yx (h:Dn 1 E) (o:Int):Dn 3 (one E o):=.bd (.exp bS) (fun _=>.bd h (fun _=>.bd (.exp bS) (fun _=>.rt) asP:∀_,Dn 1 _) asP:∀_,Dn 2 _) asP
theorem YH (h:Dn 1 E) (o:Int):Dn 5 (two E o):=.bd (.exp bS) (fun _=>.bd h (fun _=>.bd (.exp bS) (fun _=>.bd h (fun _=>.bd (.exp bS) (fun _=>.rt) asP:∀_,Dn 1 _) asP:∀_,Dn 2 _) asP:∀_,Dn 3 _) asP:∀_,Dn 4 _) asP
theorem Rx (o:Int):Dn 3 (xZ o):=.bd (.exp bS) (fun _=>.bd lS (fun _=>.bd (.exp bS) (fun _=>.rt) asP:∀_,Dn 1 _) asP:∀_,Dn 2 _) asP
theorem aiC (h:Dn 1 E):Dn 3 (wH E):=.len (.bd (.exp bS) (fun _=>.bd h (fun _=>.bd (.exp bS) (fun _=>.rt) asP:∀_,Dn 1 _) asP:∀_,Dn 2 _) asP)
theorem aiH (h:Dn 1 E):Dn 1 (wO E):=
 .kd (.bd lC (fun _=>.rt) asP:Dn 1 _) (.see (.bd IJ (fun _=>.rt) asP:Dn 1 _) (.see (.bd IJ (fun _=>.rt) asP:Dn 1 _)
 (.acc bS .rt (.acc bS (Yx h 7) (.acc bS (Yx h 8) (.acc bS (YH h 20) (.acc bS (YH h 21)
 (.acc bS (Rx 22) (.acc bS (Rx 23) (.acc bS (Rx 24) (.see (aiC h) (.bd lS (fun _=>.rt) asP:Dn 1 _)
 asP asP:Dn 1 _) asP asP:Dn 1 _) asP asP:Dn 1 _) asP asP:Dn 1 _) asP asP:Dn 1 _) asP asP:Dn 1 _)
 asP asP:Dn 1 _) asP asP:Dn 1 _) asP asP:Dn 1 _) asP asP:Dn 1 _) asP asP:Dn 1 _) asP asP
theorem aiB (h:Dn 1 E) (g:Dn 1 F):Dn 1 (rJ E F):=.acc bS (.bd g (fun _=>.rt) asP:Dn 1 _) (aiH h) asP asP
theorem Ry (g:Dn 1 F):Dn 1 (JS F):=Mm g bS
theorem Ao (g:Dn 1 F):Dn 1 (sum F):=Mm (Ry g) bS
theorem aiy (g:Dn 1 F):Dn 1 (cmp F):=
 .bd (Ao g) (fun _=>.acc bS (.bd (Ao g) (fun _=>.rt) asP:Dn 1 _) (.acc bS (.bd (Ao g) (fun _=>.rt) asP:Dn 1 _) (.acc bS (.bd (Ao g) (fun _=>.rt) asP:Dn 1 _)
 (.acc bS (.bd (Ao g) (fun _=>.rt) asP:Dn 1 _) (.acc bS (.bd (Ao g) (fun _=>.rt) asP:Dn 1 _) (.acc bS (.bd (Ao g) (fun _=>.rt) asP:Dn 1 _) .rt
 asP asP:Dn 0 _) asP asP:Dn 0 _) asP asP:Dn 0 _) asP asP:Dn 0 _) asP asP:Dn 0 _) asP asP:∀_,Dn 0 _) asP
theorem aiF (g:Dn 1 F) (h:Dn 1 N):Dn 1 (qP F N):=.acc bS (.bd h (fun _=>.rt) asP:Dn 1 _) (aiy g) asP asP
theorem Rm (g:Dn 1 F):Dn 1 (Iz F):=Mm g bS
theorem aiz (g:Dn 1 F):Dn 1 (FM F):=Mm (Rm g) bS
end
theorem Ms:∀n,Dn 1 (fF n)/\Dn 1 (fN n)/\Dn 1 (fE n)
 | 0=>⟨by rw[fF];exact .fl,by rw[fN];exact .fl,by rw[fE];exact .fl⟩
 | n+1=>by
  obtain⟨h1,h2,h3⟩:=Ms n;have a:Dn 1 (fF (n+1)):=by rw[DF];exact aiB h3 h1
  have b:Dn 1 (fN (n+1)):=by rw[IQ];exact aiF a h2
  exact⟨a,b,by rw[IP];exact aiz b⟩
theorem IG (n:Nat):Dn 1 (fF n):=(Ms n).1
theorem Ro (n:Nat):Dn 1 (fN n):=(Ms n).2.1
theorem Dx (n:Nat):Dn 1 (fE n):=(Ms n).2.2
theorem FJ:Dn 1 jO:=Dx FU
theorem aix (o:Int):Dn 2 (uu o):=.bd lS (fun _=>.bd FJ (fun _=>.rt) asP:∀_,Dn 1 _) asP
theorem Yq (o:Int) (f:ByteArray):Dn 1 (Fu o f):=.bd lS (fun _=>.bd (Ru FJ) (fun _=>.bd (.exp bS) (fun _=>.bd FJ (fun _=>.rt) asP:∀_,Dn 0 _) asP:∀_,Dn 0 _) asP:∀_,Dn 0 _) asP
theorem Mo:Dn 2 cnd:=.bd FJ (fun _=>.bd nR (fun _=>.rt) asP:∀_,Dn 1 _) asP
theorem YG {B:P (List St)} (h:Dn 0 B):Dn 1 (stt B):=by
 have a:∀o,Dn 0 (uu o):=fun o=>(aix o).le asP;have n1:∀(k:ByteArray->P St),(∀s,Dn 0 (k s))->Dn 0 (bd f_ k):=fun k hk=>.bd lS hk asP;have x1:∀(k:Ex->P St),(∀s,Dn 0 (k s))->Dn 0 (bd jO k):=fun k hk=>.bd FJ hk asP;have e1:∀(s:ByteArray) (k:Unit->P St),¬bs s=[]->(∀x,Dn 0 (k x))->Dn 0 (bd (exp s) k):=fun s k hs hk=>.bd (.exp hs) hk asP;have b1:∀(s:ByteArray) (k:ByteArray->P St),¬bs s=[]->(∀x,Dn 0 (k x))->Dn 0 (bd (zy s) k):=fun s k hs hk=>.bd (aiG s hs) hk asP;have st:∀(s:ByteArray) (A B:P St),¬bs s=[]->Dn 0 A->Dn 1 B->Dn 1 (acc s A B):=fun s A B hs hA hB=>.acc hs hA hB asP asP;unfold stt;refine st _ _ _ bS (n1 _ fun _=>e1 _ _ bS fun _=>x1 _ fun _=>.rt) ?_;refine st _ _ _ bS (n1 _ fun _=>b1 _ _ bS fun _=>.bd (Rn.le asP:Dn 0 _) (fun _=>.rt) asP) ?_;refine st _ _ _ bS (.bd Mo (fun _=>.bd h (fun _=>.bd (.acc bS (.bd nR (fun _=>h) asP:Dn 0 _) .rt asP asP:Dn 0 _) (fun _=>e1 _ _ bS fun _=>.rt) asP:∀_,Dn 0 _) asP:∀_,Dn 0 _) asP) ?_;refine st _ _ _ bS (.bd Mo (fun _=>.bd h (fun _=>e1 _ _ bS fun _=>.rt) asP:∀_,Dn 0 _) asP) ?_;refine st _ _ _ bS (x1 _ fun _=>.rt) ?_;refine st _ _ _ bS (n1 _ fun _=>x1 _ fun _=>e1 _ _ bS fun _=>x1 _ fun _=>.bd (.acc bS .rt .rt asP asP:Dn 0 _) (fun _=>.rt) asP) ?_;refine st _ _ _ bS (a 7) ?_;refine st _ _ _ bS (x1 _ fun _=>b1 _ _ bS fun _=>.rt) ?_;refine st _ _ _ bS (n1 _ fun _=>b1 _ _ bS fun _=>.rt) ?_;refine st _ _ _ bS (n1 _ fun _=>.rt) ?_;refine st _ _ _ bS (n1 _ fun _=>.rt) ?_;refine st _ _ _ bS (a 12) ?_;refine st _ _ _ bS (n1 _ fun _=>e1 _ _ bS fun _=>(Yq 13 _).le asP) ?_;refine st _ _ _ bS ((Yq 14 _).le asP) ?_;refine st _ _ _ bS (a 15) ?_;refine st _ _ _ bS (a 16) ?_;refine st _ _ _ bS (a 17) ?_;exact st _ _ _ bS .rt .fl
theorem YE {S:P St} (h:Dn 1 S):∀n l,Dn 0 (zN S n l)
 | 0,l=>.fl
 | n+1,l=>.see .rt (.see .rt (.kd .rt (.bd h (fun x=>.bd nR (fun _=>YE h n (l++[x])) asP:∀_,Dn 0 _) asP:Dn 0 _) asP asP:Dn 0 _) asP asP:Dn 0 _) asP asP
theorem Mq:∀n,Dn 0 (fS n)
 | 0=>by rw[fS];exact .fl
 | n+1=>by rw[fS];exact YE (YG (Mq n)) FU []
theorem aiN:Dn 0 Cj:=Mq FU
theorem RA:Dn 1 typ:=.acc bS .rt (.acc bS .rt (.acc bS .rt (.fl:Dn 1 _) asP asP:Dn 1 _) asP asP:Dn 1 _) asP asP
theorem YI:Dn 1 val:=.bd lS (fun _=>.bd RA (fun _=>.bd (.exp bS) (fun _=>.bd (.iff IJ Rq) (fun _=>.bd nR (fun _=>.rt) asP:∀_,Dn 0 _) asP:∀_,Dn 0 _) asP:∀_,Dn 0 _) asP:∀_,Dn 0 _) asP
theorem Mr:Dn 1 DI:=.bd lS (fun _=>.bd RA (fun _=>.rt) asP:∀_,Dn 0 _) asP
theorem YC:Dn 0 shf:=.acc bS (.bd YB (fun _=>.bd (.exp bS) (fun _=>.bd lC (fun _=>.rt) asP:∀_,Dn 0 _) asP:∀_,Dn 0 _) asP:Dn 0 _) .rt asP asP
theorem Yu:Dn 0 IY:=.acc bS (.bd lS (fun _=>.bd (.exp bS) (fun _=>.bd Rn (fun _=>.bd (.exp bS) (fun _=>.bd Rn (fun _=>.rt) asP:∀_,Dn 0 _) asP:∀_,Dn 0 _) asP:∀_,Dn 0 _) asP:∀_,Dn 0 _) asP:Dn 0 _) .rt asP asP
theorem aiK:Dn 1 qQ:=.bd lS (fun _=>.bd lC (fun _=>.bd YC (fun _=>.bd Yu (fun _=>.bd nR (fun _=>.rt) asP:∀_,Dn 0 _) asP:∀_,Dn 0 _) asP:∀_,Dn 0 _) asP:∀_,Dn 0 _) asP
theorem Yz:Dn 1 TP:=.acc bS .rt (.acc bS .rt (.acc bS .rt (.fl:Dn 1 _) asP asP:Dn 1 _) asP asP:Dn 1 _) asP asP
theorem aiM:Dn 1 Oi:=.bd lS (fun _=>.bd lC (fun _=>.bd Yz (fun _=>.bd nR (fun _=>.rt) asP:∀_,Dn 0 _) asP:∀_,Dn 0 _) asP:∀_,Dn 0 _) asP
theorem aiw:Dn 1 blt:=.bd lS (fun _=>.bd lC (fun _=>.bd lC (fun _=>.bd nR (fun _=>.rt) asP:∀_,Dn 0 _) asP:∀_,Dn 0 _) asP:∀_,Dn 0 _) asP
theorem Yv:∀n l,Dn 0 (DZ n l)
 | 0,l=>.fl
 | n+1,l=>.acc bS (.bd Mr (fun x=>.bd nR (fun _=>Yv n (l++[x])) asP:∀_,Dn 0 _) asP:Dn 0 _) .rt asP asP
theorem aiJ:Dn 1 NR:=.bd lS (fun _=>.bd (Ru Mr) (fun _=>.bd nR (fun _=>.bd (Yv FU []:Dn 0 _) (fun _=>.bd aiN (fun _=>.bd (.exp bS) (fun _=>.bd nR (fun _=>.rt) asP:∀_,Dn 0 _) asP:∀_,Dn 0 _) asP:∀_,Dn 0 _) asP:∀_,Dn 0 _) asP:∀_,Dn 0 _) asP:∀_,Dn 0 _) asP
theorem Yp:Dn 1 arg:=.see IJ (.see IJ Rq asP asP:Dn 1 _) asP asP
theorem aiA:Dn 0 Zt:=.acc bS (.bd lC (fun _=>.bd (.exp bS) (fun _=>.bd lC (fun _=>.rt) asP:∀_,Dn 0 _) asP:∀_,Dn 0 _) asP:Dn 0 _) .rt asP asP
theorem YF:Dn 1 Oh:=.bd lS (fun _=>.bd (Ru Yp) (fun _=>.bd (.exp bS) (fun _=>.bd lC (fun _=>.bd aiA (fun _=>.bd nR (fun _=>.rt) asP:∀_,Dn 0 _) asP:∀_,Dn 0 _) asP:∀_,Dn 0 _) asP:∀_,Dn 0 _) asP:∀_,Dn 0 _) asP
theorem II:Dn 2 Bc:=.bd (.kd (.bd lC (fun _=>.bd (.exp bS) (fun _=>.rt) asP:∀_,Dn 0 _) asP:Dn 0 _) .rt asP asP:Dn 0 _) (fun _=>.bd lS (fun _=>.bd lS (fun _=>.rt) asP:∀_,Dn 1 _) asP:∀_,Dn 2 _) asP
theorem Rz:Dn 1 J_:=.acc bS II (.bd (.exp bS) (fun _=>.bd II (fun _=>.rt) asP:∀_,Dn 0 _) asP:Dn 1 _) asP asP
theorem Rv:∀n l,Dn 1 (Eb n l)
 | 0,l=>.fl
 | n+1,l=>.acc bS .rt (.bd Rz (fun x=>Rv n (l++[x])) asP:Dn 1 _) asP asP
theorem aiD:Dn 1 law:=.bd lS (fun _=>.bd (.exp bS) (fun _=>.bd (.see .rt (.bd II (fun _=>.rt) asP:Dn 0 _) asP asP:Dn 0 _) (fun l=>.bd (Rv FU l:Dn 1 _) (fun _=>.bd Rq (fun _=>.bd nR (fun _=>.rt) asP:∀_,Dn 0 _) asP:∀_,Dn 0 _) asP:∀_,Dn 0 _) asP:∀_,Dn 0 _) asP:∀_,Dn 0 _) asP
theorem Yt (x:cZ):Dn 1 (FD x):=by
 have st:∀{α:Type} (s:ByteArray) (A:P α) (k:α->P cZ) (B:P cZ),¬bs s=[]->Dn 1 A->(∀y,Dn 0 (k y))->Dn 1 B->Dn 1 (acc s (bd A k) B):=fun s A k B hs hA hk hB=>.acc hs (.bd hA hk asP:Dn 1 _) hB asP asP;have nl:Dn 1 xW:=Yw.le asP;unfold FD;refine st _ _ _ _ bS YI (fun _=>.rt) (st _ _ _ _ bS aiK (fun _=>.rt) (st _ _ _ _ bS aiM (fun _=>.rt) (st _ _ _ _ bS aiw (fun _=>.rt) ?_)));refine st _ _ _ _ bS nl (fun _=>.rt) (st _ _ _ _ bS nl (fun _=>.rt) (st _ _ _ _ bS nl (fun _=>.rt) (st _ _ _ _ bS nl (fun _=>.rt) (st _ _ _ _ bS nl (fun _=>.rt) ?_))));exact st _ _ _ _ bS aiJ (fun _=>.rt) (st _ _ _ _ bS YF (fun _=>.rt) (st _ _ _ _ bS aiD (fun _=>.rt) .fl))
theorem YD:∀n x,Dn 1 (zL n x)
 | 0,x=>.fl
 | n+1,x=>.acc bS .rt (.bd (Yt x) (fun y=>YD n y) asP:Dn 1 _) asP asP
theorem aiL:Dn 1 sit:=.bd Yw (fun s=>.bd (YD FU (Cf s):Dn 1 _) (fun _=>.bd nR (fun _=>.rt) asP:∀_,Dn 0 _) asP:∀_,Dn 0 _) asP
theorem aiE:Dn 1 TA:=.bd lS (fun _=>.bd lS (fun _=>.bd lC (fun _=>.bd nR (fun _=>.rt) asP:∀_,Dn 0 _) asP:∀_,Dn 0 _) asP:∀_,Dn 0 _) asP
theorem aiI (m:dM):Dn 1 (prt m):=.acc bS (.bd YI (fun _=>.rt) asP:Dn 1 _) (.acc bS (.bd aiE (fun _=>.rt) asP:Dn 1 _) (.acc bS (.bd aiL (fun _=>.rt) asP:Dn 1 _) (.fl:Dn 1 _) asP asP:Dn 1 _) asP asP:Dn 1 _) asP asP
end Ps
namespace Ps
open Ps.P (rt fl bd acc see kd exp len)
open Lx (Tk bs mt)
open Ex (Ex)
structure Sat {α:Type} (Q:α->Prop) (m:P α):Prop where
 out:∀{t u:List Tk} {x:α},Gd t->run m t=.ok x u->Q x/\Gd u
section
variable {α β:Type} {Q:α->Prop} {Q':β->Prop} {m:P β} {k:β->P α} {A B:P α} {s:ByteArray}
theorem Sat.dn {n:Nat} {m:P α} (h:Dn n m):Sat (fun _=>True) m:=⟨fun g e=>⟨trivial,(h.out g e).1⟩⟩
theorem Sat.imp {Q2:α->Prop} {m:P α} (h:Sat Q m) (hi:∀x,Q x->Q2 x):Sat Q2 m:=⟨fun g e=>⟨hi _ (h.out g e).1,(h.out g e).2⟩⟩
theorem Sat.rt {x:α} (h:Q x):Sat Q (rt x):=⟨fun g e=>by rw[jX] at e;cases e;exact⟨h,g⟩⟩
theorem Sat.fl:Sat Q (fl:P α):=⟨fun g e=>by rw[Gw] at e;cases e⟩
theorem Sat.bd (h:Sat Q' m) (hk:∀x,Q' x->Sat Q (k x)):Sat Q (bd m k):=by
 refine⟨fun {t u x} g e=>?_⟩
 cases hm:run m t with
 | ok y v=>
  rw[dN hm] at e;obtain⟨h1,h2⟩:=h.out g hm;exact(hk y h1).out h2 e
 | no v=>rw[eU hm] at e;cases e
theorem Sat.len {f:Nat->β->α} (h:Sat Q' m) (hf:∀d x,Q' x->Q (f d x)):Sat Q (len m f):=by
 refine⟨fun {t u x} g e=>?_⟩
 cases hm:run m t with
 | ok y v=>rw[Gg hm] at e;cases e;obtain⟨h1,h2⟩:=h.out g hm;exact⟨hf _ _ h1,h2⟩
 | no v=>rw[JA hm] at e;cases e
theorem Sat.acc (hs:¬bs s=[]) (hA:Sat Q A) (hB:Sat Q B):Sat Q (acc s A B):=by
 refine⟨fun {t u x} g e=>?_⟩
 cases hi:is s t with
 | true=>rw[um hi] at e;exact hA.out (kU g hs hi).1 e
 | false=>rw[lQ hi] at e;exact hB.out g e
theorem Sat.see (hA:Sat Q A) (hB:Sat Q B):Sat Q (see s A B):=by
 exact ae_
theorem Sat.kd {j:Int} (hA:Sat Q A) (hB:Sat Q B):Sat Q (kd j A B):=by
 exact afg
end
def Bn (n:Int):Prop:=-1000000000000<=n/\n<=1000000000000
theorem aoA:Sat (fun n=>0<=n/\n<=1000000000000) num:=by
 refine⟨fun {t u x} g e=>?_⟩;by_cases hi:(hd t).k=2
 · have e2:run num t=.ok (hd t).n t.tail:=by unfold num;rw[dN (tO hi)];rfl
   rw[e2] at e;cases e
   exact⟨g.wf.n,(g.tail bU).1⟩
 · have e2:run num t=.no t:=by unfold num;rw[eU (zO hi)]
   rw[e2] at e;cases e
def QE (e:Ex):Prop:=(e.o=5->∃s m y,e=.mk 5 s m [y]/\Bn y.n)/\Bn e.n
theorem Fv:Bn 0:=by unfold Bn;omega
theorem BZ {o:Int} {x y:Ex} (h:¬o=5):QE (dF o x y):=⟨fun e=>absurd e h,Fv⟩
theorem TV {o:Int} {x:Ex} (hx:QE x):QE (iR o x):=⟨fun e=>⟨mt,0,x,by have e:o=5:=e;rw[e];rfl,hx.2⟩,Fv⟩
theorem Em {o n:Int} {s:ByteArray} (h:¬o=5) (hn:Bn n):QE (.mk o s n []):=⟨fun e=>absurd e h,hn⟩
theorem acT {α:Type} {Q:α->Prop} {A:Int->P α} {B:P α} (hB:Sat Q B):∀{os:List (ByteArray×Int)},(∀q∈os,Sat Q (A q.2))->(∀q∈os,¬bs q.1=[])->Sat Q (rZ A B os)
 | [],_,_=>hB
 | q::r,hA,hs=>.acc (hs q (.head _)) (hA q (.head _)) (acT hB (fun p hp=>hA p (.tail _ hp)) fun p hp=>hs p (.tail _ hp))
section
variable {m:P Ex} {os:List (ByteArray×Int)}
theorem acP (h:Sat QE m) (hs:∀q∈os,¬bs q.1=[]) (h5:∀q∈os,¬q.2=5):∀n e,QE e->Sat QE (gU m os n e)
 | 0,_,_=>.fl
 | n+1,e,he=>acT (.rt he) (fun q hq=>.bd h fun y _=>acP h hs h5 n _ (BZ (h5 q hq))) hs
theorem Oa (h:Sat QE m) (hs:∀q∈os,¬bs q.1=[]) (h5:∀q∈os,¬q.2=5):Sat QE (gI m os):=.bd h fun e he=>acP h hs h5 FU e he
end
section
variable {E F N:P Ex}
theorem acS (h:Sat QE E) (o:Int):Sat QE (one E o):=.bd (.dn (.exp bS:Dn 1 _)) fun _ _=>.bd h fun x hx=>.bd (.dn (.exp bS:Dn 1 _)) fun _ _=>.rt (TV hx)
theorem acV (h:Sat QE E) {o:Int} (ho:¬o=5):Sat QE (two E o):=.bd (.dn (.exp bS:Dn 1 _)) fun _ _=>.bd h fun x hx=>.bd (.dn (.exp bS:Dn 1 _)) fun _ _=>.bd h fun y hy=>.bd (.dn (.exp bS:Dn 1 _)) fun _ _=>.rt (BZ ho)
theorem Us {o:Int} (ho:¬o=5):Sat QE (xZ o):=.bd (.dn (.exp bS:Dn 1 _)) fun _ _=>.bd (.dn lS) fun s _=>.bd (.dn (.exp bS:Dn 1 _)) fun _ _=>.rt (Em ho Fv)
theorem am3 {d:Nat} {e:Ex} (h:QE e):QE (neg d e):=by
 unfold neg
 split
 · obtain⟨s,m,y,he,hy⟩:=h.1 rfl;injection he with _ _ _ he;injection he with he;subst he;exact Em bS (by unfold Bn at hy ⊢; simp only[Ex.n] at hy;omega)
 · exact h
theorem aoz (h:Sat QE E):Sat QE (wH E):=.len (Q':=QE) (.bd (.dn (.exp bS:Dn 1 _)) fun _ _=>.bd h fun x hx=>.bd (.dn (.exp bS:Dn 1 _)) fun _ _=>.rt hx) fun d x hx=>am3 hx
theorem acU:Sat Bn sD:=.acc bS (.rt (by unfold Bn;omega)) (.bd (.dn (.exp bS:Dn 1 _)) fun _ _=>.rt Fv)
theorem aoB (h:Sat QE E):Sat QE (wO E):=
 .kd (.bd aoA fun n hn=>.rt (Em bS (by unfold Bn;omega))) <|
 .see (.bd acU fun n hn=>.rt (Em bS hn)) <|
 .see (.bd acU fun n hn=>.rt (Em bS hn)) <|
 .acc bS (.rt (Em bS Fv)) <|
 .acc bS (acS h 7) <|
 .acc bS (acS h 8) <|
 .acc bS (acV h bS) <|
 .acc bS (acV h bS) <|
 .acc bS (Us bS) <|
 .acc bS (Us bS) <|
 .acc bS (Us bS) <|
 .see (aoz h) <|
 .bd (.dn lS) fun s _=>.rt (Em bS Fv)
theorem Ur (h:Sat QE E) (hF:Sat QE F):Sat QE (rJ E F):=.acc bS (.bd hF fun x hx=>.rt (TV hx)) (aoB h)
theorem Ew (h:Sat QE F):Sat QE (sum F):=Oa (Oa h bS bS) bS bS
theorem aox (h:Sat QE F):Sat QE (cmp F):=.bd (Ew h) fun x hx=>
 .acc bS (.bd (Ew h) fun y hy=>.rt (BZ bS)) <|
 .acc bS (.bd (Ew h) fun y hy=>.rt (BZ bS)) <|
 .acc bS (.bd (Ew h) fun y hy=>.rt (BZ bS)) <|
 .acc bS (.bd (Ew h) fun y hy=>.rt (BZ bS)) <|
 .acc bS (.bd (Ew h) fun y hy=>.rt (BZ bS)) <|
 .acc bS (.bd (Ew h) fun y hy=>.rt (BZ bS)) <|
 .rt hx
theorem acR (h:Sat QE F) (hN:Sat QE N):Sat QE (qP F N):=.acc bS (.bd hN fun x hx=>.rt (TV hx)) (aox h)
theorem aoy (h:Sat QE N):Sat QE (FM N):=Oa (Oa h bS bS) bS bS
theorem acQ:∀n,Sat QE (fF n)/\Sat QE (fN n)/\Sat QE (fE n)
 | 0=>by rw[fF,fN,fE];exact⟨.fl,.fl,.fl⟩
 | n+1=>by
  obtain⟨h1,h2,h3⟩:=acQ n;rw[fF,fN,fE];exact⟨Ur h3 h1,acR (Ur h3 h1) h2,aoy (acR (Ur h3 h1) h2)⟩
end
theorem aju (n:Nat):∀u x v,Gd u->run (fE n) u=.ok x v->x.o=5->∃s m y,x=.mk 5 s m [y]/\-1000000000000<=y.n/\y.n<=1000000000000:=fun u x v g e ho=>((acQ n).2.2.out g e).1.1 ho
end Ps
namespace Na
open Go.RowKit
theorem clash {x:Bool} (h:x=true) (g:x=false):False:=by rw[h] at g;cases g
theorem Ga {s:ByteArray} {c:List UInt8} (h:(s.toList==c)=true) (hc:Gb.contains c=true):true=iP (bs s):=by
 have e:bs s=c:=by
  have g:=eq_of_beq h;rw[Lib.toList_data] at g;exact g
 unfold iP;rw[e,hc]
theorem alh (s:ByteArray):iP (bs s)=Gb.any fun c=>s.toList==c:=by
 unfold iP;simp only[Lib.toList_data];rw[List.contains_eq_any_beq]
theorem Tt (s:ByteArray) (w:World):Calls Tryz.prog 89 #[.string s] w fun e w'=>e=.returned (.bool (iP (bs s)))/\w'=w:=by
 go_enter Tryz.func89,Tryz.ntmps89;go_wp2_with fail
 all_goals first
  | exact(clash (by assumption) (by assumption)).elim
  | (go_ret;exact⟨lJ (Ga (by assumption) bS),rfl⟩)
  | (go_ret;exact⟨lJ (by rw[alh];simp only[Gb,List.any_cons,List.any_nil,Bool.or_false, *]),rfl⟩)
theorem abo {s:ByteArray} {b:Bool} (h:iP (bs s)=b) (w:World):Calls Tryz.prog 89 #[.string s] w fun e w'=>e=.returned (.bool b)/\w'=w:=by rw[← h];exact Tt s w
end Na
end Go.Proofs.YthnillhnjhalmaaGreatDoor
