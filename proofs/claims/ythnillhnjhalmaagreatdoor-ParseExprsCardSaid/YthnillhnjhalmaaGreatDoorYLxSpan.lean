/-
  Parts of this proof: How a text is walked rune by rune, and the contr. The number of a text. The contracts of sign, wordSize, signSize, Numbe. The contracts of the reference's letter, digit, . The contract of formed. What Check says of a list; the contracts of plac. The contract of the reference's Check.
-/
import Derived.Test.YthnillhnjhalmaaGreatDoorYPMath
open Go.Proofs.Tryz
open Go.Proofs.Tryz renaming prog->ae
open Go renaming World->af,Calls->ai
open Bool renaming and_eq_true->ag
open Go.RowKit.Below renaming refl->ah
open Nat renaming zero_le->aj
open Go.Lib renaming hid->ak
open Option renaming none->au,some->av
open Go.RowKit renaming Below->ax
set_option linter.unusedVariables false
set_option maxRecDepth 100000
set_option maxHeartbeats 8000000
open Go.Lib (hid)
namespace Go.Proofs.YthnillhnjhalmaaGreatDoor
namespace Lx
open Nu
open Go.RowKit
theorem aj5 (s:ByteArray) (p:Nat) (h:p<s.size):s.get! p=s[p]'h:=by
 simp[ByteArray.get!,getElem!_pos,h]
 rfl
theorem Kw {p:Prop} (h:p:=by
 exact⟨Nat.le_refl _,h,fun j h1 h2=>by omega⟩
 ):p:=h
theorem BC (s:ByteArray) (pos:Nat) (h:pos<s.size):1<=(Utf8.decode s pos).2/\pos+(Utf8.decode s pos).2<=s.size/\∀j,1<=j->j<(Utf8.decode s pos).2->(g:pos+j<s.size)->128<=(s[pos+j]'g).toNat:=by
 have key:∀k,(decide (pos+k<s.size)&&(s.get! (pos+k)).toNat / 64==2)=true->pos+k<s.size/\((g:pos+k<s.size)->128<=(s[pos+k]'g).toNat):=by
  intro k hk;simp only[ag,decide_eq_true_eq,beq_iff_eq] at hk;refine⟨hk.1,fun g=>?_⟩;have:=hk.2;rw[aj5 s _ g] at this;omega
 unfold Utf8.decode;simp only
 split
 · exact Kw
 split
 · rename_i h2
   have h2':=(ag _ _▸h2:_/\_).2;obtain⟨a1,b1⟩:=key 1 h2'
   split
   · refine⟨by omega,a1,fun j hj1 hj2 g=>?_⟩;have hj2:j<2:=hj2;obtain rfl:j=1:=by omega
     exact b1 g
   · exact Kw
 split
 · rename_i h2
   simp only[ag] at h2;obtain⟨a1,b1⟩:=key 1 (by simpa using h2.1.2);obtain⟨a2,b2⟩:=key 2 (by simpa using h2.2)
   split
   · refine⟨by omega,a2,fun j hj1 hj2 g=>?_⟩;have hj2:j<3:=hj2;rcases (by omega:j=1∨j=2) with rfl|rfl
     · exact b1 g
     · exact b2 g
   · exact Kw
 split
 · rename_i h2
   simp only[ag] at h2;obtain⟨a1,b1⟩:=key 1 (by simpa using h2.1.1.2);obtain⟨a2,b2⟩:=key 2 (by simpa using h2.1.2);obtain⟨a3,b3⟩:=key 3 (by simpa using h2.2)
   split
   · refine⟨by omega,a3,fun j hj1 hj2 g=>?_⟩;have hj2:j<4:=hj2;rcases (by omega:j=1∨j=2∨j=3) with rfl|rfl|rfl
     · exact b1 g
     · exact b2 g
     · exact b3 g
   · exact Kw
 · exact Kw
structure Fair (P:Int->Bool) (p:UInt8->Bool):Prop where
 low:∀c:UInt8,p c=P (c.toNat:Int)
 high:∀x:Int,128<=x->P x=P 128
theorem RY:Fair gM gq:=⟨fun _=>rfl,fun x hx=>by unfold gM;rw[decide_eq_false (by omega:¬x<=122),Bool.and_false];decide⟩
theorem RX:Fair gV dY:=⟨fun _=>rfl,fun x hx=>by unfold gV;rw[decide_eq_false (by omega:¬x<=57),Bool.and_false];decide⟩
theorem Zx:Fair vk iU:=⟨fun _=>rfl,fun x hx=>by unfold vk;rw[RY.high x hx,RX.high x hx,decide_eq_false (by omega:¬x=95)];decide⟩
theorem Zw:Fair BL gL:=⟨fun _=>rfl,fun x hx=>by unfold BL;rw[decide_eq_false (by omega:¬x=10)];decide⟩
def All (p:UInt8->Bool) (l:List UInt8) (k:Nat):Prop:=∀j,j<k->(h:j<l.length)->p l[j]=true
theorem MI {P:Int->Bool} {p:UInt8->Bool} (F:Fair P p) {s:ByteArray} {pos:Nat} (h:pos<s.size) (hA:All p (bs s) pos) (e:P ((Utf8.decode s pos).1:Int)=true):All p (bs s) (pos+(Utf8.decode s pos).2):=by
 intro j hj hl;rcases Nat.lt_or_ge j pos with h1|h1
 · exact hA j h1 hl
 rw[eF] at hl;by_cases ha:(s[pos]'h).toNat<128
 · rw[decode_ascii s pos h ha] at e hj;have hj:j<pos+1:=hj;obtain rfl:j=pos:=by omega
   rw[F.low];exact e
 · have e1:=decode_high s pos h bU;rw[F.high _ (by have:=e1.1;omega)] at e;have hb:128<=(s[j]'hl).toNat:=by
    obtain⟨i,rfl⟩:∃i,j=pos+i:=⟨j-pos,by omega⟩
    by_cases hi:i=0
    · subst hi;simp only[Nat.add_zero];omega
    · exact(BC s pos h).2.2 i bU bU hl
   rw[F.low]
   show P (((s[j]'hl).toNat:Nat):Int)=true
   rw[F.high _ bU];exact e
theorem MH {P:Int->Bool} {p:UInt8->Bool} (F:Fair P p) {s:ByteArray} {pos:Nat} (h:pos<s.size) (hA:All p (bs s) pos) (e:P ((Utf8.decode s pos).1:Int)=false):dm p (bs s)=pos:=by
 refine ac3 Hr hA ?_;rw[F.low]
 show P (((s[pos]'h).toNat:Nat):Int)=false
 by_cases ha:(s[pos]'h).toNat<128
 · rw[decode_ascii s pos h ha] at e;exact e
 · have e1:=decode_high s pos h bU;rw[F.high _ (by have:=e1.1;omega)] at e;rw[F.high _ bU];exact e
theorem ajz {p:UInt8->Bool} {s:ByteArray} {pos:Nat} (h:s.size<=pos) (hA:All p (bs s) pos):dm p (bs s)=s.size:=by
 rw[Od fun j hj=>hA j (by rw[eF] at hj;omega) hj,eF]
theorem GM {p:Prop} (h:p:=by
 exact CQ
 ):p:=h
theorem JC (x:Int) (w:af):ai ae 204 #[.int .i32 x] w fun e w'=>e=.returned (.bool (gM x))/\w'=w:=by
 unfold gM;by_cases h1:97<=x
 · have t1:decide (97<=x)=true:=decide_eq_true h1;by_cases h2:x<=122
   · have t2:decide (x<=122)=true:=decide_eq_true h2;rw[t1,t2];go_enter func204,ntmps204;exact GM
   · have t2:decide (x<=122)=false:=decide_eq_false h2;rw[t1,t2];go_enter func204,ntmps204;exact GM
 · have t1:decide (97<=x)=false:=decide_eq_false h1;rw[t1,Bool.false_and];go_enter func204,ntmps204;exact GM
theorem IC (x:Int) (w:af):ai ae 173 #[.int .i32 x] w fun e w'=>e=.returned (.bool (gV x))/\w'=w:=by
 unfold gV;by_cases h1:48<=x
 · have t1:decide (48<=x)=true:=decide_eq_true h1;by_cases h2:x<=57
   · have t2:decide (x<=57)=true:=decide_eq_true h2;rw[t1,t2];go_enter func173,ntmps173;exact GM
   · have t2:decide (x<=57)=false:=decide_eq_false h2;rw[t1,t2];go_enter func173,ntmps173;exact GM
 · have t1:decide (48<=x)=false:=decide_eq_false h1;rw[t1,Bool.false_and];go_enter func173,ntmps173;exact GM
theorem zt {x:Int} {b:Bool} (h:gM x=b) (w:af):ai ae 204 #[.int .i32 x] w fun e w'=>e=.returned (.bool b)/\w'=w:=by rw[← h];exact JC x w
theorem FH {x:Int} {b:Bool} (h:gV x=b) (w:af):ai ae 173 #[.int .i32 x] w fun e w'=>e=.returned (.bool b)/\w'=w:=by rw[← h];exact IC x w
theorem aaF (x:Int) (w:af):ai ae 205 #[.int .i32 x] w fun e w'=>e=.returned (.bool (vk x))/\w'=w:=by
 unfold vk
 cases h1:gM x with
 | true=>
  have I1:=zt h1 w;go_enter func205,ntmps205;go_wp2_with (go_at_call 204;refine I1.mono ?_;rintro e w1 ⟨rfl,rfl⟩)
  go_ret;exact⟨rfl,rfl⟩
 | false=>
  have I1:=zt h1 w
  cases h2:gV x with
  | true=>
   have I2:=FH h2 w;go_enter func205,ntmps205;go_wp2_with (first|(go_at_call 204;refine I1.mono ?_;rintro e w1 ⟨rfl,rfl⟩)|(go_at_call 173;refine I2.mono ?_;rintro e w1 ⟨rfl,rfl⟩))
   go_ret;exact⟨rfl,rfl⟩
  | false=>
   have I2:=FH h2 w;go_enter func205,ntmps205;go_wp2_with (first|(go_at_call 204;refine I1.mono ?_;rintro e w1 ⟨rfl,rfl⟩)|(go_at_call 173;refine I2.mono ?_;rintro e w1 ⟨rfl,rfl⟩))
   go_ret;exact⟨lJ (by by_cases h:x=95 <;> simp[h]),rfl⟩
theorem aaE (x:Int) (w:af):ai ae 115 #[.int .i32 x] w fun e w'=>e=.returned (.bool (BL x))/\w'=w:=by
 have HD:Hid (BL x = !decide (x=10)):=ak rfl;go_enter func115,ntmps115;go_wp2_with fail;go_ret;exact⟨lJ (by rw[HD.out];by_cases h:x=10 <;> simp[h]),rfl⟩
theorem OD {p:Prop} (h:p:=by
 rw[hv] at I1;clear HY HN hv;go_wp2_with fail;refine I1.mono ?_;rintro e w1 ⟨rfl,rfl⟩;go_wp2_with fail;go_roundw
 case rel=>exact⟨pos+M,m2,rfl,oP⟩
 case measure=>simp only[World.iterPos_iter];omega
 ):p:=h
theorem OE {p:Prop} (h:p:=by
 have hnx:=fun ty=>run_next_end (P:=ae) w s pos ty h;have HR:=ak (ajz bU HA.out);go_wp2_with fail;go_ret;exact⟨nZ (by rw[HR.out]),hbl⟩
 ):p:=h
theorem OG {p:Prop} (h:p:=by
 rw[hv] at I1;clear HY HN hv;go_wp2_with fail;refine I1.mono ?_;rintro e w1 ⟨rfl,rfl⟩;go_wp2_with fail;go_ret;exact⟨nZ (by rw[HR.out]),M6⟩
 ):p:=h
theorem ao7 (s:ByteArray) (w:af) (hs:s.size<=9223372036854775807):ai ae 114 #[.string s,.func (.func 204) #[] #[]] w (Gives (.int .i64 ((dm gq (bs s):Nat):Int)) w):=by
 have hs':(s.size:Int)<=9223372036854775807:=by omega
 go_enter func114,ntmps114;go_wp2_with fail;go_loopw [] (fun wr=>∃pos:Nat,pos<=s.size/\wr=w.iter s pos/\Hid (All gq (bs s) pos)) (fun wr=>s.size-wr.iterPos w.heap.size)
 case atStart=>exact⟨0,aj _,rfl,ak fun j hj=>absurd hj (Nat.not_lt_zero _)⟩
 case round=>
  obtain⟨pos,hp,rfl,HA⟩:=hrel;have hbl:ax w.heap.size w (w.iter s pos):=iw (ah _ _);by_cases h:pos<s.size
  · have hnx:=fun ty=>run_next_any (P:=ae) w s pos ty h;have hd:=decode_le s pos;obtain⟨m1,m2,-⟩:=BC s pos h;have HY:=ak (fun e=>MI RY h HA.out e);have HN:=ak (fun e=>MH RY h HA.out e);obtain⟨R,hR⟩:∃R,(Utf8.decode s pos).1=R:=⟨_,rfl⟩
    obtain⟨M,hM⟩:∃M,(Utf8.decode s pos).2=M:=⟨_,rfl⟩
    rw[hR] at hd HY HN;rw[hM] at m1 m2 HY;simp only[hR,hM] at hnx;clear hR hM;have M6:ax w.heap.size w (w.iter s (pos+M)):=iw (ah _ _)
    cases hv:gM (R:Int) with
    | true=>
     have oP:=ak (HY.out hv);have I1:=JC (R:Int) (w.iter s (pos+M));exact OD
    | false=>
     have HR:=ak (HN.out hv);have I1:=JC (R:Int) (w.iter s (pos+M));exact OG
  · exact OE
theorem ao5 (s:ByteArray) (w:af) (hs:s.size<=9223372036854775807):ai ae 114 #[.string s,.func (.func 173) #[] #[]] w (Gives (.int .i64 ((dm dY (bs s):Nat):Int)) w):=by
 have hs':(s.size:Int)<=9223372036854775807:=by omega
 go_enter func114,ntmps114;go_wp2_with fail;go_loopw [] (fun wr=>∃pos:Nat,pos<=s.size/\wr=w.iter s pos/\Hid (All dY (bs s) pos)) (fun wr=>s.size-wr.iterPos w.heap.size)
 case atStart=>exact⟨0,aj _,rfl,ak fun j hj=>absurd hj (Nat.not_lt_zero _)⟩
 case round=>
  obtain⟨pos,hp,rfl,HA⟩:=hrel;have hbl:ax w.heap.size w (w.iter s pos):=iw (ah _ _);by_cases h:pos<s.size
  · have hnx:=fun ty=>run_next_any (P:=ae) w s pos ty h;have hd:=decode_le s pos;obtain⟨m1,m2,-⟩:=BC s pos h;have HY:=ak (fun e=>MI RX h HA.out e);have HN:=ak (fun e=>MH RX h HA.out e);obtain⟨R,hR⟩:∃R,(Utf8.decode s pos).1=R:=⟨_,rfl⟩
    obtain⟨M,hM⟩:∃M,(Utf8.decode s pos).2=M:=⟨_,rfl⟩
    rw[hR] at hd HY HN;rw[hM] at m1 m2 HY;simp only[hR,hM] at hnx;clear hR hM;have M6:ax w.heap.size w (w.iter s (pos+M)):=iw (ah _ _)
    cases hv:gV (R:Int) with
    | true=>
     have oP:=ak (HY.out hv);have I1:=IC (R:Int) (w.iter s (pos+M));exact OD
    | false=>
     have HR:=ak (HN.out hv);have I1:=IC (R:Int) (w.iter s (pos+M));exact OG
  · exact OE
theorem ao8 (s:ByteArray) (w:af) (hs:s.size<=9223372036854775807):ai ae 114 #[.string s,.func (.func 205) #[] #[]] w (Gives (.int .i64 ((dm iU (bs s):Nat):Int)) w):=by
 have hs':(s.size:Int)<=9223372036854775807:=by omega
 go_enter func114,ntmps114;go_wp2_with fail;go_loopw [] (fun wr=>∃pos:Nat,pos<=s.size/\wr=w.iter s pos/\Hid (All iU (bs s) pos)) (fun wr=>s.size-wr.iterPos w.heap.size)
 case atStart=>exact⟨0,aj _,rfl,ak fun j hj=>absurd hj (Nat.not_lt_zero _)⟩
 case round=>
  obtain⟨pos,hp,rfl,HA⟩:=hrel;have hbl:ax w.heap.size w (w.iter s pos):=iw (ah _ _);by_cases h:pos<s.size
  · have hnx:=fun ty=>run_next_any (P:=ae) w s pos ty h;have hd:=decode_le s pos;obtain⟨m1,m2,-⟩:=BC s pos h;have HY:=ak (fun e=>MI Zx h HA.out e);have HN:=ak (fun e=>MH Zx h HA.out e);obtain⟨R,hR⟩:∃R,(Utf8.decode s pos).1=R:=⟨_,rfl⟩
    obtain⟨M,hM⟩:∃M,(Utf8.decode s pos).2=M:=⟨_,rfl⟩
    rw[hR] at hd HY HN;rw[hM] at m1 m2 HY;simp only[hR,hM] at hnx;clear hR hM;have M6:ax w.heap.size w (w.iter s (pos+M)):=iw (ah _ _)
    cases hv:vk (R:Int) with
    | true=>
     have oP:=ak (HY.out hv);have I1:=aaF (R:Int) (w.iter s (pos+M));exact OD
    | false=>
     have HR:=ak (HN.out hv);have I1:=aaF (R:Int) (w.iter s (pos+M));exact OG
  · exact OE
theorem ao6 (s:ByteArray) (w:af) (hs:s.size<=9223372036854775807):ai ae 114 #[.string s,.func (.func 115) #[] #[]] w (Gives (.int .i64 ((dm gL (bs s):Nat):Int)) w):=by
 have hs':(s.size:Int)<=9223372036854775807:=by omega
 go_enter func114,ntmps114;go_wp2_with fail;go_loopw [] (fun wr=>∃pos:Nat,pos<=s.size/\wr=w.iter s pos/\Hid (All gL (bs s) pos)) (fun wr=>s.size-wr.iterPos w.heap.size)
 case atStart=>exact⟨0,aj _,rfl,ak fun j hj=>absurd hj (Nat.not_lt_zero _)⟩
 case round=>
  obtain⟨pos,hp,rfl,HA⟩:=hrel;have hbl:ax w.heap.size w (w.iter s pos):=iw (ah _ _);by_cases h:pos<s.size
  · have hnx:=fun ty=>run_next_any (P:=ae) w s pos ty h;have hd:=decode_le s pos;obtain⟨m1,m2,-⟩:=BC s pos h;have HY:=ak (fun e=>MI Zw h HA.out e);have HN:=ak (fun e=>MH Zw h HA.out e);obtain⟨R,hR⟩:∃R,(Utf8.decode s pos).1=R:=⟨_,rfl⟩
    obtain⟨M,hM⟩:∃M,(Utf8.decode s pos).2=M:=⟨_,rfl⟩
    rw[hR] at hd HY HN;rw[hM] at m1 m2 HY;simp only[hR,hM] at hnx;clear hR hM;have M6:ax w.heap.size w (w.iter s (pos+M)):=iw (ah _ _)
    cases hv:BL (R:Int) with
    | true=>
     have oP:=ak (HY.out hv);have I1:=aaE (R:Int) (w.iter s (pos+M));exact OD
    | false=>
     have HR:=ak (HN.out hv);have I1:=aaE (R:Int) (w.iter s (pos+M));exact OG
  · exact OE
end Lx
namespace Lx
open Nu
open Go.Lib
theorem FF {c:UInt8} (h:dY c=true):48<=c.toNat/\c.toNat<=57:=by
 unfold dY gV at h;simp only[ag,decide_eq_true_eq] at h;omega
theorem aiu {c:UInt8} (h0:48<=c.toNat) (h1:c.toNat<=57):dY c=true:=by
 unfold dY gV;simp only[ag,decide_eq_true_eq];omega
theorem Nb (v:Int) (h:0<=v):itoa v=decDigits v.toNat:=by unfold itoa;rw[if_neg bU]
theorem akM {v:Int} (h:0<=v):(itoa v).all dY=true:=by
 rw[Nb v h,List.all_eq_true];intro c hc;have:=Yi v.toNat c hc;exact aiu this.1 this.2
theorem akP {v:Int} (h:0<=v):itoa v ≠ []:=by
 rw[Nb v h];obtain⟨c,r,e,-⟩:=Mk v.toNat;rw[e];exact List.cons_ne_nil _ _
theorem aio:∀u:Nat,10<=u->(decDigits u).headD 0≠48:=by
 intro u
 induction u using Nat.strongRecOn with
 | _ u ih=>
  intro h;rw[IB bU];by_cases h2:u / 10<10
  · rw[FE h2];intro e;have e2:(UInt8.ofNat (48+u / 10)).toNat=48:=by
     have:UInt8.ofNat (48+u / 10)=48:=e;rw[this];rfl
    rw[FI _ h2] at e2;omega
  · obtain⟨c,r,e,-⟩:=Mk (u / 10);have:=ih (u / 10) bU bU;rw[e] at this ⊢;exact this
theorem ZP {v:Int} (h:0<=v):iA (itoa v)=v:=by rw[ajO,af4 h]
theorem akN (l:List UInt8):l ≠ []->(1<l.length->l.headD 0≠48)->l.all dY=true->0<=iA l/\(1<l.length->1<=iA l)/\itoa (iA l)=l:=by
 generalize hn:l.length=n
 induction n generalizing l with
 | zero=>intro h;exact absurd (List.length_eq_zero_iff.1 hn) h
 | succ n ih=>
  rcases List.eq_nil_or_concat l with rfl|⟨m,c,rfl⟩
  · simp at hn
  · rw[List.concat_eq_append] at hn ⊢;intro _ h1 h2;rw[List.all_append,ag] at h2;have hc:dY c=true:=by simpa using h2.2
    obtain⟨c1,c2⟩:=FF hc;have e:iA (m++[c])=10*iA m+(c.toNat-48):=by rw[MS,wF,if_pos ⟨c1,c2⟩]
    have ec:UInt8.ofNat (48+(c.toNat-48))=c:=by rw[show 48+(c.toNat-48)=c.toNat by omega];exact UInt8.ofNat_toNat
    by_cases hm:m=[]
    · subst hm;have e0:iA ([]:List UInt8)=0:=rfl;rw[e0] at e;rw[e];refine⟨by omega,fun h=>by simp at hn;omega,?_⟩;rw[Ti _ bU bU,show(10*0+((c.toNat:Int)-48)).toNat=c.toNat-48 by omega,ec];rfl
    · have Jd:m.length=n:=by simpa using hn
      have hpos:1<=m.length:=by cases m with|nil=>exact absurd rfl hm|cons _ _=>simp
      have hh:m.headD 0≠48:=by
       have:=h1 bU
       cases m with
       | nil=>exact absurd rfl hm
       | cons d t=>exact this
      obtain⟨i1,i2,i3⟩:=ih m Jd hm (fun _=>hh) h2.1;have hone:1<=iA m:=by
       by_cases hl:1<n
       · exact i2 hl
       · cases m with
         | nil=>exact absurd rfl hm
         | cons d t=>
          have ht:t=[]:=List.length_eq_zero_iff.1 (by simp at Jd;omega);subst ht;have hd:dY d=true:=by simpa using h2.1
          obtain⟨d1,d2⟩:=FF hd;have e3:iA [d]=10*0+(d.toNat-48):=by
           have:iA ([]++[d])=wF (iA []) d:=MS [] d;rw[List.nil_append] at this;rw[this,wF,if_pos ⟨d1,d2⟩];rfl
          have hd0:d.toNat≠48:=fun g=>hh (by
           show d=48
           apply UInt8.toNat_inj.1
           rw[g];rfl)
          rw[e3];omega
      rw[e];refine⟨by omega,fun _=>by omega,?_⟩;rw[akL _ bU,show(10*iA m+((c.toNat:Int)-48)) / 10=iA m by omega,show(10*iA m+((c.toNat:Int)-48)) % 10=(c.toNat:Int)-48 by omega,i3,
       Ti _ bU bU,show((c.toNat:Int)-48).toNat=c.toNat-48 by omega,ec]
theorem Nw {l:List UInt8} {v:Int}:jL l=av v↔0<=v/\v<=1000000000000/\l=itoa v:=by
 unfold jL;constructor
 · intro h
   split at h
   · cases h
   · rename_i hc
     simp only[not_or,not_and,Bool.not_eq_false] at hc;obtain⟨h1,h2,h3,h4,h5⟩:=hc;cases h
     have:=akN l (fun e=>h1 (by rw[e];rfl)) h3 h4;exact⟨this.1,by omega,this.2.2.symm⟩
 · rintro⟨h0,h1,rfl⟩;have hl:(itoa v).length<=13:=by rw[Nb v h0,decDigits_length];have:=Nq 12 v.toNat bU;omega
   rw[if_neg,ZP h0];simp only[not_or,not_and,Bool.not_eq_false];refine⟨fun e=>akP h0 (List.length_eq_zero_iff.1 e),by omega,fun h=>?_,akM h0,by rw[ZP h0];omega⟩;rw[Nb v h0] at h ⊢;refine aio _ ?_;rcases Nat.lt_or_ge v.toNat 10 with g|g
   · rw[FE g] at h;simp at h
   · exact g
theorem amb {l:List UInt8}:jL l=au ↔ ∀v:Int,0<=v->v<=1000000000000->l≠itoa v:=by
 constructor
 · intro h v h0 h1 e;rw[Nw.2 ⟨h0,h1,e⟩] at h;cases h
 · intro h
   cases e:jL l with
   | none=>rfl
   | some v=>
    obtain⟨h0,h1,e1⟩:=Nw.1 e;exact absurd e1 (h v h0 h1)
end Lx
namespace Lx
open Nu
open Go.RowKit
theorem aoW {s:ByteArray} {c:List UInt8} (h:(s.toList==c)=true) (hc:J9.contains c=true):true=fZ (bs s):=by
 have e:bs s=c:=by
  have g:=eq_of_beq h;rw[Lib.toList_data] at g;exact g
 unfold fZ;rw[e,hc]
theorem aoV (s:ByteArray):fZ (bs s)=J9.any fun c=>s.toList==c:=by
 unfold fZ;simp only[Lib.toList_data];rw[List.contains_eq_any_beq]
theorem qX (s:ByteArray) (w:af):ai ae 207 #[.string s] w fun e w'=>e=.returned (.bool (fZ (bs s)))/\w'=w:=by
 go_enter func207,ntmps207;exact zzj
def mY (l:List UInt8):Nat:=if dm gq l=0 then 0 else dm iU l
theorem Cy {p:Prop} (h:p:=by(repeat (first|(with_reducible exact ah _ _)|(with_reducible assumption)|(with_reducible apply iw)|(with_reducible apply vN)|(with_reducible apply rC)|(with_reducible refine zf ?_ (by first|(simp;done)|(simp;omega)) _)|(with_reducible refine sQ ?_ (by assumption))))):p:=h
theorem adH {p:Prop} (h:p:=by
 go_wp2_with fail;go_ret;exact aae (by rw[Bp.out];rfl) Cy
 ):p:=h
theorem aqg (s:ByteArray) (w:af) (hs:s.size<=9223372036854775807):ai ae 172 #[.string s] w (Gives (.int .i64 ((mY (bs s):Nat):Int)) w):=by
 have I1:=ao7 s w hs;have I2:=fun w1=>ao8 s w1 hs;have HV:Hid (mY (bs s)=if dm gq (bs s)=0 then 0 else dm iU (bs s)):=ak rfl;obtain⟨K,hK⟩:∃K,dm gq (bs s)=K:=⟨_,rfl⟩
 obtain⟨M,hM⟩:∃M,dm iU (bs s)=M:=⟨_,rfl⟩
 rw[hK] at I1;simp only[hM] at I2;rw[hK,hM] at HV;clear hK hM;by_cases h:K=0
 · have Bp:=ak (HV.out.trans (if_pos h));subst h;clear HV;go_enter func172,ntmps172;go_wp2_with fail;refine I1.mono ?_;rintro e w1 ⟨rfl,hb1⟩;exact adH
 · have Bp:=ak (HV.out.trans (if_neg h));have q:((K:Int)==0)=false:=by rw[beq_eq_false_iff_ne];omega
   clear HV;go_enter func172,ntmps172;go_wp2_with fail;refine I1.mono ?_;rintro e w1 ⟨rfl,hb1⟩;go_wp2_with fail;refine(I2 w1).mono ?_;rintro e w2 ⟨rfl,hb2⟩;exact adH
theorem aqh {s:ByteArray} {k:Nat} (h:mY (bs s)=k) (hs:s.size<=9223372036854775807) (w:af):ai ae 172 #[.string s] w (Gives (.int .i64 (k:Int)) w):=by rw[← h];exact aqg s w hs
def qV (l:List UInt8):Nat:=if 2<=l.length/\fZ (l.take 2)=true then 2 else if fZ (l.take 1)=true then 1 else 0
def Ie (l:List UInt8) (k m:Nat):Prop:=∀j,k<j->j<=m->fZ (l.take j)=false
theorem aoT {l:List UInt8} {k:Nat} (h0:0<k) (hk:k<=min 2 l.length) (h:Ie l k (min 2 l.length)) (e:fZ (l.take k)=true):qV l=k:=by
 unfold qV;by_cases h2:k=2
 · subst h2;rw[if_pos ⟨by omega,e⟩]
 · obtain rfl:k=1:=by omega
   rw[if_neg,if_pos e];rintro⟨g1,g2⟩;rw[h 2 bU bU] at g2;cases g2
theorem aoU {l:List UInt8} (h:Ie l 0 (min 2 l.length)):qV l=0:=by
 unfold qV;rw[if_neg,if_neg]
 · intro g;by_cases h1:l.length=0
   · have:l=[]:=List.length_eq_zero_iff.1 h1;subst this
     cases (by simpa using g:fZ []=true)
   · rw[h 1 bU bU] at g;cases g
 · rintro⟨g1,g2⟩;rw[h 2 bU bU] at g2;cases g2
theorem al1 {l:List UInt8} {k m:Nat} (h:Ie l (k+1) m) (e:fZ (l.take (k+1))=false):Ie l k m:=by
 intro j h1 h2;by_cases g:j=k+1
 · subst g;exact e
 · exact h j bU h2
theorem adI {p:Prop} (h:p:=by
 go_wp2_with fail;go_ret;exact aae (by rw[HR.out];rfl) Cy
 ):p:=h
theorem aoX (s:ByteArray) (w:af) (hs:s.size<=9223372036854775807):ai ae 175 #[.string s] w (Gives (.int .i64 ((qV (bs s):Nat):Int)) w):=by
 have hs':(s.size:Int)<=9223372036854775807:=by omega
 obtain⟨M,hM⟩:∃M,min 2 s.size=M:=⟨_,rfl⟩
 have hM2:M<=2:=by omega
 have hMs:(M:Int)<=(s.size:Int):=by omega
 have hmin:∀(ts:Array TypeId) (t:TypeId) (W:af),(Builtin.min_ ts t #[.int .i64 2,.int .i64 (s.size:Int)]).run ae W=.ok (.int .i64 (M:Int)) W:=fun ts t W=>by
  rw[run_min_int2]
  congr 2
  split <;> omega
 have HM:Hid (min 2 (bs s).length=M):=ak (by rw[eF];exact hM);clear hM;go_enter func175,ntmps175;go_wp2_with fail;go_loop [3] (fun i=>∃k:Nat,k<=M/\i=.int .i64 (k:Nat)/\Hid (Ie (bs s) k M)) (fun i=>(intOf i).toNat)
 case atStart=>exact⟨M,Nat.le_refl _,rfl,ak fun j h1 h2=>by omega⟩
 case round=>
  obtain⟨k,hk,rfl,HN⟩:=hrel
  cases k with
  | zero=>
   have HR:=ak (aoU (by rw[HM.out];exact HN.out));exact adI
  | succ k=>
   have c1:(0:Int)<((k+1:Nat):Int):=by omega
   have c2:((k+1:Nat):Int)<=(s.size:Int):=by omega
   have c3:((k+1:Nat):Int)-1=(k:Int):=by omega
   have hx:=Ja s (k+1);have HY:=ak (fun e=>aoT (k:=k+1) (Nat.succ_pos k) (by rw[HM.out];exact hk) (by rw[HM.out];exact HN.out) e);have HZ:=ak (fun e=>al1 HN.out e);obtain⟨K,hK⟩:∃K:Nat,k+1=K:=⟨_,rfl⟩
   have I1:=qX (s.extract 0 K) w;rw[hK] at c1 c2 c3 hx HY HZ hk;rw[hK];rw[hx,rD,← hx] at I1;have hK1:(K:Int)-1=(k:Int):=c3;obtain⟨b,hb⟩:∃b,fZ ((bs s).take K)=b:=⟨_,rfl⟩
   rw[hb] at I1 HY HZ;clear hx hb HN
   cases b with
   | true=>
    have HR:=ak (HY.out rfl);clear HY HZ;go_wp2_with fail;refine I1.mono ?_;rintro e w1 ⟨rfl,rfl⟩;exact adI
   | false=>
    have C_:=ak (HZ.out rfl);clear HY HZ;go_wp2_with fail;refine I1.mono ?_;rintro e w1 ⟨rfl,rfl⟩;go_wp2_with fail;go_round
    case rel=>exact⟨k,by omega,by go_num,C_⟩
    case measure=>simp[intOf];omega
theorem abJ {s:ByteArray} {v:Int}:num v=s↔bs s=Lib.itoa v:=by
 constructor
 · rintro rfl;rfl
 · intro h;exact(kH (a:=s) (b:=num v) h).symm
theorem Vf {p:Prop} (h:p:=by
 go_enter func174,ntmps174;go_wp2_with fail;refine I1.mono ?_;rintro e w1 ⟨rfl,hb1⟩;go_wp2_with fail;go_ret2
 exact⟨rfl,hb1⟩
 ):p:=h
theorem amf {s:ByteArray} {v:Int} (h:jL (bs s)=av v) (w:af) (hE:Env w):ai ae 174 #[.string s] w (Gives (.tuple #[.int .i64 v,.bool true]) w):=by
 obtain⟨h0,h1,h2⟩:=Nw.1 h;have e:=abJ.2 h2;have I1:=abX v bU h1 w hE;rw[e] at I1;have c:decide (v<0)=false:=decide_eq_false bU;clear h h2 e hE;exact Vf
theorem ame {s:ByteArray} (h:jL (bs s)=au) (hs:s.size<=140737488355328) (w:af) (hE:Env w):ai ae 174 #[.string s] w (Gives (.tuple #[.int .i64 0,.bool false]) w):=by
 by_cases hv:∃v,iO v=true/\num v=s
 · obtain⟨v,hv,e⟩:=hv;obtain⟨h0,h1⟩:=aay hv;have hneg:v<0:=by
    rcases Int.lt_or_le v 0 with g|g
    · exact g
    · exact absurd (abJ.1 e) (amb.1 h v g h1)
   have I1:=abX v h0 h1 w hE;rw[e] at I1;have c:decide (v<0)=true:=decide_eq_true hneg;clear h e hE hv;exact Vf
 · have I1:=amK s hs (fun v hi e=>hv ⟨v,hi,e⟩) w hE;clear h hE hv;exact Vf
theorem Z9 {l:List UInt8} {k:Nat} (h:mY l=k) (hk:0<k):iN l=av (⟨1,mkS (l.take k),0,0⟩,k):=by
 unfold mY at h;unfold iN;by_cases h1:dm gq l=0
 · rw[if_pos h1] at h;omega
 · rw[if_neg h1] at h ⊢; rw[h]
theorem U5 {l:List UInt8} (h:mY l=0):dm gq l=0:=by
 unfold mY at h;by_cases h1:dm gq l=0
 · exact h1
 · rw[if_neg h1] at h;obtain⟨c,t,rfl,hc⟩:=Kc h1;have:=yw (p:=iU) (t:=t) (Oy hc);omega
theorem Z6 {l:List UInt8} {k:Nat} {v:Int} (h:mY l=0) (h2:dm dY l=k) (hk:0<k) (e:jL (l.take k)=av v):iN l=av (⟨2,mt,v,0⟩,k):=by
 unfold iN;rw[if_pos (U5 h),h2,if_neg bU,e]
theorem Z7 {l:List UInt8} {k:Nat} (h:mY l=0) (h2:dm dY l=k) (hk:0<k) (e:jL (l.take k)=au):iN l=au:=by
 unfold iN;rw[if_pos (U5 h),h2,if_neg bU,e]
theorem Z8 {l:List UInt8} {k:Nat} (h:mY l=0) (h2:dm dY l=0) (h3:qV l=k):iN l=if k=0 then au else av (⟨3,mkS (l.take k),0,0⟩,k):=by
 unfold iN;rw[if_pos (U5 h),if_pos h2];unfold qV at h3;by_cases g1:2<=l.length/\fZ (l.take 2)=true
 · rw[if_pos g1] at h3 ⊢;subst h3;rw[if_neg bS]
 · rw[if_neg g1] at h3 ⊢;by_cases g2:fZ (l.take 1)=true
   · rw[if_pos g2] at h3 ⊢;subst h3;rw[if_neg bS]
   · rw[if_neg g2] at h3 ⊢;subst h3;rw[if_pos rfl]
def WH (o:Option (Tk×Nat)) (w:af) (e:Ending) (w':af):Prop:=
 ∃(x:Tk) (k:Nat),e=.returned (.tuple #[.agg #[.int .i64 x.k,.string x.t,.int .i64 x.n,.int .i64 x.l],.int .i64 (k:Int)])/\ax w.heap.size w w'/\((o=av (x,k)/\0<k)∨(o=au/\k=0))
theorem fst_mk {o:Option (Tk×Nat)} {w w':af} {e:Ending} (a:Int) (b:ByteArray) (c:Int) (d:Int) (k:Nat) (he:e=.returned (.tuple #[.agg #[.int .i64 a,.string b,.int .i64 c,.int .i64 d],.int .i64 (k:Int)])) (hb:ax w.heap.size w w') (h:(o=av (⟨a,b,c,d⟩,k)/\0<k)∨(o=au/\k=0)):WH o w e w':=⟨⟨a,b,c,d⟩,k,he,hb,h⟩
def zb (w:af) (g:Nat):Prop:=w.cell? ⟨g,0,au⟩=av (.int .i64 0)/\w.cell? ⟨g,1,au⟩=av (.string ⟨#[]⟩)/\w.cell? ⟨g,2,au⟩=av (.int .i64 0)/\w.cell? ⟨g,3,au⟩=av (.int .i64 0)/\(∀o,w.frozen? ⟨g,o,au⟩=false)/\g<w.heap.size
theorem zb.new {w:af}:zb (w.alloc (.cells #[.int .i64 0,.string ⟨#[]⟩,.int .i64 0,.int .i64 0] 87)) w.heap.size:=by
 have h:=xV (w:=w) (x:=⟨0,⟨#[]⟩,0,0⟩) (t:=87);exact⟨h.1,h.2.1,h.2.2.1,h.2.2.2,fun o=>frozen_of_row _ _ o _ _ (heap_alloc_new w _),by simp⟩
theorem zb.on {w w2:af} {g:Nat} (hb:ax w.heap.size w w2) (h:zb w g):zb w2 g:=by
 exact zzg
theorem OH {p:Prop} (h:p:=by simp[results,results116,go_sem, *]):p:=h
theorem ajG (s:ByteArray) (w:af) (hs:s.size<=140737488355328) (hE:Env w):ai ae 116 #[.string s] w (WH (iN (bs s)) w):=by
 have hs1:s.size<=9223372036854775807:=by omega
 have hs':(s.size:Int)<=140737488355328:=by omega
 obtain⟨K,hK⟩:∃K,mY (bs s)=K:=⟨_,rfl⟩
 have hKs:K<=s.size:=by
  rw[← hK,← eF];unfold mY
  split
  · exact aj _
  · exact qY _ _
 have I1:=aqh hK hs1 (w.alloc (.cells #[.int .i64 0,.string ⟨#[]⟩,.int .i64 0,.int .i64 0] 87));have Z:=zb.new (w:=w);have hB0:ax w.heap.size w (w.alloc (.cells #[.int .i64 0,.string ⟨#[]⟩,.int .i64 0,.int .i64 0] 87)):=iw (ah _ _);have q0:(0:Int)<=(K:Int):=by omega
 have q1:(K:Int)<=(s.size:Int):=by omega
 by_cases h:0<K
 · have HF:=ak (Z9 hK h);have hx:=Ja s K;rw[← hx] at HF;have q2:decide ((0:Int)<(K:Int))=true:=decide_eq_true bU;have HP:Hid (0<K):=ak h;clear hK hx h hKs hE;go_enter func116,ntmps116;go_wp2_with fail;refine I1.mono ?_;rintro e w1 ⟨rfl,hb1⟩;have Z1:=zb.on hb1 Z;obtain⟨z0,z1,z2,z3,z4,z5⟩:=Z1;clear Z;go_wp2_with fail;exact bodyPost_ret (v:=.tuple #[.agg #[.int .i64 1,.string (s.extract 0 K),.int .i64 0,.int .i64 0],.int .i64 (K:Int)]) OH rfl (fst_mk _ _ _ _ K rfl Cy (.inl ⟨HF.out,HP.out⟩))
 · obtain rfl:K=0:=by omega
   obtain⟨D,hD⟩:∃D,dm dY (bs s)=D:=⟨_,rfl⟩
   have hDs:D<=s.size:=by rw[← hD,← eF];exact qY _ _
   have I2:=fun w1=>ao5 s w1 hs1;simp only[hD] at I2;have d0:(0:Int)<=(D:Int):=by omega
   have d1:(D:Int)<=(s.size:Int):=by omega
   by_cases g:0<D
   · have d2:decide ((0:Int)<(D:Int))=true:=decide_eq_true bU;have hx:=Ja s D;have hxs:(s.extract 0 D).size<=140737488355328:=by rw[ByteArray.size_extract];omega
     have hxb:bs (s.extract 0 D)=(bs s).take D:=by rw[hx,rD]
     cases hv:jL ((bs s).take D) with
     | some v=>
      have HF:=ak (Z6 hK hD g hv);have HP:=ak g;have I3:=fun w1 hE=>amf (s:=s.extract 0 D) (v:=v) (by rw[hxb];exact hv) w1 hE;clear hK hD hx hxs hxb hv h;have Qh:=ak fun w1 (hb:ax w.heap.size w w1)=>I3 w1 (hE.below hb);clear I3 hE;go_enter func116,ntmps116;go_wp2_with fail;refine I1.mono ?_;rintro e w1 ⟨rfl,hb1⟩;have Z1:=zb.on hb1 Z;clear Z;go_wp2_with fail;refine(I2 w1).mono ?_;rintro e w2 ⟨rfl,hb2⟩;have Z2:=zb.on hb2 Z1;clear Z1;go_wp2_with fail;refine(Qh.out w2 Cy).mono ?_;rintro e w3 ⟨rfl,hb3⟩;have Z3:=zb.on hb3 Z2;clear Z2;obtain⟨z0,z1,z2,z3,z4,z5⟩:=Z3;go_wp2_with fail;exact bodyPost_ret (v:=.tuple #[.agg #[.int .i64 2,.string (⟨#[]⟩),.int .i64 v,.int .i64 0],.int .i64 (D:Int)]) OH rfl (fst_mk _ _ _ _ D rfl Cy (.inl ⟨HF.out,HP.out⟩))
     | none=>
      have HF:=ak (Z7 hK hD g hv);have I3:=fun w1 hE=>ame (s:=s.extract 0 D) (by rw[hxb];exact hv) hxs w1 hE;clear hK hD hx hxs hxb hv h;have Qh:=ak fun w1 (hb:ax w.heap.size w w1)=>I3 w1 (hE.below hb);clear I3 hE;go_enter func116,ntmps116;go_wp2_with fail;refine I1.mono ?_;rintro e w1 ⟨rfl,hb1⟩;have Z1:=zb.on hb1 Z;clear Z;go_wp2_with fail;refine(I2 w1).mono ?_;rintro e w2 ⟨rfl,hb2⟩;have Z2:=zb.on hb2 Z1;clear Z1;go_wp2_with fail;refine(Qh.out w2 Cy).mono ?_;rintro e w3 ⟨rfl,hb3⟩;have Z3:=zb.on hb3 Z2;clear Z2;obtain⟨z0,z1,z2,z3,z4,z5⟩:=Z3;go_wp2_with fail;exact bodyPost_ret (v:=.tuple #[.agg #[.int .i64 0,.string (⟨#[]⟩),.int .i64 0,.int .i64 0],.int .i64 0]) OH rfl (fst_mk _ _ _ _ 0 rfl Cy (.inr ⟨HF.out,rfl⟩))
   · obtain rfl:D=0:=by omega
     obtain⟨G,hG⟩:∃G,qV (bs s)=G:=⟨_,rfl⟩
     have hGs:G<=s.size:=by
      rw[← hG,← eF];exact VY
     have HF:=Z8 hK hD hG;have hx:=Ja s G;rw[← hx] at HF;have HF':=ak HF;have I3:=fun w1=>aoX s w1 hs1;simp only[hG] at I3;have g0:(0:Int)<=(G:Int):=by omega
     have g1:(G:Int)<=(s.size:Int):=by omega
     clear hK hD hG hx HF g h hE hGs;go_enter func116,ntmps116;go_wp2_with fail;refine I1.mono ?_;rintro e w1 ⟨rfl,hb1⟩;have Z1:=zb.on hb1 Z;clear Z;go_wp2_with fail;refine(I2 w1).mono ?_;rintro e w2 ⟨rfl,hb2⟩;have Z2:=zb.on hb2 Z1;clear Z1;go_wp2_with fail;refine(I3 w2).mono ?_;rintro e w3 ⟨rfl,hb3⟩;have Z3:=zb.on hb3 Z2;clear Z2;obtain⟨z0,z1,z2,z3,z4,z5⟩:=Z3;go_wp2_with fail;exact bodyPost_ret (v:=.tuple #[.agg #[.int .i64 3,.string (s.extract 0 G),.int .i64 0,.int .i64 0],.int .i64 (G:Int)]) OH rfl (fst_mk _ _ _ _ G rfl Cy (by
      have h:=HF'.out;by_cases e:G=0
      · rw[if_pos e] at h;exact .inr ⟨h,e⟩
      · rw[if_neg e] at h;exact .inl ⟨h,by omega⟩))
end Lx
namespace Lx
open Nu
open Go.RowKit
theorem aqd {l:List UInt8} (h:l.length=0):jG l=false:=by
 have:l=[]:=List.length_eq_zero_iff.1 h;subst this;rfl
theorem ao9 {p:UInt8->Bool} {l:List UInt8} (h0:0<l.length) (h:p l[0]=false):dm p l=0:=by
 cases l with
 | nil=>simp at h0
 | cons c t=>exact Cg h
theorem ao_ {p:UInt8->Bool} {l:List UInt8} (h0:0<l.length) (h:p l[0]=true):dm p l≠0:=by
 cases l with
 | nil=>simp at h0
 | cons c t=>have:=yw (p:=p) (c:=c) (t:=t) h;omega
theorem aqe {l:List UInt8} (h0:0<l.length) (h:gq l[0]=false):jG l=false:=by unfold jG;rw[ao9 h0 h];rfl
theorem aqc {l:List UInt8} {k:Nat} (hk:k<l.length) (h:iU l[k]=false):jG l=false:=by
 unfold jG;have:¬dm iU l=l.length:=fun e=>by
  have:=Kb (p:=iU) (l:=l) (j:=k) bU hk;rw[h] at this;cases this
 rw[decide_eq_false this,Bool.and_false]
theorem aqb {l:List UInt8} (h0:0<l.length) (h:gq l[0]=true) (g:All iU l l.length):jG l=true:=by
 unfold jG;rw[decide_eq_true (ao_ h0 h),decide_eq_true (Od fun j hj=>g j hj hj)];rfl
theorem Qq {p:UInt8->Bool} {l:List UInt8} {k:Nat} (hk:k<l.length) (h:All p l k) (e:p l[k]=true):All p l (k+1):=by
 exact WA
theorem all_zero {p:UInt8->Bool} {l:List UInt8}:All p l 0:=fun _ hj=>absurd hj (Nat.not_lt_zero _)
theorem GN {p:Prop} (h:p:=by
 exact CQ
 ):p:=h
theorem Uf (x:Int) (w:af):ai ae 73 #[.int .u8 x] w fun e w'=>e=.returned (.bool (gM x))/\w'=w:=by
 unfold gM;by_cases h1:97<=x
 · have t1:decide (97<=x)=true:=decide_eq_true h1;by_cases h2:x<=122
   · have t2:decide (x<=122)=true:=decide_eq_true h2;rw[t1,t2];go_enter func73,ntmps73;exact GN
   · have t2:decide (x<=122)=false:=decide_eq_false h2;rw[t1,t2];go_enter func73,ntmps73;exact GN
 · have t1:decide (97<=x)=false:=decide_eq_false h1;rw[t1,Bool.false_and];go_enter func73,ntmps73;exact GN
theorem ant (x:Int) (w:af):ai ae 74 #[.int .u8 x] w fun e w'=>e=.returned (.bool (gV x))/\w'=w:=by
 unfold gV;by_cases h1:48<=x
 · have t1:decide (48<=x)=true:=decide_eq_true h1;by_cases h2:x<=57
   · have t2:decide (x<=57)=true:=decide_eq_true h2;rw[t1,t2];go_enter func74,ntmps74;exact GN
   · have t2:decide (x<=57)=false:=decide_eq_false h2;rw[t1,t2];go_enter func74,ntmps74;exact GN
 · have t1:decide (48<=x)=false:=decide_eq_false h1;rw[t1,Bool.false_and];go_enter func74,ntmps74;exact GN
theorem sj {x:Int} {b:Bool} (h:gM x=b) (w:af):ai ae 73 #[.int .u8 x] w fun e w'=>e=.returned (.bool b)/\w'=w:=by rw[← h];exact Uf x w
theorem Ep {x:Int} {b:Bool} (h:gV x=b) (w:af):ai ae 74 #[.int .u8 x] w fun e w'=>e=.returned (.bool b)/\w'=w:=by rw[← h];exact ant x w
theorem aon (s:ByteArray) (w:af):ai ae 72 #[.string s] w fun e w'=>e=.returned (.bool (fZ (bs s)))/\w'=w:=by
 go_enter func72,ntmps72;exact zzj
theorem OI {p:Prop} (h:p:=by
 exact Ww
 ):p:=h
theorem ET {p:Prop} (h:p:=by
 go_wp2_with fail;go_ret;exact⟨lJ HR.out.symm,rfl⟩
 ):p:=h
theorem acA (s:ByteArray) (w:af) (hs:s.size<=9223372036854775807):ai ae 35 #[.string s] w fun e w'=>e=.returned (.bool (jG (bs s)))/\w'=w:=by
 have hs':(s.size:Int)<=9223372036854775807:=by omega
 by_cases h0:s.size=0
 · have HR:=ak (aqd (l:=bs s) (by rw[eF];exact h0));have z:((s.size:Int)==0)=true:=by rw[beq_iff_eq];omega
   go_enter func35,ntmps35;exact ET
 · have hs0:0<s.size:=by omega
   have z:((s.size:Int)==0)=false:=by rw[beq_eq_false_iff_ne];omega
   have c0:(0:Int)<(s.size:Int):=by omega
   have hl0:0<(bs s).length:=by rw[eF];exact hs0
   by_cases h3:gM ((s[0]).toNat:Int)=true
   · have HC:=ak (show gq (bs s)[0]=true from h3);have HL:=ak (eF s);go_enter func35,ntmps35;go_wp2_with fail;refine(sj h3 w).mono ?_;rintro e w1 ⟨rfl,rfl⟩;clear h3;go_wp2_with fail;go_loop [3] (fun i=>∃k:Nat,k<=s.size/\i=.int .i64 (k:Nat)/\Hid (All iU (bs s) k)) (fun i=>s.size-(intOf i).toNat)
     case atStart=>exact⟨0,aj _,rfl,ak all_zero⟩
     case round=>
      obtain⟨k,hk,rfl,HG⟩:=hrel;have d1:(0:Int)<=(k:Int):=by omega
      rcases Nat.lt_or_ge k s.size with h|h
      · have hkl:k<(bs s).length:=by rw[HL.out];exact h
        have d2:(k:Int)<(s.size:Int):=by omega
        have HY:=ak (fun e=>Qq hkl HG.out e);have HN:=ak (fun e=>aqc hkl e);have HD:Hid (iU (bs s)[k]=vk ((s[k]).toNat:Int)):=ak rfl;rw[HD.out] at HY HN;by_cases g1:gM ((s[k]).toNat:Int)=true
        · have oP:=ak (HY.out (by unfold vk;rw[g1];rfl));clear HY HN;go_wp2_with fail;refine(sj g1 w1).mono ?_;exact OI
        have g1':gM ((s[k]).toNat:Int)=false:=by simpa using g1
        by_cases g2:gV ((s[k]).toNat:Int)=true
        · have oP:=ak (HY.out (by unfold vk;rw[g2];simp));clear HY HN g1;go_wp2_with fail;refine(sj g1' w1).mono ?_;rintro e w3 ⟨rfl,rfl⟩;go_wp2_with fail;refine(Ep g2 w3).mono ?_;exact OI
        have g2':gV ((s[k]).toNat:Int)=false:=by simpa using g2
        by_cases g3:((s[k]).toNat:Int)=95
        · have oP:=ak (HY.out (by unfold vk;rw[decide_eq_true g3];simp));have q3:(((s[k]).toNat:Int)==95)=true:=by rw[beq_iff_eq];exact g3
          have q4:(((s[k]).toNat:Int) != 95)=false:=by simp[bne,q3]
          have e95:gM 95=false:=by decide
          have f95:gV 95=false:=by decide
          clear HY HN g1 g2;go_wp2_with fail;refine(sj e95 w1).mono ?_;rintro e w3 ⟨rfl,rfl⟩;go_wp2_with fail;refine(Ep f95 w3).mono ?_;exact OI
        · have HR:=ak (HN.out (by unfold vk;rw[g1',g2',decide_eq_false g3];rfl));have q3:(((s[k]).toNat:Int)==95)=false:=beq_eq_false_iff_ne.2 g3;clear HY HN g1 g2;go_wp2_with fail;refine(sj g1' w1).mono ?_;rintro e w3 ⟨rfl,rfl⟩;go_wp2_with fail;refine(Ep g2' w3).mono ?_;rintro e w3 ⟨rfl,rfl⟩;exact ET
      · obtain rfl:k=s.size:=by omega
        have HR:=ak (aqb hl0 HC.out (by rw[HL.out];exact HG.out));exact ET
   · have h3':gM ((s[0]).toNat:Int)=false:=by simpa using h3
     have HR:=ak (aqe hl0 h3');clear h3;go_enter func35,ntmps35;go_wp2_with fail;refine(sj h3' w).mono ?_;rintro e w1 ⟨rfl,rfl⟩;exact ET
theorem ais {l:List UInt8} {k:Nat} (hk:k<l.length) (h:dY l[k]=false):nU l=false:=by
 unfold nU;rw[show l.all dY=false from ?_,Bool.and_false];exact afo
theorem Yn {l:List UInt8} (h:All dY l l.length):nU l=decide (0<l.length):=by
 unfold nU;rw[show l.all dY=true from ?_,Bool.and_true]
 · rw[decide_eq_decide]
   cases l with
   | nil=>simp
   | cons c t=>simp
 · rw[List.all_eq_true];intro c hc;obtain⟨j,hj,rfl⟩:=List.getElem_of_mem hc;exact h j hj hj
theorem aci (s:ByteArray) (w:af) (hs:s.size<=9223372036854775807):ai ae 36 #[.string s] w fun e w'=>e=.returned (.bool (nU (bs s)))/\w'=w:=by
 have hs':(s.size:Int)<=9223372036854775807:=by omega
 have HL:=ak (eF s);go_enter func36,ntmps36;go_wp2_with fail;go_loop [3] (fun i=>∃k:Nat,k<=s.size/\i=.int .i64 (k:Nat)/\Hid (All dY (bs s) k)) (fun i=>s.size-(intOf i).toNat)
 case atStart=>exact⟨0,aj _,rfl,ak all_zero⟩
 case round=>
  obtain⟨k,hk,rfl,HG⟩:=hrel;have d1:(0:Int)<=(k:Int):=by omega
  rcases Nat.lt_or_ge k s.size with h|h
  · have hkl:k<(bs s).length:=by rw[HL.out];exact h
    have d2:(k:Int)<(s.size:Int):=by omega
    have HD:Hid (dY (bs s)[k]=gV ((s[k]).toNat:Int)):=ak rfl;by_cases g1:gV ((s[k]).toNat:Int)=true
    · have oP:=ak (Qq hkl HG.out (by rw[HD.out];exact g1));go_wp2_with fail;refine(Ep g1 w).mono ?_;exact OI
    · have g1':gV ((s[k]).toNat:Int)=false:=by simpa using g1
      have HR:=ak (ais hkl (by rw[HD.out];exact g1'));clear g1;go_wp2_with fail;refine(Ep g1' w).mono ?_;rintro e w3 ⟨rfl,rfl⟩;exact ET
  · obtain rfl:k=s.size:=by omega
    have HR:Hid (nU (bs s)=decide ((0:Int)<(s.size:Int))):=ak (by rw[Yn (by rw[HL.out];exact HG.out),HL.out,decide_eq_decide];omega);by_cases h0:0<s.size
    · have c1:decide ((0:Int)<(s.size:Int))=true:=decide_eq_true bU;rw[c1] at HR;exact ET
    · have c1:decide ((0:Int)<(s.size:Int))=false:=decide_eq_false bU;rw[c1] at HR;exact ET
end Lx
namespace Lx
open Nu
open Go.RowKit
def lV (x:Tk):Bool:=if x.k=1 then jG (bs x.t)&&decide (x.n=0) else if x.k=2 then decide (x.t.size=0)&&(decide (0<=x.n)&&decide (x.n<=1000000000000)) else if x.k=3 then fZ (bs x.t)&&decide (x.n=0) else decide (x.n=0)&&decide (x.t.size=0)
def dW (w':af) (g:Nat) (k:Int) (t:ByteArray) (n ln:Int):Prop:=w'.cell? ⟨g,0,au⟩=av (.int .i64 k)/\w'.cell? ⟨g,1,au⟩=av (.string t)/\w'.cell? ⟨g,2,au⟩=av (.int .i64 n)/\w'.cell? ⟨g,3,au⟩=av (.int .i64 ln)
theorem dW.new {w:af} {k:Int} {t:ByteArray} {n ln:Int}:dW (w.alloc (.cells #[.int .i64 k,.string t,.int .i64 n,.int .i64 ln] 87)) w.heap.size k t n ln:=by
 have h:=xV (w:=w) (x:=⟨k,t,n,ln⟩) (t:=87);exact⟨h.1,h.2.1,h.2.2.1,h.2.2.2⟩
theorem dW.on {w w2:af} {g:Nat} {k:Int} {t:ByteArray} {n ln:Int} (hb:ax w.heap.size w w2) (hg:g<w.heap.size) (h:dW w g k t n ln):dW w2 g k t n ln:=by
 exact zzq
theorem dW.drew {w:af} {g:Nat} {k:Int} {t:ByteArray} {n ln:Int} (h:dW w g k t n ln):dW w.drew g k t n ln:=h
theorem dW.keep {w':af} {g:Nat} {k:Int} {t:ByteArray} {n ln:Int} (h:dW w' g k t n ln):w'.cell? ⟨g,0,au⟩=av (.int .i64 k)/\w'.cell? ⟨g,1,au⟩=av (.string t)/\w'.cell? ⟨g,2,au⟩=av (.int .i64 n)/\w'.cell? ⟨g,3,au⟩=av (.int .i64 ln):=h
end Lx
namespace Lx
open Nu
open Go.RowKit
def wN (bk xk:Int) (last:Bool):Bool:=if xk=4 then !decide (bk=4) else if xk=0 then decide (bk=4)&&last else true
def uR (first:Bool) (bk bl xk xl:Int):Bool:=if first=true then decide (1<=xl) else if ¬bk=4 then decide (xl=bl) else if xk=0 then decide (bl<=xl) else decide (bl<xl)
def zh (first:Bool) (b x:Tk) (last:Bool):Int:=
 if x.k<0∨4<x.k then 1 else if (lV x&&wN b.k x.k last)=false then 8 else if uR first b.k b.l x.k x.l=false then 12 else 0
def jT (l:List Tk) (k:Nat):Tk:=if k=0 then ⟨4,mt,0,0⟩ else l.getD (k-1) ⟨4,mt,0,0⟩
theorem LU {l:List Tk} {j:Nat} (h:j<l.length):jT l (j+1)=l[j]:=by
 unfold jT;rw[if_neg bU,Nat.add_sub_cancel];simp[List.getD,List.getElem?_eq_getElem h]
def Dv (l:List Tk) (k:Nat):Int:=zh (decide (k=0)) (jT l k) (l.getD k ⟨4,mt,0,0⟩) (decide (k+1=l.length))
theorem getD_at {l:List Tk} {k:Nat} (h:k<l.length):l.getD k ⟨4,mt,0,0⟩=l[k]:=by simp[List.getD,List.getElem?_eq_getElem h]
def zA (V:Nat->Int):Nat->Int
 | 0=>0
 | n+1=>if zA V n=0 then V n else zA V n
theorem TM {V:Nat->Int} {n:Nat}:zA V n=0 ↔ ∀i,i<n->V i=0:=by
 induction n with
 | zero=>exact⟨fun _ i hi=>absurd hi (Nat.not_lt_zero _),fun _=>rfl⟩
 | succ m ih=>
  show(if zA V m=0 then V m else zA V m)=0↔_
  constructor
  · intro h
    split at h
    · rename_i h0
      intro i hi;by_cases e:i=m
      · subst e;exact h
      · exact ih.1 h0 i bU
    · rename_i h0;exact absurd h h0
  · intro h;rw[if_pos (ih.2 fun i hi=>h i bU)];exact h m bU
def kT (l:List Tk):Int:=if zA (Dv l) l.length=0 then (if (jT l l.length).k=0 then 0 else 8) else zA (Dv l) l.length
end Lx
namespace Lx
open Nu
open Go.RowKit
def bx (w':af) (g:Nat) (x:Tk):Prop:=w'.cell? ⟨g,0,au⟩=av (.int .i64 x.k)/\w'.cell? ⟨g,1,au⟩=av (.string x.t)/\w'.cell? ⟨g,2,au⟩=av (.int .i64 x.n)/\w'.cell? ⟨g,3,au⟩=av (.int .i64 x.l)/\(∀o,w'.frozen? ⟨g,o,au⟩=false)/\g<w'.heap.size
theorem bx.new {w:af} {x:Tk}:bx (w.alloc (.cells #[.int .i64 x.k,.string x.t,.int .i64 x.n,.int .i64 x.l] 87)) w.heap.size x:=by
 have h:=xV (w:=w) (x:=x) (t:=87);exact⟨h.1,h.2.1,h.2.2.1,h.2.2.2,fun o=>frozen_of_row _ _ o _ _ (heap_alloc_new w _),by simp⟩
theorem bx.on {w w2:af} {g:Nat} {x:Tk} (hb:ax w.heap.size w w2) (h:bx w g x):bx w2 g x:=by
 exact zzg
end Lx
end Go.Proofs.YthnillhnjhalmaaGreatDoor
