/-
  Parts of this proof: The contract of scan. The contract of Tokens. What is read from a text is a valid list of toke. The contract of the reference's Tokens. What Text writes is read back. Mathematics of writing. Lines.
-/
import Derived.Test.YtkpekhpgdajabaaGreatDoorYLxFirst
open List renaming length_cons->ae,length_append->ag
open Nat renaming le_refl->af
open Bool renaming and_eq_true->ah
open Go renaming World->ai
open Go.RowKit.Below renaming refl->aj
set_option linter.unusedVariables false
set_option maxRecDepth 100000
set_option maxHeartbeats 4000000
open Go.Lib (hid)
namespace Go.Proofs.YtkpekhpgdajabaaGreatDoor
namespace Lx
open Nu
open Go.RowKit
theorem agZ {c:UInt8} (h:iA c=true):c.toNat<128:=by have:=GM h;omega
theorem aoC {c:UInt8} (h:kX c=true):c.toNat<128:=by
 unfold kX BF iT j_ at h;simp only[Bool.or_eq_true,ah,decide_eq_true_eq] at h;omega
theorem abH {l:List UInt8} (h:dG l=true):∀c∈l,c.toNat<128:=by
 exact NZ
theorem ajg {c:UInt8} (h:kg c=false):c.toNat=10:=by
 unfold kg Cx at h;by_cases h7:((c.toNat:Nat):Int)=10
 · omega
 · rw[decide_eq_false h7] at h;cases h
theorem aiv {l:List UInt8} {x:Tk} {k:Nat} (h:fQ l=some (x,k)):∀c∈l.take k,c.toNat<128:=by
 unfold fQ at h;by_cases h1:dF gN l=0
 · rw[if_pos h1] at h;by_cases h2:dF iA l=0
   · rw[if_pos h2] at h;by_cases h3:2<=l.length/\dG (l.take 2)=true
     · rw[if_pos h3] at h;cases h;exact abH h3.2
     · rw[if_neg h3] at h;by_cases h4:dG (l.take 1)=true
       · rw[if_pos h4] at h;cases h;exact abH h4
       · rw[if_neg h4] at h;cases h
   · rw[if_neg h2] at h
     split at h
     · cases h;exact fun c hc=>agZ (abS c hc)
     · cases h
 · rw[if_neg h1] at h;cases h
   exact fun c hc=>aoC (abS c hc)
def OD (s:ByteArray) (pos bh:Nat):Prop:=∀p,pos<=p->p<bh->p<s.size->p+(Utf8.decode s p).2<=bh
theorem anl {s:ByteArray} {pos bh:Nat} (h:∀p,pos<=p->p<bh->(g:p<s.size)->(s[p]'g).toNat<128):OD s pos bh:=by
 intro p h1 h2 g;rw[decode_ascii s p g (h p h1 h2 g)];exact h2
theorem mJ {p:Prop} (h:p:=by omega):p:=h
theorem anm {s:ByteArray} {pos bh:Nat} (hb:bh<=s.size) (h:(g:bh<s.size)->(s[bh]'g).toNat<128):OD s pos bh:=by
 intro p h1 h2 g;obtain⟨m1,m2,m3⟩:=AF s p g;rcases Nat.lt_or_ge bh (p+(Utf8.decode s p).2) with h3|h3
 · exfalso
   have hlt:bh<s.size:=by omega
   obtain⟨j,rfl⟩:∃j,bh=p+j:=⟨bh-p,by omega⟩
   have:=m3 j mJ mJ hlt;have:=h hlt;omega
 · exact h3
structure qg (s:ByteArray) (R:dm) (pos bh q n:Nat) (a:List Tk):Prop where
 hpos:pos<=s.size
 Hl:bh<=s.size
 hq:(bh<=pos/\q=pos)∨(pos<bh/\q=bh)
 skip:OD s pos bh
 rest:dH ((bs s).drop q) a n=R
 len:a.length<=q
 line:n<=q+1
theorem amZ (s:ByteArray):qg s (dH (bs s) [] 1) 0 0 0 1 []:=⟨Nat.zero_le _,Nat.zero_le _,.inl ⟨af _,rfl⟩,fun p _ h=>absurd h (Nat.not_lt_zero _),by rw[List.drop_zero],af _,af _⟩
theorem qg.alv {s:ByteArray} {R:dm} {pos bh q n:Nat} {a:List Tk} (h:qg s R pos bh q n a):q<=s.size:=by have:=h.hq;have:=h.hpos;have:=h.Hl;omega
theorem amV {s:ByteArray} {R:dm} {pos bh q n:Nat} {a:List Tk} (h:qg s R pos bh q n a) (hp:¬pos<s.size):R=⟨a,n,false⟩:=by
 have h1:=h.hq;have h2:=h.Hl;have hq:s.size<=q:=by omega
 rw[← h.rest,List.drop_eq_nil_of_le (by rw[fJ];exact hq)];rfl
theorem amY {s:ByteArray} {R:dm} {pos bh q n:Nat} {a:List Tk} (h:qg s R pos bh q n a) (hp:pos<s.size) (hb:pos<bh):qg s R (pos+(Utf8.decode s pos).2) bh q n a:=by
 obtain⟨m1,m2,-⟩:=AF s pos hp;have hs:=h.skip pos (af _) hb hp;have hq:=h.hq;exact⟨m2,h.Hl,by omega,fun p h1 h2=>h.skip p mJ h2,h.rest,h.len,h.line⟩
theorem drop_at {s:ByteArray} {pos:Nat} (hp:pos<s.size):(bs s).drop pos=s[pos]::(bs s).drop (pos+1):=by
 rw[List.drop_eq_getElem_cons (by rw[fJ];exact hp)];rfl
theorem Sr {s:ByteArray} {pos r:Nat} (hp:pos<s.size) (hr:(Utf8.decode s pos).1=r) (h:r<128):s[pos].toNat=r/\(Utf8.decode s pos).2=1:=by
 by_cases ha:(s[pos]'hp).toNat<128
 · rw[decode_ascii s pos hp ha] at hr ⊢; exact⟨hr,rfl⟩
 · have:=(decode_high s pos hp mJ).1;omega
theorem M6 {c:UInt8} {n:Nat} (h:c.toNat=n) (hn:n<256):c=UInt8.ofNat n:=by
 apply UInt8.toNat_inj.1
 rw[UInt8.toNat_ofNat',h];omega
theorem amU {s:ByteArray} {R:dm} {pos bh q n:Nat} {a:List Tk} (h:qg s R pos bh q n a) (hp:pos<s.size) (hb:¬pos<bh) {r:Nat} (hr:(Utf8.decode s pos).1=r) (h2:r=32∨r=9):qg s R (pos+(Utf8.decode s pos).2) bh (pos+1) n a:=by
 obtain⟨e1,e2⟩:=Sr hp hr mJ;have hq:=h.hq;obtain rfl:q=pos:=by omega
 rw[e2];refine⟨by omega,h.Hl,.inl ⟨by omega,rfl⟩,fun p g1 g2=>by omega,?_,by have:=h.len;omega,by have:=h.line;omega⟩;rw[← h.rest,drop_at hp,AX];rcases h2 with rfl|rfl
 · exact .inl (M6 e1 bR)
 · exact .inr (M6 e1 bR)
theorem amX {s:ByteArray} {R:dm} {pos bh q n:Nat} {a:List Tk} (h:qg s R pos bh q n a) (hp:pos<s.size) (hb:¬pos<bh) (hr:(Utf8.decode s pos).1=35):qg s R (pos+(Utf8.decode s pos).2) (pos+dF kg ((bs s).drop pos)) (pos+dF kg ((bs s).drop pos)) n a:=by
 obtain⟨e1,e2⟩:=Sr hp hr mJ;have hq:=h.hq;obtain rfl:q=pos:=by omega
 have ec:s[q]=35:=M6 e1 bR;have hd:=drop_at hp;rw[ec] at hd;have h1:=Bl (p:=kg) (t:=(bs s).drop (q+1)) Hu;rw[← hd] at h1;have h3:=z8 kg ((bs s).drop q);rw[List.length_drop,fJ] at h3;rw[e2];refine⟨by omega,by omega,?_,?_,?_,by have:=h.len;omega,by have:=h.line;omega⟩
 · by_cases g:dF kg ((bs s).drop q)=1
   · rw[g];exact .inl ⟨af _,rfl⟩
   · exact .inr ⟨by omega,rfl⟩
 · refine anm mJ fun g=>?_;have h4:=abO (p:=kg) (l:=(bs s).drop q) (by rw[List.length_drop,fJ];omega);rw[List.getElem_drop] at h4;have h5:kg (s[q+dF kg ((bs s).drop q)]'g)=false:=h4;have h6:=ajg h5;omega
 · rw[← h.rest];have h5:dH ((bs s).drop q) a n=dH (((bs s).drop q).drop (dF kg ((bs s).drop q))) a n:=by rw[hd];exact Rs
   rw[h5,List.drop_drop]
theorem amW {s:ByteArray} {R:dm} {pos bh q n:Nat} {a:List Tk} (h:qg s R pos bh q n a) (hp:pos<s.size) (hb:¬pos<bh) (hr:(Utf8.decode s pos).1=10):qg s R (pos+(Utf8.decode s pos).2) bh (pos+1) (n+1) (iR a n):=by
 obtain⟨e1,e2⟩:=Sr hp hr mJ;have hq:=h.hq;obtain rfl:q=pos:=by omega
 have ec:s[q]=10:=M6 e1 bR;rw[e2];refine⟨by omega,h.Hl,.inl ⟨by omega,rfl⟩,fun p g1 g2=>by omega,?_,by have:=h.len;have:=GZ a n;omega,by have:=h.line;omega⟩;rw[← h.rest,drop_at hp,ec,LV]
theorem aoi {s:ByteArray} {pos r:Nat} (hp:pos<s.size) (hr:(Utf8.decode s pos).1=r) (h1:¬r=32) (h2:¬r=9) (h3:¬r=35) (h4:¬r=10):Aa s[pos]:=by
 have key:∀m:Nat,m<128->s[pos]=UInt8.ofNat m->r=m:=by
  intro m hm e;have e1:s[pos].toNat=m:=by rw[e,UInt8.toNat_ofNat'];omega
  rw[decode_ascii s pos hp mJ] at hr;rw[← hr];exact e1
 exact⟨fun g=>g.elim (fun e=>h1 (key 32 mJ e)) (fun e=>h2 (key 9 mJ e)),fun e=>h3 (key 35 mJ e),fun e=>h4 (key 10 mJ e)⟩
theorem am0 {s:ByteArray} {R:dm} {pos bh q n:Nat} {a:List Tk} (h:qg s R pos bh q n a) (hp:pos<s.size) (hb:¬pos<bh) (ht:Aa s[pos]) {x:Tk} {k:Nat} (e:fQ ((bs s).drop pos)=some (x,k)):pos+k<=s.size/\qg s R (pos+(Utf8.decode s pos).2) (pos+k) (pos+k) n (a++[jv x n]):=by
 have hq:=h.hq;obtain rfl:q=pos:=by omega
 obtain⟨k1,k2⟩:=EI e;have hlow:=aiv e;rw[List.length_drop,fJ] at k2;have hl2:∀p,q<=p->p<q+k->(g:p<s.size)->(s[p]'g).toNat<128:=by
  intro p g1 g2 g;refine hlow _ ?_;have:(s[p]'g)=((bs s).drop q)[p-q]'(by rw[List.length_drop,fJ];omega):=by
   rw[List.getElem_drop];have e3:q+(p-q)=p:=by omega
   simp only[e3];rfl
  rw[this];rw[List.mem_take_iff_getElem];exact⟨p-q,by rw[List.length_drop,fJ];omega,rfl⟩
 have hd:=drop_at hp;have e2:(Utf8.decode s q).2=1:=by rw[decode_ascii s q hp (hl2 q (af _) mJ hp)]
 rw[e2];refine⟨by omega,by omega,by omega,?_,anl fun p g1 g2 g=>hl2 p mJ g2 g,?_,by rw[ag];have:=h.len;simp;omega,by have:=h.line;omega⟩
 · by_cases g:k=1
   · subst g;exact .inl ⟨af _,rfl⟩
   · exact .inr ⟨by omega,rfl⟩
 · rw[← h.rest];rw[hd] at e ⊢;rw[LW ht e,← hd,List.drop_drop]
theorem amT {s:ByteArray} {R:dm} {pos bh q n:Nat} {a:List Tk} (h:qg s R pos bh q n a) (hp:pos<s.size) (hb:¬pos<bh) (ht:Aa s[pos]) (e:fQ ((bs s).drop pos)=none):R=⟨a,n,true⟩:=by
 have hq:=h.hq;obtain rfl:q=pos:=by omega
 rw[← h.rest];rw[drop_at hp] at e ⊢;exact ajV ht e
theorem ak_ {lo:Nat} {w:ai} {v:Value} {l:List Tk} {k:Nat} {s:ByteArray} {pos:Nat} (ho:Own lo w v l) (hk:w.heap[k]?=some (.stringIter s pos)) (pos':Nat):Own lo (w.iterAt k s pos') v l:=by
 refine World.ownsRow.kept ho (row:=some k) ⟨rfl,rfl,rfl,by rw[Lib.iterAt_size];exact af _,fun j _ hj=>Lib.iterAt_other w k j s pos' (fun e=>hj (by rw[e]))⟩ ?_;rcases ho.2 with⟨rfl,h0⟩|⟨g,cap,cur,rfl,hgg,EJ,-⟩
 · exact .inl rfl
 · refine .inr fun e=>?_;simp[Value.ownBlock] at e
   subst e;rw[hk] at EJ;cases EJ
def Ve (w:ai) (R:dm) (e:Ending) (w':ai):Prop:=∃v,e=.returned (.tuple #[v,.int .i64 (R.n:Int),.bool R.bad])/\Own w.heap.size w' v R.a/\Below w.heap.size w w'
theorem abF {w w':ai} {R:dm} {a:List Tk} {n:Nat} {b:Bool} {v:Value} {e:Ending} (h:R=⟨a,n,b⟩) (he:e=.returned (.tuple #[v,.int .i64 (n:Int),.bool b])) (ho:Own w.heap.size w' v a) (hb:Below w.heap.size w w'):Ve w R e w':=by
 subst h;exact⟨v,he,ho,hb⟩
structure sG (w:ai) (s:ByteArray) (pos:Nat) (v:Value) (a:List Tk) (wr:ai):Prop where
 own:Own w.heap.size wr v a
 iter:wr.heap[w.heap.size]?=some (.stringIter s pos)
 below:Below w.heap.size w wr
theorem sG.next {w wr:ai} {s:ByteArray} {pos:Nat} {v:Value} {a:List Tk} (h:sG w s pos v a wr) (pos':Nat):sG w s pos' v a (wr.iterAt w.heap.size s pos'):=
 ⟨ak_ h.own h.iter pos',Lib.iterAt_heap wr _ s pos pos' h.iter,Lib.below_iterAt h.below (af _) s pos'⟩
theorem sG.call {w wr w2:ai} {s:ByteArray} {pos:Nat} {v:Value} {a:List Tk} (h:sG w s pos v a wr) (hb:Below wr.heap.size wr w2):sG w s pos v a w2:=
 ⟨own_below h.own hb,(hb.block _ (Array.getElem?_eq_some_iff.1 h.iter).1).trans h.iter,rF h.below hb⟩
theorem sG.grew {w wr w2:ai} {s:ByteArray} {pos:Nat} {v v2:Value} {a a2:List Tk} (h:sG w s pos v a wr) (ho:Own w.heap.size w2 v2 a2) (hg:wr.grownBy w2 v.ownBlock):sG w s pos v2 a2 w2:=
 ⟨ho,ajC h.own hg h.iter,below_grown h.below h.below.size h.own hg⟩
theorem sG.start (w:ai) (s:ByteArray):sG w s 0 (.slice none 0 0) [] (w.iter s 0):=⟨World.ownsRow_nil _ _ _ _,World.iter_heap w s 0,iJ (aj _ _)⟩
theorem acz {p:Prop} (h:p:=by
 go_wp2_with fail;go_roundw
 case rel=>exact⟨pos+m,b,pos+1,n,a,rfl,rfl,rfl,zg,HX.out⟩
 case measure=>
  have h5:w2.iterPos w.heap.size=pos+m:=by simp[World.iterPos,HX.out.iter]
  rw[h5,hpi];omega
 ):p:=h
theorem amS (s:ByteArray) (w:ai) (hs:s.size<=20000) (hE:Env w):Calls Tryz.prog 66 #[.string s] w (Ve w (dH (bs s) [] 1)):=by
 have hs':(s.size:Int)<=20000:=by omega
 have U9:=hid (amZ s);obtain⟨R,hR⟩:∃R,dH (bs s) [] 1=R:=⟨_,rfl⟩
 rw[hR] at U9;rw[hR];clear hR;have iX:Hid (Env w):=hid hE;clear hE;go_enter Tryz.func66,Tryz.ntmps66;go_wp2_with fail
 go_step3
 go_wp2_with fail
 go_step3
 go_wp2_with fail;go_loopw [5,6,7,8] (fun v ln wg bh wr=>∃pos b q n:Nat,∃a:List Tk,ln=.int .i64 (n:Nat)/\wg=.bool false/\bh=.int .i64 (b:Nat)/\Hid (qg s R pos b q n a)/\sG w s pos v a wr) (fun v ln wg bh wr=>s.size-wr.iterPos w.heap.size)
 case atStart=>exact⟨0,0,0,1,[],rfl,rfl,rfl,U9,sG.start w s⟩
 case round=>
  obtain⟨pos,b,q,n,a,rfl,rfl,rfl,HS,HW⟩:=hrel;have sF:=hid HW;have hit:=HW.iter;clear HW;by_cases hp:pos<s.size
  · have hnx:=fun ty=>Lib.run_next_any_at (P:=Tryz.prog) wr w.heap.size s pos ty hit hp;have HW2:=sF.out.next (pos+(Utf8.decode s pos).2)
    obtain⟨r,hr⟩:∃r,(Utf8.decode s pos).1=r:=⟨_,rfl⟩
    obtain⟨m,hm⟩:∃m,(Utf8.decode s pos).2=m:=⟨_,rfl⟩
    obtain⟨m1,m2,-⟩:=AF s pos hp;rw[hm] at m1 m2 HW2;simp only[hr,hm] at hnx;obtain⟨w2,hw2⟩:∃w2,wr.iterAt w.heap.size s (pos+m)=w2:=⟨_,rfl⟩
    rw[hw2] at HW2;simp only[hw2] at hnx;have HX:=hid HW2;have hpi:wr.iterPos w.heap.size=pos:=by simp[World.iterPos,hit]
    clear HW2 hw2;by_cases hb:pos<b
    · have c1:decide ((pos:Int)<(b:Int))=true:=decide_eq_true mJ;have c2:(pos:Int)<(b:Int):=by omega
      have HS2:=amY HS.out hp hb;rw[hm] at HS2;have zg:=hid HS2;clear HS2 HS hr hm sF hit;go_wp2_with fail;go_roundw
      case rel=>exact⟨pos+m,b,q,n,a,rfl,rfl,rfl,zg,HX.out⟩
      case measure=>
       have h5:w2.iterPos w.heap.size=pos+m:=by simp[World.iterPos,HX.out.iter]
       rw[h5,hpi];omega
    · have c1:decide ((pos:Int)<(b:Int))=false:=decide_eq_false mJ;have p0:(0:Int)<=(pos:Int):=by omega
      have p1:(pos:Int)<=(s.size:Int):=by omega
      have hTs:(s.extract pos s.size).size<=20000:=by rw[ByteArray.size_extract];omega
      have Cs:bs (s.extract pos s.size)=(bs s).drop pos:=by rw[an9,wC]
      have p2:(pos:Int)<=20000:=by omega
      by_cases r1:r=32∨r=9
      · have HS2:=amU HS.out hp hb hr r1;rw[hm] at HS2;have zg:=hid HS2;have q32:((r:Int)==32)=true∨(((r:Int)==32)=false/\((r:Int)==9)=true):=by
         rcases r1 with rfl|rfl
         · exact .inl bR
         · exact .inr ⟨by decide,by decide⟩
        clear HS2 HS hr hm sF hit hTs Cs r1;rcases q32 with q32|⟨q32,q9⟩
        · exact acz
        · exact acz
      have q32:((r:Int)==32)=false:=by rw[beq_eq_false_iff_ne];omega
      have q9:((r:Int)==9)=false:=by rw[beq_eq_false_iff_ne];omega
      by_cases r2:r=35
      · have HS2:=amX HS.out hp hb (hr.trans r2);rw[hm,← Cs] at HS2;have q35:((r:Int)==35)=true:=by rw[r2];decide
        have I1:=anp (s.extract pos s.size) w2 mJ;have hK:=z8 kg (bs (s.extract pos s.size));rw[fJ] at hK;obtain⟨K,eK⟩:∃K,dF kg (bs (s.extract pos s.size))=K:=⟨_,rfl⟩
        rw[eK] at I1 HS2 hK;have k0:(0:Int)<=(K:Int):=by omega
        have k1:(K:Int)<=20000:=by omega
        have zg:=hid HS2;clear HS2 HS hr hm sF hit hTs Cs r1 r2 eK hK;go_wp2_with fail;refine I1.mono ?_;rintro e w3 ⟨rfl,hb3⟩;have iG:=hid (HX.out.call hb3);go_wp2_with fail;go_roundw
        case rel=>exact⟨pos+m,pos+K,pos+K,n,a,rfl,rfl,by go_num,zg,iG.out⟩
        case measure=>
         have h5:w3.iterPos w.heap.size=pos+m:=by simp[World.iterPos,iG.out.iter]
         rw[h5,hpi];omega
      have q35:((r:Int)==35)=false:=by rw[beq_eq_false_iff_ne];omega
      have hal:a.length<=20000/\n<=20001:=by have:=HS.out.len;have:=HS.out.line;have:=HS.out.alv;omega
      have n0:(0:Int)<=(n:Int):=by omega
      have n1:(n:Int)<=20001:=by omega
      by_cases r3:r=10
      · have HS2:=amW HS.out hp hb (hr.trans r3);rw[hm] at HS2;have vG:((r:Int)==10)=true:=by rw[r3];decide
        have zg:=hid HS2;have I1:=XY n w2 HX.out.own HX.out.below.size mJ;clear HS2 HS hr hm sF hit hTs Cs r1 r2 r3;go_wp2_with fail;refine I1.mono ?_;rintro e w3 ⟨v3,rfl,ho3,hg3⟩;have iG:=hid (HX.out.grew ho3 hg3);clear ho3 hg3;go_wp2_with fail;go_roundw
        case rel=>exact⟨pos+m,b,pos+1,n+1,iR a n,by go_num,rfl,rfl,zg,iG.out⟩
        case measure=>
         have h5:w3.iterPos w.heap.size=pos+m:=by simp[World.iterPos,iG.out.iter]
         rw[h5,hpi];omega
      have vG:((r:Int)==10)=false:=by rw[beq_eq_false_iff_ne];omega
      have ht:=aoi hp hr (fun e=>r1 (.inl e)) (fun e=>r1 (.inr e)) r2 r3;have I1:=aic (s.extract pos s.size) w2 mJ (iX.out.below HX.out.below);rw[Cs] at I1
      cases hf:fQ ((bs s).drop pos) with
      | none=>
       have HR:=hid (amT HS.out hp hb ht hf);rw[hf] at I1;clear HS hr hm sF hit hTs Cs r1 r2 r3 ht hf hal;go_wp2_with fail;refine I1.mono ?_;rintro e w3 ⟨x,k,rfl,hb3,⟨h1,h2⟩|⟨-,rfl⟩⟩
       · cases h1
       have iG:=hid (HX.out.call hb3);go_wp2_with fail;go_ret3
       exact abF HR.out rfl (own_below iG.out.own (by(repeat (first|(with_reducible exact aj _ _)|(with_reducible assumption)|(with_reducible apply iJ)|(with_reducible apply uy)|(with_reducible apply qJ)|(with_reducible refine yn ?_ (by first|(simp;done)|(simp;omega)) _)|(with_reducible refine rF ?_ (by assumption)))))) (by have:=iG.out.below;(repeat (first|(with_reducible exact aj _ _)|(with_reducible assumption)|(with_reducible apply iJ)|(with_reducible apply uy)|(with_reducible apply qJ)|(with_reducible refine yn ?_ (by first|(simp;done)|(simp;omega)) _)|(with_reducible refine rF ?_ (by assumption)))))
      | some y=>
       obtain⟨x,k⟩:=y;obtain⟨hk2,HS2⟩:=am0 HS.out hp hb ht hf;rw[hm] at HS2;have zg:=hid HS2;rw[hf] at I1;obtain⟨hk1,-⟩:=EI hf;clear HS2 HS hr hm sF hit hTs Cs r1 r2 r3 ht hf;go_wp2_with fail;refine I1.mono ?_;rintro e w3 ⟨x',k',rfl,hb3,⟨h1,h2⟩|⟨h1,-⟩⟩
       · simp only[Option.some.injEq,Prod.mk.injEq] at h1;obtain⟨rfl,rfl⟩:=h1;have kz:((k:Int)==0)=false:=by rw[beq_eq_false_iff_ne];omega
         have k0:(0:Int)<=(k:Int):=by omega
         have k1:(pos:Int)+(k:Int)<=20000:=by omega
         have iG:=hid (HX.out.call hb3);have hB:Below w3.heap.size w3 ((w3.alloc (.cells #[.int .i64 x.k,.string x.t,.int .i64 x.n,.int .i64 (n:Int)] 125)).alloc (.cells #[.int .i64 x.k,.string x.t,.int .i64 x.n,.int .i64 (n:Int)] 125)):=iJ (iJ (aj _ _));have oo:=zP (w:=w3.alloc (.cells #[.int .i64 x.k,.string x.t,.int .i64 x.n,.int .i64 (n:Int)] 125)) (x:=jv x n) (t:=125);rw[show(w3.alloc (.cells #[.int .i64 x.k,.string x.t,.int .i64 x.n,.int .i64 (n:Int)] 125)).heap.size=w3.heap.size+1 by simp] at oo;obtain⟨v4,w4,hrun,Zm,hg4⟩:=OJ (own_below iG.out.own hB) cK oo mJ (by have:=hB.size;have:=iG.out.below.size;omega);have JM:=hid (iG.out.grew Zm (Lf (Lf hg4)));clear hB oo Zm hg4;go_wp2_with (at_builtin;refine Lib.wpList_append_run _ rfl _ _ _ _ rfl _ _ rfl rfl _ _ hrun ?_)
         go_roundw
         case rel=>exact⟨pos+m,pos+k,pos+k,n,a++[jv x n],rfl,rfl,by go_num,zg,JM.out⟩
         case measure=>
          have h5:w4.iterPos w.heap.size=pos+m:=by simp[World.iterPos,JM.out.iter]
          rw[h5,hpi];omega
       · cases h1
  · have hnx:=fun ty=>Lib.run_next_end_at (P:=Tryz.prog) wr w.heap.size s pos ty hit hp;have HR:=hid (amV HS.out hp);clear hit HS;go_wp2_with fail;go_ret3
    exact abF HR.out rfl sF.out.own sF.out.below
end Lx
namespace Lx
open Nu
open Go.RowKit
def fin (R:dm):List Tk:=iR R.a R.n++[⟨0,mt,0,(R.n:Int)⟩]
def gz (l:List UInt8):List Tk:=if 20000<l.length then [] else if (dH l [] 1).bad=true then [] else fin (dH l [] 1)
def mY (l:List UInt8):Nat:=if 20000<l.length then 0 else if (dH l [] 1).bad=true then (dH l [] 1).n else 0
def gy (l:List UInt8):Int:=if 20000<l.length then 6 else if (dH l [] 1).bad=true then 8 else 0
theorem MW {l:List UInt8} (h:20000<l.length):gz l=[]/\mY l=0/\gy l=6:=by unfold gz mY gy;rw[if_pos h,if_pos h,if_pos h];exact⟨rfl,rfl,rfl⟩
theorem MV {l:List UInt8} (h:¬20000<l.length) (g:(dH l [] 1).bad=true):gz l=[]/\mY l=(dH l [] 1).n/\gy l=8:=by unfold gz mY gy;rw[if_neg h,if_neg h,if_neg h,if_pos g,if_pos g,if_pos g];exact⟨rfl,rfl,rfl⟩
theorem Fx {l:List UInt8} (h:¬20000<l.length) (g:(dH l [] 1).bad=false):gz l=fin (dH l [] 1)/\mY l=0/\gy l=0:=by unfold gz mY gy;rw[if_neg h,if_neg h,if_neg h,if_neg (by simp[g]),if_neg (by simp[g]),if_neg (by simp[g])];exact⟨rfl,rfl,rfl⟩
def Av (w:ai) (l:List Tk) (n:Nat) (x:Int) (e:Ending) (w':ai):Prop:=∃v,e=.returned (.tuple #[v,.int .i64 (n:Int),.int .i64 x])/\Own w.heap.size w' v l/\Below w.heap.size w w'
theorem Tz {w w':ai} {l l2:List Tk} {n n2:Nat} {x x2:Int} {e:Ending} {v:Value} (h:l=l2/\n=n2/\x=x2) (he:e=.returned (.tuple #[v,.int .i64 (n2:Int),.int .i64 x2])) (ho:Own w.heap.size w' v l2) (hb:Below w.heap.size w w'):Av w l n x e w':=by
 obtain⟨rfl,rfl,rfl⟩:=h;exact⟨v,he,ho,hb⟩
theorem CJ:∀(k:Nat) (l:List UInt8) (a:List Tk) (n:Nat),l.length<=k->(dH l a n).a.length<=a.length+l.length/\(dH l a n).n<=n+l.length
 | 0,l,a,n,h=>by
  have:l=[]:=List.length_eq_zero_iff.1 bT;subst this;rw[LU];exact⟨af _,af _⟩
 | k+1,[],a,n,h=>by rw[LU];exact⟨by simp,by simp⟩
 | k+1,c::t,a,n,h=>by
  have ht:t.length<=k:=by simpa using h
  rw[CG,ae]
  split
  · have:=CJ k t a n ht;omega
  · split
    · rename_i h2
      have h3:=Bl (p:=kg) (c:=c) (t:=t) (by rw[h2];exact Hu);have h4:=CJ k ((c::t).drop (dF kg (c::t))) a n (by rw[List.length_drop,ae];omega);rw[List.length_drop,ae] at h4;omega
    · split
      · have:=CJ k t (iR a n) (n+1) ht;have:=GZ a n;omega
      · cases h4:fQ (c::t) with
        | none=>exact⟨by show a.length<=_;omega,by show n<=_;omega⟩
        | some y=>
         obtain⟨x,m⟩:=y;have h5:=EI h4;rw[ae] at h5;have h6:=CJ k ((c::t).drop m) (a++[jv x n]) n (by rw[List.length_drop,ae];omega);rw[List.length_drop,ae,ag] at h6;simp only[ae,List.length_nil] at h6;exact⟨by show(dH ((c::t).drop m) _ _).a.length<=_;omega,by show(dH ((c::t).drop m) _ _).n<=_;omega⟩
theorem Fy (s:ByteArray) (w:ai) (hs:s.size<=9223372036854775807) (hE:Env w):Calls Tryz.prog 37 #[.string s] w (Av w (gz (bs s)) (mY (bs s)) (gy (bs s))):=by
 by_cases h:20000<s.size
 · have HV:=hid (MW (l:=bs s) Gb);have c1:decide ((20000:Int)<(s.size:Int))=true:=decide_eq_true bT;clear hE;go_enter Tryz.func37,Tryz.ntmps37;go_wp2_with fail;go_ret3
   exact Tz HV.out rfl (World.ownsRow_nil _ _ _ _) (aj _ _)
 · have c1:decide ((20000:Int)<(s.size:Int))=false:=decide_eq_false bT;have I1:=amS s w bT hE;have hlen:=CJ _ (bs s) [] 1 (af _);rw[fJ] at hlen
   cases hb:(dH (bs s) [] 1).bad with
   | true=>
    have HV:=hid (MV (l:=bs s) Gb hb)
    generalize dH (bs s) [] 1=R at *
    clear hE;go_enter Tryz.func37,Tryz.ntmps37;go_wp2_with fail;refine I1.mono ?_;rintro e w1 ⟨v,rfl,ho,hb1⟩;rw[hb];clear ho;go_wp2_with fail;go_ret3
    exact Tz HV.out rfl (World.ownsRow_nil _ _ _ _) hb1
   | false=>
    have HV:=Fx (l:=bs s) Gb hb
    generalize dH (bs s) [] 1=R at *
    obtain⟨A,n,bad⟩:=R;have hb:bad=false:=hb;subst hb;have hn:n<=20001:=by have:n<=_:=hlen.2;omega
    have hA:A.length<=20000:=by have:A.length<=_:=hlen.1;simp at this;omega
    have HV':=hid HV;have HA:=hid hA;have HN:=hid hn;clear HV hlen hE hA hn;go_enter Tryz.func37,Tryz.ntmps37;go_wp2_with fail;refine I1.mono ?_;rintro e w1 ⟨v,rfl,ho,hb1⟩;have I2:=XY n w1 ho hb1.size (by have:A.length<=20000:=HA.out;show A.length<=1000000;omega);go_wp2_with fail;refine I2.mono ?_;rintro e w2 ⟨v2,rfl,ho2,hg2⟩;have hb2:=below_grown hb1 hb1.size ho hg2;have hB:Below w2.heap.size w2 (w2.alloc (.cells #[.int .i64 0,.string ⟨#[]⟩,.int .i64 0,.int .i64 (n:Int)] 125)):=iJ (aj _ _);obtain⟨v3,w3,hrun,ho3,hg3⟩:=OJ (own_below ho2 hB) cK (zP (w:=w2) (x:=⟨0,mt,0,(n:Int)⟩) (t:=125)) (by have:=HA.out;have:=GZ A n;omega) (by have:=hB.size;have:=hb2.size;omega);have hb3:=below_grown hb2 hb2.size ho2 (Lf hg3);have HO:Hid (Own w.heap.size w3 v3 (fin ⟨A,n,false⟩)/\Below w.heap.size w w3):=hid ⟨ho3,hb3⟩;clear ho ho2 ho3 hg2 hg3 hb2 hb3 hB hb1;go_wp2_with (at_builtin;refine Lib.wpList_append_run _ rfl _ _ _ _ rfl _ _ rfl rfl _ _ hrun ?_)
    go_ret3
    exact Tz HV'.out rfl HO.out.1 HO.out.2
end Lx
namespace Lx
open Nu
structure BQ (M:Nat) (a:List Tk) (n:Nat):Prop where
 pos:1<=n
 opn:¬(jD a a.length).k=4->(jD a a.length).l=n/\0<a.length
 shut:(jD a a.length).k=4->(jD a a.length).l<n
 each:∀k,k<a.length->yt (decide (k=0)) (jD a k) (a.getD k ⟨4,mt,0,0⟩) false=0
 size:∀x∈a,x.t.size<=M
theorem O8 {a:List Tk} {x:Tk} {k:Nat} (h:k<=a.length):jD (a++[x]) k=jD a k:=by
 unfold jD;by_cases e:k=0
 · rw[if_pos e,if_pos e]
 · rw[if_neg e,if_neg e];simp only[List.getD];rw[List.getElem?_append_left bT]
theorem BX {a:List Tk} {x:Tk}:jD (a++[x]) (a++[x]).length=x:=by
 rw[ag,ae,List.length_nil,J5 cK];simp
theorem QH {a:List Tk} {x:Tk} {k:Nat} (h:k<a.length):(a++[x]).getD k ⟨4,mt,0,0⟩=a.getD k ⟨4,mt,0,0⟩:=by
 simp only[List.getD];rw[List.getElem?_append_left h]
theorem QG {a:List Tk} {x:Tk}:(a++[x]).getD a.length ⟨4,mt,0,0⟩=x:=by simp[List.getD]
theorem Me {a:List Tk}:opn a=decide (¬(jD a a.length).k=4):=by
 rcases List.eq_nil_or_concat a with rfl|⟨m,x,rfl⟩
 · rfl
 · rw[List.concat_eq_append,RP,BX]
theorem agm {x b:Tk} {first:Bool} (h1:1<=x.k) (h3:x.k<=3) (hf:jH x=true) (hl:tK first b.k b.l x.k x.l=true):yt first b x false=0:=by
 have hp:vF b.k x.k false=true:=by
  unfold vF;rw[if_neg bT,if_neg bT]
 unfold yt;rw[if_neg bT,hf,hl,hp];rfl
theorem akL {M:Nat} {a:List Tk} {n:Nat} {x:Tk} (h:BQ M a n) (h1:1<=x.k) (h3:x.k<=3) (hf:jH x=true) (hl:x.l=n) (hs:x.t.size<=M):BQ M (a++[x]) n:=by
 refine⟨h.pos,fun _=>?_,fun g=>?_,fun k hk=>?_,fun y hy=>?_⟩
 · rw[BX];exact⟨hl,by simp⟩
 · rw[BX] at g;omega
 · rw[ag,ae,List.length_nil] at hk;rw[O8 bT];rcases Nat.lt_or_ge k a.length with g|g
   · rw[QH g];exact h.each k g
   · obtain rfl:k=a.length:=by omega
     rw[QG];refine agm h1 h3 hf ?_;have hp:=h.pos;unfold tK;by_cases e:a.length=0
     · rw[decide_eq_true e,if_pos rfl,hl];exact decide_eq_true bT
     · rw[decide_eq_false e,if_neg bR];by_cases e4:(jD a a.length).k=4
       · rw[if_neg (by simp[e4]),if_neg bT,hl];exact decide_eq_true (h.shut e4)
       · rw[if_pos e4,hl];exact decide_eq_true (h.opn e4).1.symm
 · rcases List.mem_append.1 hy with hy|hy
   · exact h.size y hy
   · rw[List.mem_singleton] at hy;rw[hy];exact hs
theorem aaM {M:Nat} {a:List Tk} {n:Nat} (h:BQ M a n):BQ M (iR a n) (n+1):=by
 have hp:=h.pos;by_cases e4:(jD a a.length).k=4
 · have e:iR a n=a:=by unfold iR;rw[Me,if_neg (by simp[e4])]
   rw[e];refine⟨by omega,fun g=>absurd e4 g,fun g=>?_,h.each,h.size⟩;have:=h.shut g;omega
 · have e:iR a n=a++[⟨4,mt,0,(n:Int)⟩]:=by unfold iR;rw[Me,if_pos (by simp[e4])]
   rw[e];have h0:=h.opn e4;refine⟨by omega,fun g=>?_,fun g=>?_,fun k hk=>?_,fun y hy=>?_⟩
   · rw[BX] at g;exact absurd rfl g
   · rw[BX];show(n:Int)<_;omega
   · rw[ag,ae,List.length_nil] at hk;rw[O8 bT];rcases Nat.lt_or_ge k a.length with g|g
     · rw[QH g];exact h.each k g
     · obtain rfl:k=a.length:=by omega
       rw[QG,decide_eq_false bT];have e1:jH ⟨4,mt,0,(n:Int)⟩=true:=by unfold jH;simp[mt];rfl
       have e2:vF (jD a a.length).k 4 false=true:=by unfold vF;simp[e4]
       have e3:tK false (jD a a.length).k (jD a a.length).l 4 (n:Int)=true:=by
        unfold tK;rw[if_neg bR,if_pos e4];exact decide_eq_true h0.1.symm
       unfold yt;rw[e1,e2,e3,if_neg (show ¬((4:Int)<0∨(4:Int)<4) by decide)];rfl
   · rcases List.mem_append.1 hy with hy|hy
     · exact h.size y hy
     · rw[List.mem_singleton] at hy;rw[hy];show(0:Nat)<=M;omega
theorem ais {l:List UInt8} {x:Tk} {k:Nat} (h:fQ l=some (x,k)):1<=x.k/\x.k<=3/\jH x=true/\x.t.size<=l.length:=by
 unfold fQ at h;by_cases h1:dF gN l=0
 · rw[if_pos h1] at h;by_cases h2:dF iA l=0
   · rw[if_pos h2] at h;by_cases h3:2<=l.length/\dG (l.take 2)=true
     · rw[if_pos h3] at h;cases h;refine⟨by show(1:Int)<=3;decide,by show(3:Int)<=3;decide,?_,?_⟩
       · unfold jH;rw[if_neg (show ¬(3:Int)=1 by decide),if_neg (show ¬(3:Int)=2 by decide),if_pos rfl]
         show(dG (bs (mkS (l.take 2)))&&_)=true
         rw[wC,h3.2];rfl
       · show(mkS (l.take 2)).size<=_
         rw[← fJ,wC,List.length_take];omega
     · rw[if_neg h3] at h;by_cases h4:dG (l.take 1)=true
       · rw[if_pos h4] at h;cases h;refine⟨by show(1:Int)<=3;decide,by show(3:Int)<=3;decide,?_,?_⟩
         · unfold jH;rw[if_neg (show ¬(3:Int)=1 by decide),if_neg (show ¬(3:Int)=2 by decide),if_pos rfl]
           show(dG (bs (mkS (l.take 1)))&&_)=true
           rw[wC,h4];rfl
         · show(mkS (l.take 1)).size<=_
           rw[← fJ,wC,List.length_take];omega
       · rw[if_neg h4] at h;cases h
   · rw[if_neg h2] at h
     split at h
     · rename_i v hv
       cases h
       have:=C_.1 hv;refine⟨by show(1:Int)<=2;decide,by show(2:Int)<=3;decide,?_,by show(0:Nat)<=_;omega⟩;unfold jH;rw[if_neg (show ¬(2:Int)=1 by decide),if_pos rfl]
       show(decide ((0:Nat)=0)&&(decide (0<=v)&&decide (v<=1000000000000)))=true
       rw[decide_eq_true this.1,decide_eq_true this.2.1];rfl
     · cases h
 · rw[if_neg h1] at h;cases h
   have hw:dF kX l<=l.length:=z8 _ _;refine⟨by show(1:Int)<=1;decide,by show(1:Int)<=3;decide,?_,?_⟩
   · unfold jH;rw[if_pos rfl]
     show(iC (bs (mkS (l.take (dF kX l))))&&_)=true
     rw[wC,ach.2 ⟨?_,?_⟩]
     · rfl
     · rw[SQ];obtain⟨c,t,rfl,hc⟩:=SS h1;have:=Bl (p:=kX) (c:=c) (t:=t) (TQ hc);omega
     · rw[SQ,List.length_take];omega
   · show(mkS (l.take (dF kX l))).size<=_
     rw[← fJ,wC,List.length_take];omega
theorem Np {p:Prop} (h:p:=by rw[List.length_drop,ae];omega):p:=h
theorem IB {M:Nat}:∀(k:Nat) (l:List UInt8) (a:List Tk) (n:Nat),l.length<=k->l.length<=M->BQ M a n->BQ M (dH l a n).a (dH l a n).n
 | 0,l,a,n,h,_,ho=>by
  have:l=[]:=List.length_eq_zero_iff.1 bT;subst this;rw[LU];exact ho
 | k+1,[],a,n,h,_,ho=>by rw[LU];exact ho
 | k+1,c::t,a,n,h,hM,ho=>by
  have ht:t.length<=k:=by simpa using h
  rw[ae] at hM;rw[CG]
  split
  · exact IB k t a n ht bT ho
  · split
    · rename_i h2
      have h3:=Bl (p:=kg) (c:=c) (t:=t) (by rw[h2];exact Hu);exact IB k _ a n Np Np ho
    · split
      · exact IB k t _ _ ht bT (aaM ho)
      · cases h4:fQ (c::t) with
        | none=>exact ho
        | some y=>
         obtain⟨x,m⟩:=y;have h5:=EI h4;obtain⟨f1,f2,f3,f4⟩:=ais h4;rw[ae] at h5 f4;exact IB k _ _ n Np Np (akL ho f1 f2 (by unfold jv;exact f3) rfl (by show x.t.size<=M;omega))
theorem akK {M:Nat} {R:dm} (h:BQ M R.a R.n):kF (fin R)=0/\∀x∈fin R,x.t.size<=M:=by
 have hE:=aaM h;unfold fin;obtain⟨b,hb⟩:∃b,iR R.a R.n=b:=⟨_,rfl⟩
 have e4:(jD b b.length).k=4:=by
  rw[← hb];by_cases e:(jD R.a R.a.length).k=4
  · have e2:iR R.a R.n=R.a:=by unfold iR;rw[Me,if_neg (by simp[e])]
    rw[e2];exact e
  · have e2:iR R.a R.n=R.a++[⟨4,mt,0,(R.n:Int)⟩]:=by unfold iR;rw[Me,if_pos (by simp[e])]
    rw[e2,BX]
 rw[hb] at hE ⊢;have hsh:=hE.shut e4;have hp:=h.pos;refine⟨?_,fun x hx=>?_⟩
 · have hall:yI (Cf (b++[(⟨0,mt,0,(R.n:Int)⟩:Tk)])) (b++[(⟨0,mt,0,(R.n:Int)⟩:Tk)]).length=0:=by
    rw[RU];intro k hk;rw[ag,ae,List.length_nil] at hk;unfold Cf;rw[O8 bT,ag,ae,List.length_nil];rcases Nat.lt_or_ge k b.length with g|g
    · rw[QH g,decide_eq_false (by omega:¬k+1=b.length+(0+1))];exact hE.each k g
    · obtain rfl:k=b.length:=by omega
      rw[QG,decide_eq_true (by omega:b.length+1=b.length+(0+1))];have e1:jH ⟨0,mt,0,(R.n:Int)⟩=true:=by unfold jH;simp[mt];rfl
      have e2:vF (jD b b.length).k 0 true=true:=by unfold vF;rw[e4];rfl
      have e3:tK (decide (b.length=0)) (jD b b.length).k (jD b b.length).l 0 (R.n:Int)=true:=by
       unfold tK;by_cases e:b.length=0
       · rw[decide_eq_true e,if_pos rfl];exact decide_eq_true bT
       · rw[decide_eq_false e,if_neg bR,if_neg (by simp[e4]),if_pos rfl];exact decide_eq_true bT
      unfold yt;rw[e1,e2,e3,if_neg (show ¬((0:Int)<0∨(4:Int)<0) by decide)];rfl
   unfold kF;rw[if_pos hall,BX,if_pos rfl]
 · rcases List.mem_append.1 hx with hx|hx
   · exact hE.size x hx
   · rw[List.mem_singleton] at hx;rw[hx];show(0:Nat)<=M;omega
theorem ab9 {l:List UInt8} (h:gy l=0):kF (gz l)=0/\∀x∈gz l,x.t.size<=l.length:=by
 have hl:¬20000<l.length:=fun g=>by rw[(MW g).2.2] at h;cases h
 have hb:(dH l [] 1).bad=false:=by
  cases e:(dH l [] 1).bad with
  | false=>rfl
  | true=>rw[(MV hl e).2.2] at h;cases h
 rw[(Fx hl hb).1];exact akK (IB l.length l [] 1 (af _) (af _) ⟨af _,fun g=>absurd rfl g,fun _=>by show(0:Int)<_;decide,fun k hk=>absurd hk (Nat.not_lt_zero _),fun x hx=>by cases hx⟩)
end Lx
namespace Lx
open Nu
open Go.RowKit
inductive Ahead (l:List UInt8) (N:Nat):Prop where
 | word (h0:0<N) (hw:iC (l.take N)=true) (hd:Hw (l.take N)=false) (hf:fQ l=some (⟨1,mkS (l.take N),0,0⟩,N))
 | num (v:Int) (h0:0<N) (hw:iC (l.take N)=false) (hd:Hw (l.take N)=true) (hn:qX (l.take N)=some v) (hf:fQ l=some (⟨2,mt,v,0⟩,N))
 | bad (h0:0<N) (hw:iC (l.take N)=false) (hd:Hw (l.take N)=true) (hn:qX (l.take N)=none) (hf:fQ l=none)
 | sign (h0:0<N) (hw:iC (l.take N)=false) (hd:Hw (l.take N)=false) (hf:fQ l=some (⟨3,mkS (l.take N),0,0⟩,N))
 | none (h0:N=0) (hw:iC (l.take N)=false) (hd:Hw (l.take N)=false) (hf:fQ l=none)
structure RAt (s:ByteArray) (R:dm) (q n:Nat) (a:List Tk):Prop where
 hq:q<=s.size
 rest:dH ((bs s).drop q) a n=R
 len:a.length<=q
 line:n<=q+1
structure RW (w:ai) (v:Value) (a:List Tk) (wr:ai):Prop where
 own:Own w.heap.size wr v a
 below:Below w.heap.size w wr
end Lx
namespace Lx
open Nu
theorem akj {t:ByteArray} (h:t.size=0):t=mt:=jl (List.length_eq_zero_iff.1 Gb)
theorem abG {c:UInt8} {t:List UInt8} (h:¬Aa c):dG (c::t)=false:=by
 have hc:c=32∨c=9∨c=35∨c=10:=by
  unfold Aa at h;by_cases h1:c=32
  · exact .inl h1
  by_cases h2:c=9
  · exact .inr (.inl h2)
  by_cases h3:c=35
  · exact .inr (.inr (.inl h3))
  by_cases h4:c=10
  · exact .inr (.inr (.inr h4))
  exact absurd ⟨fun g=>g.elim h1 h2,h3,h4⟩ h
 unfold dG Bg;simp only[List.contains_eq_mem,decide_eq_false_iff_not,List.mem_cons,List.cons.injEq,List.not_mem_nil,or_false];rcases hc with rfl|rfl|rfl|rfl <;> simp
theorem YD {c:UInt8} {t:List UInt8} {x:Tk} {k:Nat} (h:fQ (c::t)=some (x,k)):Aa c:=by
 refine Classical.byContradiction fun g=>?_;have h1:dG ((c::t).take 1)=false:=abG g;have h2:dG ((c::t).take 2)=false:=abG g;have hc:gN c=false/\iA c=false:=by
  have hc:c=32∨c=9∨c=35∨c=10:=by
   unfold Aa at g;by_cases h1:c=32
   · exact .inl h1
   by_cases h2:c=9
   · exact .inr (.inl h2)
   by_cases h3:c=35
   · exact .inr (.inr (.inl h3))
   by_cases h4:c=10
   · exact .inr (.inr (.inr h4))
   exact absurd ⟨fun g=>g.elim h1 h2,h3,h4⟩ g
  rcases hc with rfl|rfl|rfl|rfl <;> decide
 unfold fQ at h;rw[if_pos (qA hc.1),if_pos (qA hc.2),h1,h2,if_neg cK,if_neg cK] at h;cases h
theorem ana {l:List UInt8} (h:dG l=true):xD l=l.length:=by
 have h1:=Ls h;unfold xD;by_cases e:l.length=2
 · rw[if_pos ⟨by omega,by rw[List.take_of_length_le bT];exact h⟩,e]
 · rw[if_neg bT,List.take_of_length_le bT,if_pos h];omega
theorem aix {x:Tk} (h1:1<=x.k) (h3:x.k<=3) (hf:jH x=true):bs (Jf x) ≠ []/\fQ (bs (Jf x))=some (⟨x.k,x.t,x.n,0⟩,(bs (Jf x)).length):=by
 obtain⟨K,T,N,L⟩:=x;simp only at h1 h3;unfold jH at hf;unfold Jf;simp only at hf ⊢;by_cases e1:K=1
 · subst e1;rw[if_pos rfl] at hf;simp only[ah,decide_eq_true_eq] at hf;obtain⟨hw,rfl⟩:=hf;rw[if_neg bR];obtain⟨g1,g2⟩:=ach.1 hw;have hne:bs T ≠ []:=fun e=>by rw[e] at g1;exact g1 rfl
   refine⟨hne,?_⟩;have hp:0<(bs T).length:=by
    rcases Nat.eq_zero_or_pos (bs T).length with e|e
    · exact absurd (List.length_eq_zero_iff.1 e) hne
    · exact e
   rw[YE (k:=(bs T).length) (by unfold rq;rw[if_neg g1,g2]) hp,List.take_length,RB]
 · rw[if_neg e1] at hf;by_cases e2:K=2
   · subst e2;rw[if_pos rfl] at hf ⊢;simp only[ah,decide_eq_true_eq] at hf;obtain⟨ht,hn0,hn1⟩:=hf;rw[akj ht,show bs (num N)=Lib.itoa N from rfl];have hO:=C_.2 ⟨hn0,hn1,rfl⟩;have hA:=Rc hn0;have hne:=Re hn0;refine⟨hne,?_⟩;obtain⟨l,hlq⟩:∃l,Lib.itoa N=l:=⟨_,rfl⟩
     rw[hlq] at hO hA hne ⊢
     cases l with
     | nil=>exact absurd rfl hne
     | cons c t=>
      have hc:iA c=true:=by rw[List.all_cons,ah] at hA;exact hA.1
      have hn:=GM hc;have QY:gN c=false:=by
       unfold gN iT;rw[decide_eq_false bT,Bool.false_and]
      have hS:dF iA (c::t)=(c::t).length:=SN fun j hj=>List.all_eq_true.1 hA _ (List.getElem_mem hj);refine YB ?_ hS cK (by rw[List.take_length];exact hO);unfold rq;rw[if_pos (qA QY)]
   · obtain rfl:K=3:=by omega
     rw[if_neg bR,if_pos rfl] at hf;simp only[ah,decide_eq_true_eq] at hf;obtain⟨hw,rfl⟩:=hf;rw[if_neg bR];have hl:=Ls hw;obtain⟨s1,s2⟩:=abJ hw;refine⟨fun e=>by rw[e] at hl;simp at hl,?_⟩;rw[YC (k:=(bs T).length) (by unfold rq;rw[if_pos s1]) s2 (ana hw),if_neg bT,List.take_length,RB]
end Lx
namespace Ps
open Lx (bs)
open Ex (Ex)
inductive W where
 | nil
 | wd (s:ByteArray)
 | ln
 | cat (a b:W)
 | xF (n:Nat) (k:Nat->W)
structure Gen where
 nx:Nat->Nat
 pk:Nat->Nat->Nat
 lt:∀n s,0<n->pk n s<n
def blk (k:Nat):List UInt8:=if k=0 then [32] else if k=1 then [32] else if k=2 then [32,32] else [9]
def Rt (k:Nat):List UInt8:=if k=0 then [10] else if k=1 then [10] else if k=2 then [32,35,32,105,102,32,40,10] else if k=3 then [10,10] else [10,9,35,32,101,110,100,10]
def txt (G:Gen):W->Nat->List UInt8×Nat
 | .nil,s=>([],s)
 | .wd x,s=>(bs x++blk (G.pk 4 (G.nx s)),G.nx s)
 | .ln,s=>(Rt (G.pk 5 (G.nx s)),G.nx s)
 | .cat a b,s=>((txt G a s).1++(txt G b (txt G a s).2).1,(txt G b (txt G a s).2).2)
 | .xF n k,s=>txt G (k (G.pk n (G.nx s))) (G.nx s)
def qj:List W->W
 | []=>.nil
 | x::r=>.cat x (qj r)
def wds (l:List ByteArray):W:=qj (l.map .wd)
def Nb (n:Int):W:=if n<0 then .cat (.wd mK) (.wd (Nu.num (-n))) else .wd (Nu.num n)
def par (x:W):W:=.cat (.wd fU) (.cat x (.wd jN))
def iE (e:W):W:=.cat (.wd fU) (.cat (.xF 4 fun k=>if k=0 then par e else e) (.wd jN))
def sgO (o:Int):ByteArray:=if o=9 then DZ else if o=10 then mK else if o=11 then Ak else if o=12 then F7 else if o=13 then F6 else if o=14 then uf else if o=15 then DY else if o=16 then DX else if o=17 then DW else if o=18 then zI else zJ
def PK (o:Int):ByteArray:=if o=7 then Lv else if o=8 then LH else if o=20 then LD else if o=21 then LC else if o=22 then LA else if o=23 then LG else LJ
def tfW (n:Int):ByteArray:=if n=0 then vC else sU
def acf (o:Int) (a b:W):W:=qj [iE a,.wd (sgO o),iE b]
def Jc (o:Int) (s:ByteArray) (n:Int) (ks:List W):W:=
 if o=1 then (if n<0 then par (Nb n) else Nb n)
 else if o=2 then .wd (tfW n)
 else if o=4 then .wd H6
 else if o=3 then .wd s
 else if o=5 then .cat (.wd mK) (iE (ks.headD .nil))
 else if o=6 then .cat (.wd kU) (iE (ks.headD .nil))
 else if o=7∨o=8 then .cat (.wd (PK o)) (par (ks.headD .nil))
 else if o=20∨o=21 then qj [.wd (PK o),.wd fU,ks.headD .nil,.wd ry,ks.tail.headD .nil,.wd jN]
 else if 22<=o then wds [PK o,fU,s,jN]
 else if o=16∨o=17 then .xF 2 fun k=>if k=0 then qj [iE (ks.tail.headD .nil),.wd (if o=16 then DV else DU),iE (ks.headD .nil)] else acf o (ks.headD .nil) (ks.tail.headD .nil)
 else acf o (ks.headD .nil) (ks.tail.headD .nil)
mutual
def eZ:Ex->W
 | .mk o s n l=>Jc o s n (acg l)
def acg:List Ex->List W
 | []=>[]
 | x::r=>eZ x::acg r
end
end Ps
namespace Ps
open Lx (Tk gz mY gy)
def yL {α:Type} (z:α) (m:P α) (c:α->Int) (s:List UInt8):α×Int×Int:=
 if gy s=0 then (match run m (gz s) with
  | .ok x _=>if c x=0 then (x,0,0) else (z,0,c x)
  | .no u=>(z,(hd u).l,9))
 else (z,mY s,gy s)
section
variable {α:Type} {z:α} {m:P α} {c:α->Int} {s:List UInt8}
theorem aa7 (h:¬gy s=0):yL z m c s=(z,(mY s:Int),gy s):=by unfold yL;rw[if_neg h]
theorem aa8 {u:List Tk} (h:gy s=0) (hr:run m (gz s)=.no u):yL z m c s=(z,(hd u).l,9):=by unfold yL;rw[if_pos h,hr]
theorem aa6 {x:α} {u:List Tk} (h:gy s=0) (hr:run m (gz s)=.ok x u) (hc:¬c x=0):yL z m c s=(z,0,c x):=by unfold yL;rw[if_pos h,hr];simp only[if_neg hc]
theorem aa9 {x:α} {u:List Tk} (h:gy s=0) (hr:run m (gz s)=.ok x u) (hc:c x=0):yL z m c s=(x,0,0):=by unfold yL;rw[if_pos h,hr];simp only[if_pos hc]
end
end Ps
end Go.Proofs.YtkpekhpgdajabaaGreatDoor
