/-
  Parts of this proof: The contract of scan. The contract of Tokens. What is read from a text is a valid list of toke. The contract of the reference's Tokens. What stands behind a text.
-/
import Derived.Test.YtbgodajefaahdaaGreatDoorZLxBase
import Derived.WalkMore
set_option linter.unusedVariables false
open Go.Lib (hid)
namespace Go.Proofs.YtbgodajefaahdaaGreatDoor.Lx
open Go.Proofs.YtbgodajefaahdaaGreatDoor.Nu
open Go.RowKit
set_option maxHeartbeats 4000000
theorem dig_low {c:UInt8} (h:digC c=true):c.toNat<128:=by have:=dig_nat h;omega
theorem wrd_low {c:UInt8} (h:wrdC c=true):c.toNat<128:=by
 unfold wrdC wrdI ltrI digI at h;simp only[Bool.or_eq_true,Bool.and_eq_true,decide_eq_true_eq] at h;omega
theorem sg_low {l:List UInt8} (h:isSg l=true):∀c∈l,c.toNat<128:=by
 unfold isSg sgl at h;simp only[List.contains_eq_mem,List.mem_cons,List.not_mem_nil,or_false,decide_eq_true_eq] at h;rcases h with rfl|rfl|rfl|rfl|rfl|rfl|rfl|rfl|rfl|rfl|rfl|rfl|rfl|rfl|rfl|rfl <;> decide
theorem inl_no {c:UInt8} (h:inlC c=false):c.toNat=10:=by
 unfold inlC inlI at h;by_cases h7:((c.toNat:Nat):Int)=10
 · omega
 · rw[decide_eq_false h7] at h;cases h
theorem fst_low {l:List UInt8} {x:Tk} {k:Nat} (h:fstO l=some (x,k)):∀c∈l.take k,c.toNat<128:=by
 unfold fstO at h;by_cases h1:spn ltrC l=0
 · rw[if_pos h1] at h;by_cases h2:spn digC l=0
   · rw[if_pos h2] at h;by_cases h3:2<=l.length/\isSg (l.take 2)=true
     · rw[if_pos h3] at h;cases h;exact sg_low h3.2
     · rw[if_neg h3] at h;by_cases h4:isSg (l.take 1)=true
       · rw[if_pos h4] at h;cases h;exact sg_low h4
       · rw[if_neg h4] at h;cases h
   · rw[if_neg h2] at h
     split at h
     · cases h;exact fun c hc=>dig_low (spn_take c hc)
     · cases h
 · rw[if_neg h1] at h;cases h
   exact fun c hc=>wrd_low (spn_take c hc)
def Skip (s:ByteArray) (pos bh:Nat):Prop:=∀p,pos<=p->p<bh->p<s.size->p+(Utf8.decode s p).2<=bh
theorem skip_ascii {s:ByteArray} {pos bh:Nat} (h:∀p,pos<=p->p<bh->(g:p<s.size)->(s[p]'g).toNat<128):Skip s pos bh:=by
 intro p h1 h2 g;rw[decode_ascii s p g (h p h1 h2 g)];exact h2
theorem zDA_1 {p:Prop} (h:p:=by omega):p:=h
theorem skip_note {s:ByteArray} {pos bh:Nat} (hb:bh<=s.size) (h:(g:bh<s.size)->(s[bh]'g).toNat<128):Skip s pos bh:=by
 intro p h1 h2 g;obtain⟨m1,m2,m3⟩:=dec_more s p g;rcases Nat.lt_or_ge bh (p+(Utf8.decode s p).2) with h3|h3
 · exfalso
   have hlt:bh<s.size:=by omega
   obtain⟨j,rfl⟩:∃j,bh=p+j:=⟨bh-p,by omega⟩
   have:=m3 j zDA_1 zDA_1 hlt;have:=h hlt;omega
 · exact h3
structure ScanAt (s:ByteArray) (R:Res) (pos bh q n:Nat) (a:List Tk):Prop where
 hpos:pos<=s.size
 hbh:bh<=s.size
 hq:(bh<=pos/\q=pos)∨(pos<bh/\q=bh)
 skip:Skip s pos bh
 rest:lexL ((bs s).drop q) a n=R
 len:a.length<=q
 line:n<=q+1
theorem scan_start (s:ByteArray):ScanAt s (lexL (bs s) [] 1) 0 0 0 1 []:=⟨Nat.zero_le _,Nat.zero_le _,.inl ⟨Nat.le_refl _,rfl⟩,fun p _ h=>absurd h (Nat.not_lt_zero _),by rw[List.drop_zero],Nat.le_refl _,Nat.le_refl _⟩
theorem ScanAt.q_le {s:ByteArray} {R:Res} {pos bh q n:Nat} {a:List Tk} (h:ScanAt s R pos bh q n a):q<=s.size:=by have:=h.hq;have:=h.hpos;have:=h.hbh;omega
theorem scan_end {s:ByteArray} {R:Res} {pos bh q n:Nat} {a:List Tk} (h:ScanAt s R pos bh q n a) (hp:¬pos<s.size):R=⟨a,n,false⟩:=by
 have h1:=h.hq;have h2:=h.hbh;have hq:s.size<=q:=by omega
 rw[← h.rest,List.drop_eq_nil_of_le (by rw[bs_len];exact hq)];rfl
theorem scan_skip {s:ByteArray} {R:Res} {pos bh q n:Nat} {a:List Tk} (h:ScanAt s R pos bh q n a) (hp:pos<s.size) (hb:pos<bh):ScanAt s R (pos+(Utf8.decode s pos).2) bh q n a:=by
 obtain⟨m1,m2,-⟩:=dec_more s pos hp;have hs:=h.skip pos (Nat.le_refl _) hb hp;have hq:=h.hq;exact⟨m2,h.hbh,by omega,fun p h1 h2=>h.skip p zDA_1 h2,h.rest,h.len,h.line⟩
theorem drop_at {s:ByteArray} {pos:Nat} (hp:pos<s.size):(bs s).drop pos=s[pos]::(bs s).drop (pos+1):=by
 rw[List.drop_eq_getElem_cons (by rw[bs_len];exact hp)];rfl
theorem rune_low {s:ByteArray} {pos r:Nat} (hp:pos<s.size) (hr:(Utf8.decode s pos).1=r) (h:r<128):s[pos].toNat=r/\(Utf8.decode s pos).2=1:=by
 by_cases ha:(s[pos]'hp).toNat<128
 · rw[decode_ascii s pos hp ha] at hr ⊢; exact⟨hr,rfl⟩
 · have:=(decode_high s pos hp zDA_1).1;omega
theorem u8_eq {c:UInt8} {n:Nat} (h:c.toNat=n) (hn:n<256):c=UInt8.ofNat n:=by
 apply UInt8.toNat_inj.1
 rw[UInt8.toNat_ofNat',h];omega
theorem scan_blank {s:ByteArray} {R:Res} {pos bh q n:Nat} {a:List Tk} (h:ScanAt s R pos bh q n a) (hp:pos<s.size) (hb:¬pos<bh) {r:Nat} (hr:(Utf8.decode s pos).1=r) (h2:r=32∨r=9):ScanAt s R (pos+(Utf8.decode s pos).2) bh (pos+1) n a:=by
 obtain⟨e1,e2⟩:=rune_low hp hr zDA_1;have hq:=h.hq;obtain rfl:q=pos:=by omega
 rw[e2];refine⟨by omega,h.hbh,.inl ⟨by omega,rfl⟩,fun p g1 g2=>by omega,?_,by have:=h.len;omega,by have:=h.line;omega⟩;rw[← h.rest,drop_at hp,lex_blank];rcases h2 with rfl|rfl
 · exact .inl (u8_eq e1 (by decide))
 · exact .inr (u8_eq e1 (by decide))
theorem scan_note {s:ByteArray} {R:Res} {pos bh q n:Nat} {a:List Tk} (h:ScanAt s R pos bh q n a) (hp:pos<s.size) (hb:¬pos<bh) (hr:(Utf8.decode s pos).1=35):ScanAt s R (pos+(Utf8.decode s pos).2) (pos+spn inlC ((bs s).drop pos)) (pos+spn inlC ((bs s).drop pos)) n a:=by
 obtain⟨e1,e2⟩:=rune_low hp hr zDA_1;have hq:=h.hq;obtain rfl:q=pos:=by omega
 have ec:s[q]=35:=u8_eq e1 (by decide);have hd:=drop_at hp;rw[ec] at hd;have h1:=spn_one (p:=inlC) (t:=(bs s).drop (q+1)) inl_35;rw[← hd] at h1;have h3:=spn_le inlC ((bs s).drop q);rw[List.length_drop,bs_len] at h3;rw[e2];refine⟨by omega,by omega,?_,?_,?_,by have:=h.len;omega,by have:=h.line;omega⟩
 · by_cases g:spn inlC ((bs s).drop q)=1
   · rw[g];exact .inl ⟨Nat.le_refl _,rfl⟩
   · exact .inr ⟨by omega,rfl⟩
 · refine skip_note zDA_1 fun g=>?_;have h4:=spn_at (p:=inlC) (l:=(bs s).drop q) (by rw[List.length_drop,bs_len];omega);rw[List.getElem_drop] at h4;have h5:inlC (s[q+spn inlC ((bs s).drop q)]'g)=false:=h4;have h6:=inl_no h5;omega
 · rw[← h.rest];have h5:lexL ((bs s).drop q) a n=lexL (((bs s).drop q).drop (spn inlC ((bs s).drop q))) a n:=by rw[hd];exact lex_note
   rw[h5,List.drop_drop]
theorem scan_line {s:ByteArray} {R:Res} {pos bh q n:Nat} {a:List Tk} (h:ScanAt s R pos bh q n a) (hp:pos<s.size) (hb:¬pos<bh) (hr:(Utf8.decode s pos).1=10):ScanAt s R (pos+(Utf8.decode s pos).2) bh (pos+1) (n+1) (endL a n):=by
 obtain⟨e1,e2⟩:=rune_low hp hr zDA_1;have hq:=h.hq;obtain rfl:q=pos:=by omega
 have ec:s[q]=10:=u8_eq e1 (by decide);rw[e2];refine⟨by omega,h.hbh,.inl ⟨by omega,rfl⟩,fun p g1 g2=>by omega,?_,by have:=h.len;have:=endL_len a n;omega,by have:=h.line;omega⟩;rw[← h.rest,drop_at hp,ec,lex_line]
theorem tok_at {s:ByteArray} {pos r:Nat} (hp:pos<s.size) (hr:(Utf8.decode s pos).1=r) (h1:¬r=32) (h2:¬r=9) (h3:¬r=35) (h4:¬r=10):tokC s[pos]:=by
 have key:∀m:Nat,m<128->s[pos]=UInt8.ofNat m->r=m:=by
  intro m hm e;have e1:s[pos].toNat=m:=by rw[e,UInt8.toNat_ofNat'];omega
  rw[decode_ascii s pos hp zDA_1] at hr;rw[← hr];exact e1
 exact⟨fun g=>g.elim (fun e=>h1 (key 32 zDA_1 e)) (fun e=>h2 (key 9 zDA_1 e)),fun e=>h3 (key 35 zDA_1 e),fun e=>h4 (key 10 zDA_1 e)⟩
theorem scan_tok {s:ByteArray} {R:Res} {pos bh q n:Nat} {a:List Tk} (h:ScanAt s R pos bh q n a) (hp:pos<s.size) (hb:¬pos<bh) (ht:tokC s[pos]) {x:Tk} {k:Nat} (e:fstO ((bs s).drop pos)=some (x,k)):pos+k<=s.size/\ScanAt s R (pos+(Utf8.decode s pos).2) (pos+k) (pos+k) n (a++[setL x n]):=by
 have hq:=h.hq;obtain rfl:q=pos:=by omega
 obtain⟨k1,k2⟩:=fst_size e;have hlow:=fst_low e;rw[List.length_drop,bs_len] at k2;have hl2:∀p,q<=p->p<q+k->(g:p<s.size)->(s[p]'g).toNat<128:=by
  intro p g1 g2 g;refine hlow _ ?_;have:(s[p]'g)=((bs s).drop q)[p-q]'(by rw[List.length_drop,bs_len];omega):=by
   rw[List.getElem_drop];have e3:q+(p-q)=p:=by omega
   simp only[e3];rfl
  rw[this];rw[List.mem_take_iff_getElem];exact⟨p-q,by rw[List.length_drop,bs_len];omega,rfl⟩
 have hd:=drop_at hp;have e2:(Utf8.decode s q).2=1:=by rw[decode_ascii s q hp (hl2 q (Nat.le_refl _) zDA_1 hp)]
 rw[e2];refine⟨by omega,by omega,by omega,?_,skip_ascii fun p g1 g2 g=>hl2 p zDA_1 g2 g,?_,by rw[List.length_append];have:=h.len;simp;omega,by have:=h.line;omega⟩
 · by_cases g:k=1
   · subst g;exact .inl ⟨Nat.le_refl _,rfl⟩
   · exact .inr ⟨by omega,rfl⟩
 · rw[← h.rest];rw[hd] at e ⊢;rw[lex_tok ht e,← hd,List.drop_drop]
theorem scan_bad {s:ByteArray} {R:Res} {pos bh q n:Nat} {a:List Tk} (h:ScanAt s R pos bh q n a) (hp:pos<s.size) (hb:¬pos<bh) (ht:tokC s[pos]) (e:fstO ((bs s).drop pos)=none):R=⟨a,n,true⟩:=by
 have hq:=h.hq;obtain rfl:q=pos:=by omega
 rw[← h.rest];rw[drop_at hp] at e ⊢;exact lex_bad ht e
theorem own_iter {lo:Nat} {w:World} {v:Value} {l:List Tk} {k:Nat} {s:ByteArray} {pos:Nat} (ho:Own lo w v l) (hk:w.heap[k]?=some (.stringIter s pos)) (pos':Nat):Own lo (w.iterAt k s pos') v l:=by
 refine World.ownsRow.kept ho (row:=some k) ⟨rfl,rfl,rfl,by rw[Lib.iterAt_size];exact Nat.le_refl _,fun j _ hj=>Lib.iterAt_other w k j s pos' (fun e=>hj (by rw[e]))⟩ ?_;rcases ho.2 with⟨rfl,h0⟩|⟨g,cap,cur,rfl,hgg,hcur,-⟩
 · exact .inl rfl
 · refine .inr fun e=>?_;simp[Value.ownBlock] at e
   subst e;rw[hk] at hcur;cases hcur
def Scanned (w:World) (R:Res) (e:Ending) (w':World):Prop:=∃v,e=.returned (.tuple #[v,.int .i64 (R.n:Int),.bool R.bad])/\Own w.heap.size w' v R.a/\Below w.heap.size w w'
theorem scanned {w w':World} {R:Res} {a:List Tk} {n:Nat} {b:Bool} {v:Value} {e:Ending} (h:R=⟨a,n,b⟩) (he:e=.returned (.tuple #[v,.int .i64 (n:Int),.bool b])) (ho:Own w.heap.size w' v a) (hb:Below w.heap.size w w'):Scanned w R e w':=by
 subst h;exact⟨v,he,ho,hb⟩
structure ScanW (w:World) (s:ByteArray) (pos:Nat) (v:Value) (a:List Tk) (wr:World):Prop where
 own:Own w.heap.size wr v a
 iter:wr.heap[w.heap.size]?=some (.stringIter s pos)
 below:Below w.heap.size w wr
theorem ScanW.next {w wr:World} {s:ByteArray} {pos:Nat} {v:Value} {a:List Tk} (h:ScanW w s pos v a wr) (pos':Nat):ScanW w s pos' v a (wr.iterAt w.heap.size s pos'):=
 ⟨own_iter h.own h.iter pos',Lib.iterAt_heap wr _ s pos pos' h.iter,Lib.below_iterAt h.below (Nat.le_refl _) s pos'⟩
theorem ScanW.call {w wr w2:World} {s:ByteArray} {pos:Nat} {v:Value} {a:List Tk} (h:ScanW w s pos v a wr) (hb:Below wr.heap.size wr w2):ScanW w s pos v a w2:=
 ⟨own_below h.own hb,(hb.block _ (Array.getElem?_eq_some_iff.1 h.iter).1).trans h.iter,bl_call h.below hb⟩
theorem ScanW.grew {w wr w2:World} {s:ByteArray} {pos:Nat} {v v2:Value} {a a2:List Tk} (h:ScanW w s pos v a wr) (ho:Own w.heap.size w2 v2 a2) (hg:wr.grownBy w2 v.ownBlock):ScanW w s pos v2 a2 w2:=
 ⟨ho,kept_iter h.own hg h.iter,below_grown h.below h.below.size h.own hg⟩
theorem ScanW.start (w:World) (s:ByteArray):ScanW w s 0 (.slice none 0 0) [] (w.iter s 0):=⟨World.ownsRow_nil _ _ _ _,World.iter_heap w s 0,bl_alloc (Below.refl _ _)⟩
theorem zDA_0 {p:Prop} (h:p:=by
 go_wp2_with fail;go_roundw
 case rel=>exact⟨pos+m,b,pos+1,n,a,rfl,rfl,rfl,HS3,HX.out⟩
 case measure=>
  have h5:w2.iterPos w.heap.size=pos+m:=by simp[World.iterPos,HX.out.iter]
  rw[h5,hpi];omega
 ):p:=h
set_option maxRecDepth 100000 in
theorem scan_any (s:ByteArray) (w:World) (hs:s.size<=20000) (hE:Env w):Calls Tryz.prog 55 #[.string s] w (Scanned w (lexL (bs s) [] 1)):=by
 have hs':(s.size:Int)<=20000:=by omega
 have HS0:=hid (scan_start s);obtain⟨R,hR⟩:∃R,lexL (bs s) [] 1=R:=⟨_,rfl⟩
 rw[hR] at HS0;rw[hR];clear hR;have HEE:Hid (Env w):=hid hE;clear hE;go_enter Tryz.func55,Tryz.ntmps55;go_wp2_with fail
 go_step3
 go_wp2_with fail
 go_step3
 go_wp2_with fail;go_loopw [5,6,7,8] (fun v ln wg bh wr=>∃pos b q n:Nat,∃a:List Tk,ln=.int .i64 (n:Nat)/\wg=.bool false/\bh=.int .i64 (b:Nat)/\Hid (ScanAt s R pos b q n a)/\ScanW w s pos v a wr) (fun v ln wg bh wr=>s.size-wr.iterPos w.heap.size)
 case atStart=>exact⟨0,0,0,1,[],rfl,rfl,rfl,HS0,ScanW.start w s⟩
 case round=>
  obtain⟨pos,b,q,n,a,rfl,rfl,rfl,HS,HW⟩:=hrel;have HWW:=hid HW;have hit:=HW.iter;clear HW;by_cases hp:pos<s.size
  · have hnx:=fun ty=>Lib.run_next_any_at (P:=Tryz.prog) wr w.heap.size s pos ty hit hp;have HW2:=HWW.out.next (pos+(Utf8.decode s pos).2)
    obtain⟨r,hr⟩:∃r,(Utf8.decode s pos).1=r:=⟨_,rfl⟩
    obtain⟨m,hm⟩:∃m,(Utf8.decode s pos).2=m:=⟨_,rfl⟩
    obtain⟨m1,m2,-⟩:=dec_more s pos hp;rw[hm] at m1 m2 HW2;simp only[hr,hm] at hnx;obtain⟨w2,hw2⟩:∃w2,wr.iterAt w.heap.size s (pos+m)=w2:=⟨_,rfl⟩
    rw[hw2] at HW2;simp only[hw2] at hnx;have HX:=hid HW2;have hpi:wr.iterPos w.heap.size=pos:=by simp[World.iterPos,hit]
    clear HW2 hw2;by_cases hb:pos<b
    · have c1:decide ((pos:Int)<(b:Int))=true:=decide_eq_true zDA_1;have c2:(pos:Int)<(b:Int):=by omega
      have HS2:=scan_skip HS.out hp hb;rw[hm] at HS2;have HS3:=hid HS2;clear HS2 HS hr hm HWW hit;go_wp2_with fail;go_roundw
      case rel=>exact⟨pos+m,b,q,n,a,rfl,rfl,rfl,HS3,HX.out⟩
      case measure=>
       have h5:w2.iterPos w.heap.size=pos+m:=by simp[World.iterPos,HX.out.iter]
       rw[h5,hpi];omega
    · have c1:decide ((pos:Int)<(b:Int))=false:=decide_eq_false zDA_1;have p0:(0:Int)<=(pos:Int):=by omega
      have p1:(pos:Int)<=(s.size:Int):=by omega
      have hTs:(s.extract pos s.size).size<=20000:=by rw[ByteArray.size_extract];omega
      have hTb:bs (s.extract pos s.size)=(bs s).drop pos:=by rw[tail_mk,bs_mk]
      have p2:(pos:Int)<=20000:=by omega
      by_cases r1:r=32∨r=9
      · have HS2:=scan_blank HS.out hp hb hr r1;rw[hm] at HS2;have HS3:=hid HS2;have q32:((r:Int)==32)=true∨(((r:Int)==32)=false/\((r:Int)==9)=true):=by
         rcases r1 with rfl|rfl
         · exact .inl (by decide)
         · exact .inr ⟨by decide,by decide⟩
        clear HS2 HS hr hm HWW hit hTs hTb r1;rcases q32 with q32|⟨q32,q9⟩
        · exact zDA_0
        · exact zDA_0
      have q32:((r:Int)==32)=false:=by rw[beq_eq_false_iff_ne];omega
      have q9:((r:Int)==9)=false:=by rw[beq_eq_false_iff_ne];omega
      by_cases r2:r=35
      · have HS2:=scan_note HS.out hp hb (hr.trans r2);rw[hm,← hTb] at HS2;have q35:((r:Int)==35)=true:=by rw[r2];decide
        have I1:=span_inl (s.extract pos s.size) w2 zDA_1;have hK:=spn_le inlC (bs (s.extract pos s.size));rw[bs_len] at hK;obtain⟨K,eK⟩:∃K,spn inlC (bs (s.extract pos s.size))=K:=⟨_,rfl⟩
        rw[eK] at I1 HS2 hK;have k0:(0:Int)<=(K:Int):=by omega
        have k1:(K:Int)<=20000:=by omega
        have HS3:=hid HS2;clear HS2 HS hr hm HWW hit hTs hTb r1 r2 eK hK;go_wp2_with fail;refine I1.mono ?_;rintro e w3 ⟨rfl,hb3⟩;have HX2:=hid (HX.out.call hb3);go_wp2_with fail;go_roundw
        case rel=>exact⟨pos+m,pos+K,pos+K,n,a,rfl,rfl,by go_num,HS3,HX2.out⟩
        case measure=>
         have h5:w3.iterPos w.heap.size=pos+m:=by simp[World.iterPos,HX2.out.iter]
         rw[h5,hpi];omega
      have q35:((r:Int)==35)=false:=by rw[beq_eq_false_iff_ne];omega
      have hal:a.length<=20000/\n<=20001:=by have:=HS.out.len;have:=HS.out.line;have:=HS.out.q_le;omega
      have n0:(0:Int)<=(n:Int):=by omega
      have n1:(n:Int)<=20001:=by omega
      by_cases r3:r=10
      · have HS2:=scan_line HS.out hp hb (hr.trans r3);rw[hm] at HS2;have q10:((r:Int)==10)=true:=by rw[r3];decide
        have HS3:=hid HS2;have I1:=endline_any n w2 HX.out.own HX.out.below.size zDA_1;clear HS2 HS hr hm HWW hit hTs hTb r1 r2 r3;go_wp2_with fail;refine I1.mono ?_;rintro e w3 ⟨v3,rfl,ho3,hg3⟩;have HX2:=hid (HX.out.grew ho3 hg3);clear ho3 hg3;go_wp2_with fail;go_roundw
        case rel=>exact⟨pos+m,b,pos+1,n+1,endL a n,by go_num,rfl,rfl,HS3,HX2.out⟩
        case measure=>
         have h5:w3.iterPos w.heap.size=pos+m:=by simp[World.iterPos,HX2.out.iter]
         rw[h5,hpi];omega
      have q10:((r:Int)==10)=false:=by rw[beq_eq_false_iff_ne];omega
      have ht:=tok_at hp hr (fun e=>r1 (.inl e)) (fun e=>r1 (.inr e)) r2 r3;have I1:=first_any (s.extract pos s.size) w2 zDA_1 (HEE.out.below HX.out.below);rw[hTb] at I1
      cases hf:fstO ((bs s).drop pos) with
      | none=>
       have HR:=hid (scan_bad HS.out hp hb ht hf);rw[hf] at I1;clear HS hr hm HWW hit hTs hTb r1 r2 r3 ht hf hal;go_wp2_with fail;refine I1.mono ?_;rintro e w3 ⟨x,k,rfl,hb3,⟨h1,h2⟩|⟨-,rfl⟩⟩
       · cases h1
       have HX2:=hid (HX.out.call hb3);go_wp2_with fail;go_ret3
       exact scanned HR.out rfl (own_below HX2.out.own (by(repeat (first|(with_reducible exact Below.refl _ _)|(with_reducible assumption)|(with_reducible apply bl_alloc)|(with_reducible apply bl_drewN)|(with_reducible apply bl_drew)|(with_reducible refine bl_set ?_ (by first|(simp;done)|(simp;omega)) _)|(with_reducible refine bl_call ?_ (by assumption)))))) (by have:=HX2.out.below;(repeat (first|(with_reducible exact Below.refl _ _)|(with_reducible assumption)|(with_reducible apply bl_alloc)|(with_reducible apply bl_drewN)|(with_reducible apply bl_drew)|(with_reducible refine bl_set ?_ (by first|(simp;done)|(simp;omega)) _)|(with_reducible refine bl_call ?_ (by assumption)))))
      | some y=>
       obtain⟨x,k⟩:=y;obtain⟨hk2,HS2⟩:=scan_tok HS.out hp hb ht hf;rw[hm] at HS2;have HS3:=hid HS2;rw[hf] at I1;obtain⟨hk1,-⟩:=fst_size hf;clear HS2 HS hr hm HWW hit hTs hTb r1 r2 r3 ht hf;go_wp2_with fail;refine I1.mono ?_;rintro e w3 ⟨x',k',rfl,hb3,⟨h1,h2⟩|⟨h1,-⟩⟩
       · simp only[Option.some.injEq,Prod.mk.injEq] at h1;obtain⟨rfl,rfl⟩:=h1;have kz:((k:Int)==0)=false:=by rw[beq_eq_false_iff_ne];omega
         have k0:(0:Int)<=(k:Int):=by omega
         have k1:(pos:Int)+(k:Int)<=20000:=by omega
         have HX2:=hid (HX.out.call hb3);have hB:Below w3.heap.size w3 ((w3.alloc (.cells #[.int .i64 x.k,.string x.t,.int .i64 x.n,.int .i64 (n:Int)] 135)).alloc (.cells #[.int .i64 x.k,.string x.t,.int .i64 x.n,.int .i64 (n:Int)] 135)):=bl_alloc (bl_alloc (Below.refl _ _));have hn4:=new4 (w:=w3.alloc (.cells #[.int .i64 x.k,.string x.t,.int .i64 x.n,.int .i64 (n:Int)] 135)) (x:=setL x n) (t:=135);rw[show(w3.alloc (.cells #[.int .i64 x.k,.string x.t,.int .i64 x.n,.int .i64 (n:Int)] 135)).heap.size=w3.heap.size+1 by simp] at hn4;obtain⟨v4,w4,hrun,ho4,hg4⟩:=append_tok (own_below HX2.out.own hB) (by simp) hn4 zDA_1 (by have:=hB.size;have:=HX2.out.below.size;omega);have HX3:=hid (HX2.out.grew ho4 (grown_alloc (grown_alloc hg4)));clear hB hn4 ho4 hg4;go_wp2_with (at_builtin;refine Lib.wpList_append_run _ rfl _ _ _ _ rfl _ _ rfl rfl _ _ hrun ?_)
         go_roundw
         case rel=>exact⟨pos+m,pos+k,pos+k,n,a++[setL x n],rfl,rfl,by go_num,HS3,HX3.out⟩
         case measure=>
          have h5:w4.iterPos w.heap.size=pos+m:=by simp[World.iterPos,HX3.out.iter]
          rw[h5,hpi];omega
       · cases h1
  · have hnx:=fun ty=>Lib.run_next_end_at (P:=Tryz.prog) wr w.heap.size s pos ty hit hp;have HR:=hid (scan_end HS.out hp);clear hit HS;go_wp2_with fail;go_ret3
    exact scanned HR.out rfl HWW.out.own HWW.out.below
end Go.Proofs.YtbgodajefaahdaaGreatDoor.Lx
namespace Go.Proofs.YtbgodajefaahdaaGreatDoor.Lx
open Go.Proofs.YtbgodajefaahdaaGreatDoor.Nu
open Go.RowKit
set_option maxHeartbeats 2000000
def fin (R:Res):List Tk:=endL R.a R.n++[⟨0,mt,0,(R.n:Int)⟩]
def tokL (l:List UInt8):List Tk:=if 20000<l.length then [] else if (lexL l [] 1).bad=true then [] else fin (lexL l [] 1)
def tokN (l:List UInt8):Nat:=if 20000<l.length then 0 else if (lexL l [] 1).bad=true then (lexL l [] 1).n else 0
def tokE (l:List UInt8):Int:=if 20000<l.length then 6 else if (lexL l [] 1).bad=true then 8 else 0
theorem tok_long {l:List UInt8} (h:20000<l.length):tokL l=[]/\tokN l=0/\tokE l=6:=by unfold tokL tokN tokE;rw[if_pos h,if_pos h,if_pos h];exact⟨rfl,rfl,rfl⟩
theorem tok_bad {l:List UInt8} (h:¬20000<l.length) (g:(lexL l [] 1).bad=true):tokL l=[]/\tokN l=(lexL l [] 1).n/\tokE l=8:=by unfold tokL tokN tokE;rw[if_neg h,if_neg h,if_neg h,if_pos g,if_pos g,if_pos g];exact⟨rfl,rfl,rfl⟩
theorem tok_good {l:List UInt8} (h:¬20000<l.length) (g:(lexL l [] 1).bad=false):tokL l=fin (lexL l [] 1)/\tokN l=0/\tokE l=0:=by unfold tokL tokN tokE;rw[if_neg h,if_neg h,if_neg h,if_neg (by simp[g]),if_neg (by simp[g]),if_neg (by simp[g])];exact⟨rfl,rfl,rfl⟩
def Tokd (w:World) (l:List Tk) (n:Nat) (x:Int) (e:Ending) (w':World):Prop:=∃v,e=.returned (.tuple #[v,.int .i64 (n:Int),.int .i64 x])/\Own w.heap.size w' v l/\Below w.heap.size w w'
theorem tokd {w w':World} {l l2:List Tk} {n n2:Nat} {x x2:Int} {e:Ending} {v:Value} (h:l=l2/\n=n2/\x=x2) (he:e=.returned (.tuple #[v,.int .i64 (n2:Int),.int .i64 x2])) (ho:Own w.heap.size w' v l2) (hb:Below w.heap.size w w'):Tokd w l n x e w':=by
 obtain⟨rfl,rfl,rfl⟩:=h;exact⟨v,he,ho,hb⟩
theorem lex_len:∀(k:Nat) (l:List UInt8) (a:List Tk) (n:Nat),l.length<=k->(lexL l a n).a.length<=a.length+l.length/\(lexL l a n).n<=n+l.length
 | 0,l,a,n,h=>by
  have:l=[]:=List.length_eq_zero_iff.1 (by omega);subst this;rw[lexL_nil];exact⟨Nat.le_refl _,Nat.le_refl _⟩
 | k+1,[],a,n,h=>by rw[lexL_nil];exact⟨by simp,by simp⟩
 | k+1,c::t,a,n,h=>by
  have ht:t.length<=k:=by simpa using h
  rw[lexL_cons,List.length_cons]
  split
  · have:=lex_len k t a n ht;omega
  · split
    · rename_i h2
      have h3:=spn_one (p:=inlC) (c:=c) (t:=t) (by rw[h2];exact inl_35);have h4:=lex_len k ((c::t).drop (spn inlC (c::t))) a n (by rw[List.length_drop,List.length_cons];omega);rw[List.length_drop,List.length_cons] at h4;omega
    · split
      · have:=lex_len k t (endL a n) (n+1) ht;have:=endL_len a n;omega
      · cases h4:fstO (c::t) with
        | none=>exact⟨by show a.length<=_;omega,by show n<=_;omega⟩
        | some y=>
         obtain⟨x,m⟩:=y;have h5:=fst_size h4;rw[List.length_cons] at h5;have h6:=lex_len k ((c::t).drop m) (a++[setL x n]) n (by rw[List.length_drop,List.length_cons];omega);rw[List.length_drop,List.length_cons,List.length_append] at h6;simp only[List.length_cons,List.length_nil] at h6;exact⟨by show(lexL ((c::t).drop m) _ _).a.length<=_;omega,by show(lexL ((c::t).drop m) _ _).n<=_;omega⟩
set_option maxRecDepth 100000 in
theorem tokens_any (s:ByteArray) (w:World) (hs:s.size<=9223372036854775807) (hE:Env w):Calls Tryz.prog 27 #[.string s] w (Tokd w (tokL (bs s)) (tokN (bs s)) (tokE (bs s))):=by
 by_cases h:20000<s.size
 · have HV:=hid (tok_long (l:=bs s) (by rw[bs_len];exact h));have c1:decide ((20000:Int)<(s.size:Int))=true:=decide_eq_true (by omega);clear hE;go_enter Tryz.func27,Tryz.ntmps27;go_wp2_with fail;go_ret3
   exact tokd HV.out rfl (World.ownsRow_nil _ _ _ _) (Below.refl _ _)
 · have c1:decide ((20000:Int)<(s.size:Int))=false:=decide_eq_false (by omega);have I1:=scan_any s w (by omega) hE;have hlen:=lex_len _ (bs s) [] 1 (Nat.le_refl _);rw[bs_len] at hlen
   cases hb:(lexL (bs s) [] 1).bad with
   | true=>
    have HV:=hid (tok_bad (l:=bs s) (by rw[bs_len];exact h) hb)
    generalize lexL (bs s) [] 1=R at *
    clear hE;go_enter Tryz.func27,Tryz.ntmps27;go_wp2_with fail;refine I1.mono ?_;rintro e w1 ⟨v,rfl,ho,hb1⟩;rw[hb];clear ho;go_wp2_with fail;go_ret3
    exact tokd HV.out rfl (World.ownsRow_nil _ _ _ _) hb1
   | false=>
    have HV:=tok_good (l:=bs s) (by rw[bs_len];exact h) hb
    generalize lexL (bs s) [] 1=R at *
    obtain⟨A,n,bad⟩:=R;have hb:bad=false:=hb;subst hb;have hn:n<=20001:=by have:n<=_:=hlen.2;omega
    have hA:A.length<=20000:=by have:A.length<=_:=hlen.1;simp at this;omega
    have HV':=hid HV;have HA:=hid hA;have HN:=hid hn;clear HV hlen hE hA hn;go_enter Tryz.func27,Tryz.ntmps27;go_wp2_with fail;refine I1.mono ?_;rintro e w1 ⟨v,rfl,ho,hb1⟩;have I2:=endline_any n w1 ho hb1.size (by have:A.length<=20000:=HA.out;show A.length<=1000000;omega);go_wp2_with fail;refine I2.mono ?_;rintro e w2 ⟨v2,rfl,ho2,hg2⟩;have hb2:=below_grown hb1 hb1.size ho hg2;have hB:Below w2.heap.size w2 (w2.alloc (.cells #[.int .i64 0,.string ⟨#[]⟩,.int .i64 0,.int .i64 (n:Int)] 135)):=bl_alloc (Below.refl _ _);obtain⟨v3,w3,hrun,ho3,hg3⟩:=append_tok (own_below ho2 hB) (by simp) (new4 (w:=w2) (x:=⟨0,mt,0,(n:Int)⟩) (t:=135)) (by have:=HA.out;have:=endL_len A n;omega) (by have:=hB.size;have:=hb2.size;omega);have hb3:=below_grown hb2 hb2.size ho2 (grown_alloc hg3);have HO:Hid (Own w.heap.size w3 v3 (fin ⟨A,n,false⟩)/\Below w.heap.size w w3):=hid ⟨ho3,hb3⟩;clear ho ho2 ho3 hg2 hg3 hb2 hb3 hB hb1;go_wp2_with (at_builtin;refine Lib.wpList_append_run _ rfl _ _ _ _ rfl _ _ rfl rfl _ _ hrun ?_)
    go_ret3
    exact tokd HV'.out rfl HO.out.1 HO.out.2
end Go.Proofs.YtbgodajefaahdaaGreatDoor.Lx
namespace Go.Proofs.YtbgodajefaahdaaGreatDoor.Lx
open Go.Proofs.YtbgodajefaahdaaGreatDoor.Nu
set_option maxHeartbeats 1000000
structure Okd (M:Nat) (a:List Tk) (n:Nat):Prop where
 pos:1<=n
 opn:¬(bef a a.length).k=4->(bef a a.length).l=n/\0<a.length
 shut:(bef a a.length).k=4->(bef a a.length).l<n
 each:∀k,k<a.length->chkA (decide (k=0)) (bef a k) (a.getD k ⟨4,mt,0,0⟩) false=0
 size:∀x∈a,x.t.size<=M
theorem bef_snoc_lt {a:List Tk} {x:Tk} {k:Nat} (h:k<=a.length):bef (a++[x]) k=bef a k:=by
 unfold bef;by_cases e:k=0
 · rw[if_pos e,if_pos e]
 · rw[if_neg e,if_neg e];simp only[List.getD];rw[List.getElem?_append_left (by omega)]
theorem bef_snoc {a:List Tk} {x:Tk}:bef (a++[x]) (a++[x]).length=x:=by
 rw[List.length_append,List.length_cons,List.length_nil,bef_succ (by simp)];simp
theorem getD_snoc_lt {a:List Tk} {x:Tk} {k:Nat} (h:k<a.length):(a++[x]).getD k ⟨4,mt,0,0⟩=a.getD k ⟨4,mt,0,0⟩:=by
 simp only[List.getD];rw[List.getElem?_append_left h]
theorem getD_snoc {a:List Tk} {x:Tk}:(a++[x]).getD a.length ⟨4,mt,0,0⟩=x:=by simp[List.getD]
theorem opn_bef {a:List Tk}:opn a=decide (¬(bef a a.length).k=4):=by
 rcases List.eq_nil_or_concat a with rfl|⟨m,x,rfl⟩
 · rfl
 · rw[List.concat_eq_append,opn_snoc,bef_snoc]
theorem chkA_word {x b:Tk} {first:Bool} (h1:1<=x.k) (h3:x.k<=3) (hf:fmB x=true) (hl:orB first b.k b.l x.k x.l=true):chkA first b x false=0:=by
 have hp:plB b.k x.k false=true:=by
  unfold plB;rw[if_neg (by omega),if_neg (by omega)]
 unfold chkA;rw[if_neg (by omega),hf,hl,hp];rfl
theorem okd_word {M:Nat} {a:List Tk} {n:Nat} {x:Tk} (h:Okd M a n) (h1:1<=x.k) (h3:x.k<=3) (hf:fmB x=true) (hl:x.l=n) (hs:x.t.size<=M):Okd M (a++[x]) n:=by
 refine⟨h.pos,fun _=>?_,fun g=>?_,fun k hk=>?_,fun y hy=>?_⟩
 · rw[bef_snoc];exact⟨hl,by simp⟩
 · rw[bef_snoc] at g;omega
 · rw[List.length_append,List.length_cons,List.length_nil] at hk;rw[bef_snoc_lt (by omega)];rcases Nat.lt_or_ge k a.length with g|g
   · rw[getD_snoc_lt g];exact h.each k g
   · obtain rfl:k=a.length:=by omega
     rw[getD_snoc];refine chkA_word h1 h3 hf ?_;have hp:=h.pos;unfold orB;by_cases e:a.length=0
     · rw[decide_eq_true e,if_pos rfl,hl];exact decide_eq_true (by omega)
     · rw[decide_eq_false e,if_neg (by decide)];by_cases e4:(bef a a.length).k=4
       · rw[if_neg (by simp[e4]),if_neg (by omega),hl];exact decide_eq_true (h.shut e4)
       · rw[if_pos e4,hl];exact decide_eq_true (h.opn e4).1.symm
 · rcases List.mem_append.1 hy with hy|hy
   · exact h.size y hy
   · rw[List.mem_singleton] at hy;rw[hy];exact hs
theorem okd_end {M:Nat} {a:List Tk} {n:Nat} (h:Okd M a n):Okd M (endL a n) (n+1):=by
 have hp:=h.pos;by_cases e4:(bef a a.length).k=4
 · have e:endL a n=a:=by unfold endL;rw[opn_bef,if_neg (by simp[e4])]
   rw[e];refine⟨by omega,fun g=>absurd e4 g,fun g=>?_,h.each,h.size⟩;have:=h.shut g;omega
 · have e:endL a n=a++[⟨4,mt,0,(n:Int)⟩]:=by unfold endL;rw[opn_bef,if_pos (by simp[e4])]
   rw[e];have h0:=h.opn e4;refine⟨by omega,fun g=>?_,fun g=>?_,fun k hk=>?_,fun y hy=>?_⟩
   · rw[bef_snoc] at g;exact absurd rfl g
   · rw[bef_snoc];show(n:Int)<_;omega
   · rw[List.length_append,List.length_cons,List.length_nil] at hk;rw[bef_snoc_lt (by omega)];rcases Nat.lt_or_ge k a.length with g|g
     · rw[getD_snoc_lt g];exact h.each k g
     · obtain rfl:k=a.length:=by omega
       rw[getD_snoc,decide_eq_false (by omega)];have e1:fmB ⟨4,mt,0,(n:Int)⟩=true:=by unfold fmB;simp[mt];rfl
       have e2:plB (bef a a.length).k 4 false=true:=by unfold plB;simp[e4]
       have e3:orB false (bef a a.length).k (bef a a.length).l 4 (n:Int)=true:=by
        unfold orB;rw[if_neg (by decide),if_pos e4];exact decide_eq_true h0.1.symm
       unfold chkA;rw[e1,e2,e3,if_neg (show ¬((4:Int)<0∨(4:Int)<4) by decide)];rfl
   · rcases List.mem_append.1 hy with hy|hy
     · exact h.size y hy
     · rw[List.mem_singleton] at hy;rw[hy];show(0:Nat)<=M;omega
theorem fst_form {l:List UInt8} {x:Tk} {k:Nat} (h:fstO l=some (x,k)):1<=x.k/\x.k<=3/\fmB x=true/\x.t.size<=l.length:=by
 unfold fstO at h;by_cases h1:spn ltrC l=0
 · rw[if_pos h1] at h;by_cases h2:spn digC l=0
   · rw[if_pos h2] at h;by_cases h3:2<=l.length/\isSg (l.take 2)=true
     · rw[if_pos h3] at h;cases h;refine⟨by show(1:Int)<=3;decide,by show(3:Int)<=3;decide,?_,?_⟩
       · unfold fmB;rw[if_neg (show ¬(3:Int)=1 by decide),if_neg (show ¬(3:Int)=2 by decide),if_pos rfl]
         show(isSg (bs (mkS (l.take 2)))&&_)=true
         rw[bs_mk,h3.2];rfl
       · show(mkS (l.take 2)).size<=_
         rw[← bs_len,bs_mk,List.length_take];omega
     · rw[if_neg h3] at h;by_cases h4:isSg (l.take 1)=true
       · rw[if_pos h4] at h;cases h;refine⟨by show(1:Int)<=3;decide,by show(3:Int)<=3;decide,?_,?_⟩
         · unfold fmB;rw[if_neg (show ¬(3:Int)=1 by decide),if_neg (show ¬(3:Int)=2 by decide),if_pos rfl]
           show(isSg (bs (mkS (l.take 1)))&&_)=true
           rw[bs_mk,h4];rfl
         · show(mkS (l.take 1)).size<=_
           rw[← bs_len,bs_mk,List.length_take];omega
       · rw[if_neg h4] at h;cases h
   · rw[if_neg h2] at h
     split at h
     · rename_i v hv
       cases h
       have:=numO_some.1 hv;refine⟨by show(1:Int)<=2;decide,by show(2:Int)<=3;decide,?_,by show(0:Nat)<=_;omega⟩;unfold fmB;rw[if_neg (show ¬(2:Int)=1 by decide),if_pos rfl]
       show(decide ((0:Nat)=0)&&(decide (0<=v)&&decide (v<=1000000000000)))=true
       rw[decide_eq_true this.1,decide_eq_true this.2.1];rfl
     · cases h
 · rw[if_neg h1] at h;cases h
   have hw:spn wrdC l<=l.length:=spn_le _ _;refine⟨by show(1:Int)<=1;decide,by show(1:Int)<=3;decide,?_,?_⟩
   · unfold fmB;rw[if_pos rfl]
     show(isWd (bs (mkS (l.take (spn wrdC l))))&&_)=true
     rw[bs_mk,wd_iff.2 ⟨?_,?_⟩]
     · rfl
     · rw[spn_cut];obtain⟨c,t,rfl,hc⟩:=spn_pos h1;have:=spn_one (p:=wrdC) (c:=c) (t:=t) (wrd_ltr hc);omega
     · rw[spn_cut,List.length_take];omega
   · show(mkS (l.take (spn wrdC l))).size<=_
     rw[← bs_len,bs_mk,List.length_take];omega
theorem zDE_0 {p:Prop} (h:p:=by rw[List.length_drop,List.length_cons];omega):p:=h
theorem okd_lex {M:Nat}:∀(k:Nat) (l:List UInt8) (a:List Tk) (n:Nat),l.length<=k->l.length<=M->Okd M a n->Okd M (lexL l a n).a (lexL l a n).n
 | 0,l,a,n,h,_,ho=>by
  have:l=[]:=List.length_eq_zero_iff.1 (by omega);subst this;rw[lexL_nil];exact ho
 | k+1,[],a,n,h,_,ho=>by rw[lexL_nil];exact ho
 | k+1,c::t,a,n,h,hM,ho=>by
  have ht:t.length<=k:=by simpa using h
  rw[List.length_cons] at hM;rw[lexL_cons]
  split
  · exact okd_lex k t a n ht (by omega) ho
  · split
    · rename_i h2
      have h3:=spn_one (p:=inlC) (c:=c) (t:=t) (by rw[h2];exact inl_35);exact okd_lex k _ a n zDE_0 zDE_0 ho
    · split
      · exact okd_lex k t _ _ ht (by omega) (okd_end ho)
      · cases h4:fstO (c::t) with
        | none=>exact ho
        | some y=>
         obtain⟨x,m⟩:=y;have h5:=fst_size h4;obtain⟨f1,f2,f3,f4⟩:=fst_form h4;rw[List.length_cons] at h5 f4;exact okd_lex k _ _ n zDE_0 zDE_0 (okd_word ho f1 f2 (by unfold setL;exact f3) rfl (by show x.t.size<=M;omega))
theorem okd_fin {M:Nat} {R:Res} (h:Okd M R.a R.n):chkL (fin R)=0/\∀x∈fin R,x.t.size<=M:=by
 have hE:=okd_end h;unfold fin;obtain⟨b,hb⟩:∃b,endL R.a R.n=b:=⟨_,rfl⟩
 have e4:(bef b b.length).k=4:=by
  rw[← hb];by_cases e:(bef R.a R.a.length).k=4
  · have e2:endL R.a R.n=R.a:=by unfold endL;rw[opn_bef,if_neg (by simp[e])]
    rw[e2];exact e
  · have e2:endL R.a R.n=R.a++[⟨4,mt,0,(R.n:Int)⟩]:=by unfold endL;rw[opn_bef,if_pos (by simp[e])]
    rw[e2,bef_snoc]
 rw[hb] at hE ⊢;have hsh:=hE.shut e4;have hp:=h.pos;refine⟨?_,fun x hx=>?_⟩
 · have hall:orF (chkK (b++[(⟨0,mt,0,(R.n:Int)⟩:Tk)])) (b++[(⟨0,mt,0,(R.n:Int)⟩:Tk)]).length=0:=by
    rw[orF_iff];intro k hk;rw[List.length_append,List.length_cons,List.length_nil] at hk;unfold chkK;rw[bef_snoc_lt (by omega),List.length_append,List.length_cons,List.length_nil];rcases Nat.lt_or_ge k b.length with g|g
    · rw[getD_snoc_lt g,decide_eq_false (by omega:¬k+1=b.length+(0+1))];exact hE.each k g
    · obtain rfl:k=b.length:=by omega
      rw[getD_snoc,decide_eq_true (by omega:b.length+1=b.length+(0+1))];have e1:fmB ⟨0,mt,0,(R.n:Int)⟩=true:=by unfold fmB;simp[mt];rfl
      have e2:plB (bef b b.length).k 0 true=true:=by unfold plB;rw[e4];rfl
      have e3:orB (decide (b.length=0)) (bef b b.length).k (bef b b.length).l 0 (R.n:Int)=true:=by
       unfold orB;by_cases e:b.length=0
       · rw[decide_eq_true e,if_pos rfl];exact decide_eq_true (by omega)
       · rw[decide_eq_false e,if_neg (by decide),if_neg (by simp[e4]),if_pos rfl];exact decide_eq_true (by omega)
      unfold chkA;rw[e1,e2,e3,if_neg (show ¬((0:Int)<0∨(4:Int)<0) by decide)];rfl
   unfold chkL;rw[if_pos hall,bef_snoc,if_pos rfl]
 · rcases List.mem_append.1 hx with hx|hx
   · exact hE.size x hx
   · rw[List.mem_singleton] at hx;rw[hx];show(0:Nat)<=M;omega
theorem tok_valid {l:List UInt8} (h:tokE l=0):chkL (tokL l)=0/\∀x∈tokL l,x.t.size<=l.length:=by
 have hl:¬20000<l.length:=fun g=>by rw[(tok_long g).2.2] at h;cases h
 have hb:(lexL l [] 1).bad=false:=by
  cases e:(lexL l [] 1).bad with
  | false=>rfl
  | true=>rw[(tok_bad hl e).2.2] at h;cases h
 rw[(tok_good hl hb).1];exact okd_fin (okd_lex l.length l [] 1 (Nat.le_refl _) (Nat.le_refl _) ⟨Nat.le_refl _,fun g=>absurd rfl g,fun _=>by show(0:Int)<_;decide,fun k hk=>absurd hk (Nat.not_lt_zero _),fun x hx=>by cases hx⟩)
end Go.Proofs.YtbgodajefaahdaaGreatDoor.Lx
namespace Go.Proofs.YtbgodajefaahdaaGreatDoor.Lx
open Go.Proofs.YtbgodajefaahdaaGreatDoor.Nu
open Go.RowKit
set_option maxHeartbeats 4000000
inductive Ahead (l:List UInt8) (N:Nat):Prop where
 | word (h0:0<N) (hw:isWd (l.take N)=true) (hd:isDg (l.take N)=false) (hf:fstO l=some (⟨1,mkS (l.take N),0,0⟩,N))
 | num (v:Int) (h0:0<N) (hw:isWd (l.take N)=false) (hd:isDg (l.take N)=true) (hn:numO (l.take N)=some v) (hf:fstO l=some (⟨2,mt,v,0⟩,N))
 | bad (h0:0<N) (hw:isWd (l.take N)=false) (hd:isDg (l.take N)=true) (hn:numO (l.take N)=none) (hf:fstO l=none)
 | sign (h0:0<N) (hw:isWd (l.take N)=false) (hd:isDg (l.take N)=false) (hf:fstO l=some (⟨3,mkS (l.take N),0,0⟩,N))
 | none (h0:N=0) (hw:isWd (l.take N)=false) (hd:isDg (l.take N)=false) (hf:fstO l=none)
structure RAt (s:ByteArray) (R:Res) (q n:Nat) (a:List Tk):Prop where
 hq:q<=s.size
 rest:lexL ((bs s).drop q) a n=R
 len:a.length<=q
 line:n<=q+1
structure RW (w:World) (v:Value) (a:List Tk) (wr:World):Prop where
 own:Own w.heap.size wr v a
 below:Below w.heap.size w wr
end Go.Proofs.YtbgodajefaahdaaGreatDoor.Lx
namespace Go.Proofs.YtbgodajefaahdaaGreatDoor.Lx
open Go.Proofs.YtbgodajefaahdaaGreatDoor.Nu
set_option maxHeartbeats 1000000
def Brk (e:List UInt8):Prop:=∀c,e.head?=some c->c=32∨c=10
theorem Brk.ltr {e:List UInt8} (h:Brk e):∀c,e.head?=some c->ltrC c=false:=fun c hc=>by rcases h c hc with rfl|rfl <;> decide
theorem Brk.dig {e:List UInt8} (h:Brk e):∀c,e.head?=some c->digC c=false:=fun c hc=>by rcases h c hc with rfl|rfl <;> decide
theorem Brk.wrd {e:List UInt8} (h:Brk e):∀c,e.head?=some c->wrdC c=false:=fun c hc=>by rcases h c hc with rfl|rfl <;> decide
theorem sg_brk2 {b c:UInt8} (h:c=32∨c=10):isSg [b,c]=false:=by
 unfold isSg sgl;simp only[List.contains_eq_mem,decide_eq_false_iff_not,List.mem_cons,List.cons.injEq,reduceCtorEq,and_false,List.not_mem_nil,or_false,and_true];rcases h with rfl|rfl <;> simp
theorem fst_app {l e:List UInt8} (hl:l ≠ []) (h:Brk e):fstO (l++e)=fstO l:=by
 have e1:=spn_app (l:=l) h.ltr;have e2:=spn_app (l:=l) h.dig;have e3:=spn_app (l:=l) h.wrd;have l2:=spn_le digC l;have l3:=spn_le wrdC l;have hpos:1<=l.length:=by cases l with|nil=>exact absurd rfl hl|cons c t=>simp
 unfold fstO;rw[e1,e2,e3,List.take_append_of_le_length l2,List.take_append_of_le_length l3,List.take_append_of_le_length hpos];have key:(2<=(l++e).length/\isSg ((l++e).take 2)=true)↔(2<=l.length/\isSg (l.take 2)=true):=by
  by_cases g:2<=l.length
  · rw[List.take_append_of_le_length g,List.length_append];constructor
    · rintro⟨_,g2⟩;exact⟨g,g2⟩
    · rintro⟨_,g2⟩;exact⟨by omega,g2⟩
  · constructor
    · rintro⟨g1,g2⟩;exfalso
      match l,hl,g with
      | [b],_,_=>
       cases e with
       | nil=>simp at g1
       | cons c t=>
        have g3:isSg [b,c]=true:=g2;rw[sg_brk2 (h c rfl)] at g3;cases g3
      | _::_::_,_,g=>simp at g
    · rintro⟨g1,_⟩;exact absurd g1 g
 simp only[key];by_cases g:2<=l.length/\isSg (l.take 2)=true
 · rw[List.take_append_of_le_length g.1]
 · simp only[if_neg g]
theorem lex_app {e:List UInt8} (h1:Brk e) (h2:∀(a:List Tk) (n:Nat),lexL (e.drop (spn inlC e)) a n=lexL e a n):∀(k:Nat) (l:List UInt8) (a:List Tk) (n:Nat),l.length<=k ->
 lexL (l++e) a n=if (lexL l a n).bad=true then lexL l a n else lexL e (lexL l a n).a (lexL l a n).n
 | 0,l,a,n,h=>by
  have:l=[]:=List.length_eq_zero_iff.1 (by omega);subst this;rw[lexL_nil,List.nil_append,if_neg (by simp)]
 | k+1,[],a,n,h=>by rw[lexL_nil,List.nil_append,if_neg (by simp)]
 | k+1,c::t,a,n,h=>by
  have ht:t.length<=k:=by simpa using h
  rw[lexL_cons c t,List.cons_append,lexL_cons c (t++e)];by_cases g1:c=32∨c=9
  · rw[if_pos g1,if_pos g1];exact lex_app h1 h2 k t a n ht
  rw[if_neg g1,if_neg g1];by_cases g2:c=35
  · rw[if_pos g2,if_pos g2];have h3:=spn_one (p:=inlC) (c:=c) (t:=t) (by rw[g2];exact inl_35);have h4:=spn_le inlC (c::t);rcases Nat.lt_or_ge (spn inlC (c::t)) (c::t).length with g|g
    · have e1:=spn_short (e:=e) g;rw[List.cons_append] at e1;rw[e1,← List.cons_append,List.drop_append_of_le_length h4];exact lex_app h1 h2 k _ a n (by rw[List.length_drop,List.length_cons];omega)
    · have e0:spn inlC (c::t)=(c::t).length:=by omega
      have e1:=spn_long (e:=e) e0;rw[List.cons_append] at e1;rw[e1,e0,List.drop_length,lexL_nil,if_neg (by simp),← List.cons_append,← List.drop_drop,List.drop_left,h2]
  rw[if_neg g2,if_neg g2];by_cases g3:c=10
  · rw[if_pos g3,if_pos g3];exact lex_app h1 h2 k t _ _ ht
  rw[if_neg g3,if_neg g3];have e1:=fst_app (l:=c::t) (List.cons_ne_nil _ _) h1;rw[List.cons_append] at e1;rw[e1]
  cases h4:fstO (c::t) with
  | none=>rw[if_pos rfl]
  | some y=>
   obtain⟨x,m⟩:=y;have h5:=fst_size h4
   show lexL ((c::(t++e)).drop m) _ _=_
   rw[← List.cons_append,List.drop_append_of_le_length h5.2];exact lex_app h1 h2 k _ _ n (by rw[List.length_drop,List.length_cons];omega)
end Go.Proofs.YtbgodajefaahdaaGreatDoor.Lx
